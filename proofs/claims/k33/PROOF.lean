import PyProof.Rows.All
import Wide.All
import OpenK.AllK
import Wide.FinOn
import Lean
import PyProof.EqAt
import PyProof.EqKinds
import PyProof.TupleCall
import PySem.Challenge.RW_turnsigns_k33_triangles_by_last_rows
set_option Elab.async false
set_option linter.all false
set_option maxRecDepth 100000
set_option maxHeartbeats 0
local macro_rules | `(tactic|rfl')=>`(tactic|decide +kernel)
abbrev Qq:=@PySem.wpAny_bind
abbrev Qz:=@PySem.wpAny_pure
abbrev Qj:=PySem.W.Frag
abbrev Qx:=@PySem.Heap.get?_push_of_some
abbrev Qk:=@Option.bind_some
abbrev Qv:=@List.length_map
abbrev Qw:=@PySem.Heap.get?_push_size
abbrev Qy:=@Nat.le_refl
abbrev Qu:=@PySem.Heap.lt_size
abbrev Qp:=@List.mem_cons
abbrev Qb:=@if_neg
abbrev Qg:=@if_pos
abbrev Qh:=@List.size_toArray
abbrev Qm:=@List.map_cons
abbrev Qn:=@Nat.le_trans
abbrev Qc:=@List.getElem?_eq_some_iff
abbrev Ql:=@Nat.lt_of_lt_of_le
abbrev Qd:=@Nat.ne_of_lt
abbrev Qr:=@Bool.and_eq_true
abbrev Qs:=@List.getElem?_set_ne
abbrev Qi:=@PySem.wpAny_newObj_type
abbrev Qt:=@Array.getElem?_eq_getElem
abbrev Qa:=@Bool.false_ne_true
abbrev Qe:=@List.getElem?_eq_getElem
abbrev Qo:=@List.mem_cons_of_mem
abbrev Zq:=@Bool.false_eq_true
abbrev Zz:=@PySem.wpAny_call_entry
abbrev Zj:=@PySem.wpAny_mono
abbrev Zx:=@List.length_append
abbrev Zk:=@PySem.wpAny_callSpecial?_slot
abbrev Zv:=@List.mem_cons_self
abbrev Zw:=@List.getElem?_map
abbrev Zy:=@Nat.le_of_lt
abbrev Zu:=@List.mem_append_right
abbrev Zp:=@PySem.mem_of_lookup
abbrev Zb:=@List.all_eq_true
abbrev Zg:=@decide_eq_false
abbrev Zf:=@PySem.W.kia_one
abbrev Zh:=@PyProof.Rows.slot_tuple_getitem
abbrev Zm:=@List.mem_map
abbrev Zn:=@PySem.W.mg_none_of
abbrev Zc:=@PySem.Heap.SameBut.update
abbrev Zl:=@List.getD_eq_getElem?_getD
abbrev Zd:=@List.length_cons
abbrev Zr:=@List.not_mem_nil
abbrev Zs:=@Nat.le_add_right
abbrev Zi:=@Option.map_some
abbrev Zt:=@PySem.wpAny_field
abbrev Za:=@Ne.symm
abbrev Ze:=@PySem.wpAny_holding
abbrev Zo:=@if_false
abbrev Yq:=@Array.length_toList
abbrev Yz:=@congrArg
abbrev Yj:=@Int.toNat_natCast
abbrev Yx:=@Option.some.injEq
abbrev Yk:=@decide_eq_true_eq
abbrev Yv:=@Array.getElem?_eq_none
abbrev Yw:=@if_true
abbrev Yy:=@Option.isSome_iff_exists
abbrev Yu:=@Nat.zero_add
abbrev Yp:=@List.mem_range
abbrev Yb:=@decide_eq_true
abbrev Yg:=@List.length_set
abbrev Yh:=@PySem.F.slot_dict_itemiterator_next
abbrev Ym:=@List.getElem?_set_self
abbrev Yn:=@PySem.wpAny_setField_rec
abbrev Yc:=@List.pairwise_cons
abbrev Yl:=@Option.some.inj
abbrev Yd:=@PySem.W.kia_tup
abbrev Yr:=@List.length_take
abbrev Ys:=@List.map_map
abbrev Yi:=@List.length_replicate
abbrev Yt:=@Nat.zero_le
abbrev Ye:=@PySem.Obj.data_mapFields
abbrev Yo:=@Option.map_none
abbrev Jq:=@PySem.W.kitx_dict
abbrev Jz:=@Nat.lt_succ_of_lt
abbrev Jj:=@PySem.Heap.size_push
abbrev Jx:=@Nat.lt_or_ge
abbrev Jk:=@PySem.wpAny_truthy_bool
abbrev Jv:=@PySem.wpAny_dictEntries
abbrev Jw:=@List.length_zipWith
abbrev Jy:=@Classical.byContradiction
abbrev Ju:=@List.map_append
abbrev Jp:=@PySem.Heap.get?_update_self
abbrev Jb:=@PySem.F.slot_dict_valueiterator_next
abbrev Jg:=@List.mem_singleton
abbrev Jf:=@Nat.lt_irrefl
abbrev Jh:=@PySem.wpAny_attempt
abbrev Jm:=@PySem.W.Fast.te14364793385576792824
abbrev Jn:=@PySem.wpAny_setField
abbrev Jc:=@PySem.F.slot_dict_keyiterator_next
abbrev Jl:=@PySem.wpAny_dictEpoch
abbrev Jd:=@List.filterMap_cons
abbrev Jr:=@PySem.sizeLine_eq
abbrev Js:=@List.take_of_length_le
abbrev Ji:=@PySem.F.slot_tuple_iterator_next
abbrev Jt:=@Array.getElem?_toList
abbrev Ja:=@List.getElem?_zipWith
abbrev Je:=@List.getElem?_append_left
abbrev Jo:=@List.append_nil
abbrev Uq:=@List.length_nil
abbrev Uz:=@PySem.codeAny_builtin
abbrev Uj:=@PySem.Around.under_plainId
abbrev Ux:=@PySem.wpAny_typeNameOfWhole_itemiter
abbrev Uk:=@List.all_cons
abbrev Uv:=@PySem.wpAny_typeNameOfWhole_valiter
abbrev Uw:=@PySem.wpAny_typeNameOfWhole_keyiter
abbrev Uy:=@List.eraseIdx_cons_succ
abbrev Uu:=@or_false
abbrev Up:=@PySem.wpAny_seqItems
abbrev Ub:=@PySem.wpAny_fieldsOf
abbrev Ug:=@PySem.W.hideAll_get
abbrev Uh:=@PyProof.Rows.callWith_type1
abbrev Um:=@List.mem_filterMap
abbrev Uc:=@PyProof.Rows.F.plain_set_update_loop
abbrev Ul:=@Nat.pos_of_ne_zero
abbrev Ud:=@List.nodup_cons
abbrev Ur:=@PySem.Obj.isFreed_of_fields
abbrev Us:=@Int.emod_nonneg
abbrev Ui:=@congrFun
abbrev Ut:=@Prod.ext
abbrev Ua:=@Nat.le_of_succ_le
abbrev Ue:=@List.append_assoc
abbrev Uo:=@PySem.wpAny_pyIter_slot
abbrev Vq:=@List.flatMap_cons
abbrev Vz:=@List.mem_of_getElem?
abbrev Vj:=@PySem.wpAny_typeNameOf_itemiter
abbrev Vx:=@PySem.codeAny_mono
abbrev Vk:=@Nat.lt_trans
abbrev Vv:=@Nat.le_of_eq
abbrev Vw:=@PySem.wpAny_isInstance
abbrev Vy:=@PySem.wpAny_askSetting
abbrev Vu:=@PySem.wpAny_typeNameOf_valiter
abbrev Vp:=@PySem.wpAny_typeNameOf_keyiter
abbrev Vb:=@Nat.add_le_add_left
abbrev Vg:=@List.getElem?_replicate
abbrev Vf:=@PySem.F.plainAttrs_list
abbrev Vh:=@PySem.wpAny_Call_Name_kw
abbrev Vm:=@Nat.lt_of_le_of_lt
abbrev Vn:=@beq_iff_eq
abbrev Vc:=@Nat.not_lt_zero
abbrev Vl:=@Int.emod_lt_of_pos
abbrev Vd:=@PySem.W.kasC_bind
abbrev Vr:=@Nat.lt_of_le_of_ne
abbrev Vs:=@PySem.W.cellsFrom_some
abbrev Vi:=@PySem.SeqAt.canLay_of_shaped
abbrev Vt:=@PySem.wpAny_of_eq
abbrev Va:=@PySem.Obj.cls_mapFields
abbrev Ve:=@List.length_range
abbrev Vo:=@PySem.wpAny_setState_of
abbrev Xq:=@List.nodup_append
abbrev Xz:=@PySem.F.slot_zip_next
abbrev Xj:=@Nat.succ_pos
abbrev Xx:=@List.set_append_right
abbrev Xk:=@List.mem_append_left
abbrev Xv:=@PySem.wpAny_rule
abbrev Xw:=@PySem.wpAny_standAt
abbrev Xy:=@PySem.W.mg_of
abbrev Xu:=@Nat.le_succ
abbrev Xp:=@PySem.Heap.get?_update_ne
abbrev Xb:=@PySem.F.args_dict_valueiterator_next_1
abbrev Xg:=@List.mem_map_of_mem
abbrev Xf:=@List.mem_append
abbrev Xh:=@PySem.wpAny_execs_nil
abbrev Xm:=@PySem.wpAny_passesOwn
abbrev Xn:=@PySem.Calls.call_function_entry
abbrev Xc:=@PySem.F.entry_dict_valueiterator_next
abbrev Xl:=@PySem.F.args_dict_itemiterator_next_1
abbrev Xd:=@PySem.wpAny_typeOf
abbrev Xr:=@PySem.wpAny_pyIter_tuple
abbrev Xs:=@PySem.F.args_tuple_add_2
abbrev Xi:=@PyProof.Rows.preSum_getD
abbrev Xa:=@List.length_erase_of_mem
abbrev Xe:=@PySem.F.args_dict_keyiterator_next_1
abbrev Xo:=@PySem.F.entry_dict_itemiterator_next
abbrev Tq:=@PyProof.Rows.F.entry_set_update_loop
abbrev Tz:=@PySem.isSubtype_stop
abbrev Tj:=@PySem.F.entry_dict_keyiterator_next
abbrev Tx:=@PySem.F.slot_dict_itemiterator_iter
abbrev Tv:=@PySem.F.entry_tuple_add
abbrev Tw:=@PySem.F.plainAttrs_dict
abbrev Tu:=@List.filter_cons_of_neg
abbrev Tp:=@List.filter_cons_of_pos
abbrev Tg:=@PySem.W.kitx_list
abbrev Tf:=@PySem.wpAny_pyIter_list
abbrev Th:=@PySem.F.args_tuple_iterator_next_1
abbrev Tn:=@Nat.le_of_lt_succ
abbrev Tc:=@Array.getElem_mem
abbrev Tl:=@Nat.lt_of_succ_lt
abbrev Td:=@PySem.F.slot_tuple_add
abbrev Tr:=@PySem.F.entry_tuple_iterator_next
abbrev Ts:=@List.findIdx?_eq_some_iff_getElem
abbrev Ti:=@Option.map_eq_some_iff
abbrev Tt:=@PySem.wpAny_isOneOf_itemiter
abbrev Ta:=@PySem.wpAny_handled
abbrev Te:=@PySem.wpAny_onRaise
abbrev To:=@PySem.wpAny_newList
abbrev Pq:=@List.map_take
abbrev Pz:=@List.map_drop
abbrev Pj:=@beq_self_eq_true
abbrev Px:=@List.getElem_mem
abbrev Pk:=@LawfulBEq.eq_of_beq
abbrev Pw:=@List.getElem?_eq_none
abbrev Py:=@PySem.wpAny_isOneOf_valiter
abbrev Pu:=@PySem.wpAny_notOrdered_dict
abbrev Pp:=@Nat.ne_of_gt
abbrev Pb:=@List.of_mem_zip
abbrev Pg:=@PySem.pushCells_keeps
abbrev Pf:=@PySem.wpAny_updateSeq_pair
abbrev Ph:=@PyProof.Rows.get?_update_seq
abbrev Pm:=@Nat.not_lt
abbrev Pn:=@PySem.codeAny_call_builtin
abbrev Pc:=@PySem.codeAny_of_tree
abbrev Pl:=@List.nil_append
abbrev Pd:=@Nat.mod_lt
abbrev Pr:=@Nat.le_add_left
abbrev Ps:=@PySem.F.slot_dict_values_iter
abbrev Pa:=@beq_eq_false_iff_ne
abbrev Pe:=@PySem.wpAny_setEntries_of
abbrev Po:=@List.filter_eq_self
abbrev Rq:=@List.forIn_nil
abbrev Rz:=@PySem.wpAny_newTuple
abbrev Rj:=@List.nodup_nil
abbrev Rx:=@PySem.F.slot_dict_items_iter
abbrev Rk:=@PySem.wpAny_throw
abbrev Rv:=@PySem.W.kitx_tuple
abbrev Rw:=@List.zip_cons_cons
abbrev Ry:=@Array.getElem?_map
abbrev Ru:=@Bool.true_and
abbrev Rp:=@PySem.plainId_quiet
abbrev Rb:=@List.take_sublist
abbrev Rg:=@List.reverse_cons
abbrev Rf:=@Bool.not_eq_true'
abbrev Rh:=@bne_self_eq_false
abbrev Rm:=@List.ext_getElem?
abbrev Rn:=@Array.toList_push
abbrev Rc:=@PySem.intKind_is
abbrev Rl:=@List.length_drop
abbrev Ri:=@List.map_nil
abbrev Rt:=@Nat.succ_le_succ
abbrev Ra:=@Array.toList_map
abbrev Ro:=@List.getElem_map
abbrev Sq:=@List.cons.injEq
abbrev Sz:=@List.forIn_cons
abbrev Sj:=@Nat.min_eq_left
abbrev OO:=List (List Int)
abbrev OI:=PySem.Str->Option PySem.Value
abbrev OU:=PySem.Value->PySem.Shared->Prop
abbrev OE:=PySem.Addr->Prop
abbrev OA:=List (PySem.Addr×PySem.Obj)
abbrev aa:=PySem.SetTable
abbrev ae:=PySem.DictEntry
abbrev af:=PySem.Program
abbrev ag:=PySem.World
abbrev ah:=PySem.Addr
abbrev aj:=PySem.Value
abbrev ak:=PySem.Shared
abbrev ao:=List PySem.Value
abbrev aq:=List Int
abbrev ar:=List PySem.Str
abbrev au:=List PySem.Expr
abbrev ay:=List Bool
abbrev az:=Array PySem.Value
namespace HG
open PySem PySem.W PySem.Calls PyProof.Rows
noncomputable def rM {α:Type}(l:List α) (i:Nat) (d:α):α:=@List.rec α (fun _=>Nat->α) (fun _=>d) (fun a _ ih i=>@Nat.rec (fun _=>α) a (fun j _=>ih j) i) l i
def rO(s:Stmt):Str:=match s with
 |.FunctionDef n ..=>n
 |.ClassDef n ..=>n
 |_=>Str.empty
def xT(s:Stmt):Arguments:=match s with
 |.FunctionDef _ a ..=>a
 |_=>default
def xU(s:Stmt):List Stmt:=match s with
 |.FunctionDef _ _ b ..=>b
 |.ClassDef _ _ _ b ..=>b
 |_=>[]
def xV(s:Stmt):Scope:=match s with
 |.FunctionDef _ _ _ _ _ _ c ..=>c
 |_=>default
def y9(s:Stmt):Pos:=match s with
 |.FunctionDef _ _ _ _ _ _ _ _ _ p=>p
 |_=>⟨0,0,0,0⟩
def qX{α:Sort u}(_:α):Bool:=true
def hE(P:Params)(x:Str)(t:Tok)(v:aj):ae:=⟨PyData.keyHash P x,.str x t,v⟩
def hZ:Obj:=⟨.type "tuple",none,.seq ⟨[]⟩ 0,⟨[]⟩⟩
def hU(l:ao):Obj:=⟨.type "tuple",none,.seq ⟨l⟩ 0,⟨[]⟩⟩
def hN:Obj:=⟨.none,none,.fields ⟨[]⟩,⟨[]⟩⟩
def hC(n:Str)(t t2:Nat)(ln na fl:Int)(a:ah)(g:Bool)(b:ah)(v1 v2 v3 v4:aj):Obj:=
 ⟨.type "code",none,.fields ⟨[.str n t,.str n (Nat.add t 1),.str "/claim/cut.py" (Nat.add t 2),.int ln 0,.int na 0,.int 0 0,.int 0 0,.int fl 0,.ref a,.bool g,.int 181 0,.ref b,v1,v2,v3,v4,.int (Int.ofNat t2) 0,.int ln 0,.str "/claim/cut.py" (Nat.add t2 1)]⟩,⟨[]⟩⟩
def hX(s:Stmt)(q:Str)(g:ah)(cl:List (Str×ah))(d k dc m:aj)(an:Option ah)(c ct:aj)(b:ah):FuncData:=
 ⟨rO s,q,xT s,.stmts (xU s),xV s,g,cl,d,k,dc,m,an,c,ct,b⟩
def hR(s:Stmt):Obj:=⟨.none,none,.func (hX s (rO s) 0 [] .none .none .none .none none .none .none 0),⟨[]⟩⟩
def hF(s:Stmt)(m c:aj):Obj:=⟨.type "function",none,.func (hX s (rO s) 3 [] .none .none .none m none c .none 0),⟨[]⟩⟩
def sL(s:Stmt)(a t:Nat)(ln na:Int)(m:aj):List Obj:=[hZ,hN,hR s,hC (rO s) t (Nat.add t 3) ln na 3 a true (Nat.add a 1) .none .none .none (.ref (Nat.add a 2)),hF s m (.ref (Nat.add a 3))]
noncomputable def wF (l:ar) (t:Nat):ao:=@List.rec Str (fun _=>Nat->ao) (fun _=>[]) (fun x _ ih t=>.str x t::ih (Nat.succ t)) l t
noncomputable def qY (s:Stmt) (a t:Nat) (ln na:Int) (m:aj) (l:ar):List Obj:=[hZ,hN,hU (wF l (Nat.add t 3)),hZ,hR s,hC (rO s) t (Nat.add (Nat.add t 3) l.length) ln na 3 a true (Nat.add a 1) .none (.ref (Nat.add a 2)) (.ref (Nat.add a 3)) (.ref (Nat.add a 4)),hF s m (.ref (Nat.add a 5))]
def qZ(P:Params)(s:Stmt)(a t:Nat)(ln:Int)(m:aj):List Obj:=
 [⟨.type "builtin_function_or_method",none,.fields ⟨[.builtin "type.__prepare__",.type "type"]⟩,⟨[]⟩⟩,
  ⟨.type "dict",none,.dict ⟨[hE P "__module__" (Nat.add t 7) m,hE P "__qualname__" (Nat.add t 9) (.str (rO s) (Nat.add t 8)),hE P "__firstlineno__" (Nat.add t 11) (.int ln (Nat.add t 10)),hE P "__static_attributes__" (Nat.add t 12) (.ref (Nat.add a 6))]⟩ 4,⟨[]⟩⟩,
  hZ,hN,hC (rO s) (Nat.add t 2) (Nat.add t 5) ln 0 0 (Nat.add a 2) false (Nat.add a 3) .none .none .none .none,
  ⟨.type "frame",none,.plain,⟨[some (.ref (Nat.add a 4)),some (.ref 3),some (.ref (Nat.add a 1)),none,some m,none,some (.ref 0)]⟩⟩,hZ,
  ⟨.type "dict",none,.dict ⟨[hE P "__module__" (Nat.add t 7) m,hE P "__firstlineno__" (Nat.add t 11) (.int ln (Nat.add t 10)),hE P "__static_attributes__" (Nat.add t 12) (.ref (Nat.add a 6)),hE P "__doc__" (Nat.add t 13) .none]⟩ 2,⟨[]⟩⟩,
  ⟨.type "type",none,.cls ⟨rO s,[.ref 24],[.ref (Nat.add a 8),.ref 24,.type "ValueError",.type "Exception",.type "BaseException",.type "object"],Nat.add a 7,rO s,true,[],[],false,none,false⟩,⟨[some (.ref (Nat.sub a 1)),none,some (.str (rO s) t),some (.str (rO s) (Nat.add t 8)),some (.builtin "ValueError.__new__"),some (.bool true)]⟩⟩,
  ⟨.type "super",none,.fields ⟨[.ref (Nat.add a 8),.ref (Nat.add a 8),.ref (Nat.add a 8)]⟩,⟨[]⟩⟩,
  ⟨.type "builtin_function_or_method",none,.fields ⟨[.builtin "object.__init_subclass__",.ref (Nat.add a 8)]⟩,⟨[]⟩⟩]
noncomputable def zA (l:List (Nat×List Obj)) (b:Nat):Obj:=@List.rec (Nat×List Obj) (fun _=>Nat->Obj) (fun _=>hZ) (fun x _ ih b=>@Bool.rec (fun _=>Obj) (ih (Nat.sub b x.1)) (rM x.2 b hZ) (Nat.blt b x.1)) l b
def zB(l:List (Int×ah)):ao:=l.flatMap fun x=>[.int x.1 0,.int 0 0,.ref x.2]
noncomputable def zC (f:Nat->Obj) (n:Nat) (fuel:Nat):Nat->Nat->BT:=
 @Nat.rec (fun _=>Nat->Nat->BT) (fun _ _=>.nil) (fun _ ih a b=>@Bool.rec (fun _=>BT) .nil (.node (f b) (ih (Nat.mul 2 a) (Nat.add a b)) (ih (Nat.mul 2 a) (Nat.add (Nat.mul 2 a) b))) (Nat.blt b n)) fuel
def wG(p:af)(c:aj)(f:ah):Env:={scope:=p.main.scope,locals:=mainNs,globals:=mainNs,cells:=[],code:=c,frame:=some f}
def zD(p:af)(l:List Nat):af:={p with main:={p.main with body:=l.map fun i=>p.main.body.getD i (.Pass ⟨0,0,0,0⟩)}}
abbrev qQ(tr:Nat->Params->BT)(k n t:Nat)(w:ag)(os:OsState):SharedT:=⟨tr k w.params,n,{},⟨[]⟩,{},t,os⟩
abbrev qG(p:af)(ev:Env):Code:=.body (behindTheImports p) ev
def tX(m0:Nat)(ann:Option aj)(n n0 t0:Nat)(q q0:Pos)(tg:(String->Option Builtin)->af->ag->Nat->Option aj->Nat->ak->Thread->Option (ak×Thread))(dn:(String->Option Builtin)->Code->Sem Fin)(tb:String->Option Builtin)(p:af)(tr:Nat->Params->BT)(ev:Env):Prop:=
 ∀w:ag,(fun os=>tg tb p w m0 ann n ⟨boot_heap w.params,⟨[]⟩,boot_drawn,boot_toks,os⟩ (topStub p))=fun os=>some ((qQ tr 0 n0 t0 w os).abs,Thread.mk (dn tb (qG p ev)) (qG p ev) q0 [topFrame q])
def tY(m0:Nat)(ann:Option aj)(n n0 t0:Nat)(q q0 q1:Pos)(sr:(String->Option Builtin)->af->ag->Nat->Option aj->Nat->Nat->ak->Thread->Option (Flow×ak×Code×Pos))(tb:String->Option Builtin)(p:af)(tr:Nat->Params->BT)(ev:Env):Prop:=
 ∀w:ag,(fun os=>sr tb p w m0 ann 1 n (qQ tr 0 n0 t0 w os).abs (blockOf (behindTheImports p) ev (qG p ev) q0 [topFrame q]))=fun os=>some (.next,(qQ tr 0 n0 t0 w os).abs,qG p ev,q1)
def o7(m0:Nat)(ann:Option aj)(n i j k n0 t0 n1 t1:Nat)(q q0 q1:Pos)(sr:(String->Option Builtin)->af->ag->Nat->Option aj->Nat->Nat->SharedT->Thread->Option (Flow×SharedT×Code×Pos))(tb:String->Option Builtin)(p:af)(tr:Nat->Params->BT)(ev:Env):Prop:=
 ∀w:ag,(fun os=>sr tb p w m0 ann 1 n (qQ tr k n0 t0 w os) (piecesOf (((behindTheImports p).drop i).take j) ev (qG p ev) q0 [topFrame q]))=fun os=>some (.next,qQ tr (Nat.succ k) n1 t1 w os,qG p ev,q1)
def tZ(m0:Nat)(ann:Option aj)(n k n0 t0:Nat)(q q0:Pos)(sr:(String->Option Builtin)->af->ag->Nat->Option aj->Nat->ak->Thread->Option ak)(tb:String->Option Builtin)(p:af)(tr:Nat->Params->BT)(ev:Env):Prop:=
 ∀w:ag,(fun os=>sr tb p w m0 ann n (qQ tr k n0 t0 w os).abs (Thread.mk (doneF .next) (qG p ev) q0 [topFrame q]))=fun os=>some (qQ tr k n0 t0 w os).abs
variable{m0:Nat}{ann:Option aj}{q q0 q1:Pos}{tb:String->Option Builtin}{p:af}{tr:Nat->Params->BT}{ev:Env}{n N i j k n0 t0 n1 t1:Nat}{r:ak}
theorem hgo(h:tX m0 ann n n0 t0 q q0 topGo denote tb p tr ev)(w:ag)(os:OsState)(g:topRun tb p w m0 ann N (qQ tr 0 n0 t0 w os).abs (Thread.mk (denote tb (qG p ev)) (qG p ev) q0 [topFrame q])=some r):
  topRun tb p w m0 ann (Nat.add n N) ⟨boot_heap w.params,⟨[]⟩,boot_drawn,boot_toks,os⟩ (topStub p)=some r:=go_top (Ui (h w) os) g
theorem u3(h:tY m0 ann n n0 t0 q q0 q1 segRun tb p tr ev)(w:ag)(os:OsState)(g:topRun tb p w m0 ann N (qQ tr 0 n0 t0 w os).abs (restOf ((behindTheImports p).drop 0) ev (qG p ev) q1 [topFrame q])=some r):
  topRun tb p w m0 ann (Nat.add n N) (qQ tr 0 n0 t0 w os).abs (Thread.mk (denote tb (qG p ev)) (qG p ev) q0 [topFrame q])=some r:=piece_block (Ui (h w) os) g
theorem nQ(h:o7 m0 ann n i j k n0 t0 n1 t1 q q0 q1 segRunT tb p tr ev)(w:ag)(os:OsState)(g:topRun tb p w m0 ann N (qQ tr (Nat.succ k) n1 t1 w os).abs (restOf ((behindTheImports p).drop (Nat.add i j)) ev (qG p ev) q1 [topFrame q])=some r):
  topRun tb p w m0 ann (Nat.add n N) (qQ tr k n0 t0 w os).abs (restOf ((behindTheImports p).drop i) ev (qG p ev) q0 [topFrame q])=some r:=by
 have a:=piece_app (segRun_of (Ui (h w) os)) g;have e:((behindTheImports p).drop i).take j++(behindTheImports p).drop (Nat.add i j)=(behindTheImports p).drop i:=by
  have:=List.take_append_drop j ((behindTheImports p).drop i);rw[List.drop_drop]at this;exact this
 rw[e]at a;exact a
theorem u4(e:(behindTheImports p).drop i=[])(h:tZ m0 ann n k n0 t0 q q0 topRun tb p tr ev)(w:ag)(os:OsState):
  topRun tb p w m0 ann n (qQ tr k n0 t0 w os).abs (restOf ((behindTheImports p).drop i) ev (qG p ev) q0 [topFrame q])=some (qQ tr k n0 t0 w os).abs:=by
 rw[e];exact Ui (h w) os
abbrev rA(H:Params->Heap)(t:Nat)(w:ag)(os:OsState):ak:=⟨H w.params,⟨[]⟩,{},t,os⟩
structure wH(p v:af)(H:Params->Heap)(K:Params->Frag)(as ts:List ah)(t:Nat)(ls:ar:=[]):Prop where
 l1:∀w:ag,(fun os=>staticsOk (PySem.W.Fast.tw5923862056798008813 p.main.body) (boot_heap w.params) (H w.params)&&namesBound p (H w.params)&&gensDone (rA H t w os)&&laidKept (boot_heap w.params) (H w.params))=fun _=>true
 l2:∀w:ag,(fun os=>PySem.W.Fast.tw5160383126252970620 (PySem.W.R.mapR (fun x=>x.name) (PySem.W.Fast.tw3399658132070893891 v)) (PySem.W.Fast.tw5991557255702980513 v) [] (rA H t w os))=fun _=>expectedOf v
 l3:∀w:ag,(H w.params).bltView=bltViewBooted
 l4:∀w:ag,(fun os=>PySem.W.Fast.tw10880121769531294198 (H w.params) (PySem.W.Fast.tw821141287760084731 v ls) (PySem.W.R.mapR (fun x=>x.name) (PySem.W.Fast.tw3399658132070893891 v)) (PySem.W.R.mapR (fun x=>x.1) (PySem.W.Fast.tw7409074990110511671 v)) (PySem.W.R.mapR (fun x=>x.name) (PySem.W.Fast.tw13664370479719496447 v (PySem.W.Fast.tw821141287760084731 v ls)))&&PySem.W.Fast.tw14722251495701143533 (H w.params) (PySem.W.Fast.tw5923862056798008813 p.main.body)&&(H w.params).isNs mainGlobals&&(H w.params).isNs builtinsNs&&PySem.W.Fast.tw10994771534591457954 v (H w.params)&&(xlAt v [] (rA H t w os)&&recOk [] (rA H t w os))&&(if true then(rA H t w os).gens.size==0 else !leftWithCleanup (rA H t w os).gens))=fun _=>true
 l5:∀w:ag,(fun os=>PySem.W.Fast.tw479339242167458305 v (rA H t w os))=fun _=>true
 l6:∀w:ag,(fun os=>PySem.W.Fast.tw16090120013241838585 v (PySem.W.Fast.tw3247288618530077131 v) (rA H t w os))=fun _=>pinGoodD (PySem.W.Fast.tw3247288618530077131 v)
 l7:∀w:ag,(fun os=>PySem.W.Fast.tw2386780881361962483 v (PySem.W.Fast.tw821141287760084731 v ls) (rA H t w os))=fun _=>plainGoodE v (PySem.W.Fast.tw821141287760084731 v ls)
 l8:∀w:ag,(fun os=>PySem.W.Fast.tw11698064438423848299 v ls (rA H t w os))=fun _=>plainGoodD v ls
 l9:∀w:ag,(fun os=>PySem.W.Fast.tw7317090234206586261 v (rA H t w os))=fun _=>wideGood v
 l10:∀w:ag,(fun os=>PySem.W.Fast.tw7369524293546568484 v ls (rA H t w os))=fun _=>clsGoodW v ls
 l11:∀w:ag,PySem.W.R.mapR (H w.params).get? as=PySem.W.R.mapR (fun p=>some p.2) (K w.params)
 l12:∀w:ag,PySem.W.R.mapR (H w.params).get? ts=PySem.W.R.mapR (fun _=>some (tabObj #[])) ts
theorem hsize(w:ag):((boot_heap w.params).isNs mainGlobals&&(Array.mk []:Array GenState).size==0,(boot_heap w.params).objs.size,(boot_heap w.params).nsMap mainGlobals "__annotations__")=(true,11,some (.ref 6)):=by
 rw[PySem.W.Fast.te8920871248978507458,show("__annotations__":Str)=⟨⟨[95,95,97,110,110,111,116,97,116,105,111,110,115,95,95]⟩⟩from PySem.W.Fast.ofString_ofList ['_','_','a','n','n','o','t','a','t','i','o','n','s','_','_']]
 kernel_rfl
theorem hleft{v:af}{H:Params->Heap}{K:Params->Frag}{as ts:List ah}{t M:Nat}(e:∀P,as=(K P).map (·.1))(eo:opening p=plainProg p.main.scope.names)(hf:∀s,fenceModules? p s=some s)(hN:Nat.ble 600 N=true)(le:Nat.ble M N=true)
  (run:∀(w:ag) (os:OsState),topRun treeTable p w 11 (some (.ref 6)) M ⟨boot_heap w.params,⟨[]⟩,boot_drawn,boot_toks,os⟩ (topStub p)=some (rA H t w os)){ls:ar}(L:wH p v H K as ts t ls):
  LeftO p v ls (fun s=>xlAt v [] s&&recOk [] s) (Hook.obs (kmHook K as e ts)) (Hook.val (kmHook K as e ts)) N:=by
 refine LeftO.of_pieces (boot_open eo hN hf) hsize run le fun w=>?_;have q1:=L.l1 w;have q2:=L.l2 w;have q3:=L.l3 w;have q4:=L.l4 w;have q5:=L.l5 w;have q6:=L.l6 w;have q7:=L.l7 w;have q8:=L.l8 w;have q9:=L.l9 w;have q10:=L.l10 w;have q11:=L.l11 w;have q12:=L.l12 w;simp only[←PySem.W.Fast.te5923862056798008813,←PySem.W.Fast.te5160383126252970620,←PySem.W.R.mapR_eq,←PySem.W.Fast.te3399658132070893891,←PySem.W.Fast.te5991557255702980513,←PySem.W.Fast.te10880121769531294198,←PySem.W.Fast.te821141287760084731,←PySem.W.Fast.te7409074990110511671,←PySem.W.Fast.te13664370479719496447,←PySem.W.Fast.te14722251495701143533,←PySem.W.Fast.te10994771534591457954,←PySem.W.Fast.te479339242167458305,←PySem.W.Fast.te16090120013241838585,←PySem.W.Fast.te3247288618530077131,←PySem.W.Fast.te2386780881361962483,←PySem.W.Fast.te11698064438423848299,←PySem.W.Fast.te7317090234206586261,←PySem.W.Fast.te7369524293546568484]at q1 q2 q4 q5 q6 q7 q8 q9 q10 q11 q12
 funext os
 unfold openSeen openGood;refine Ut (Ui q1 os) (Ut (Ut (Ui q2 os) (Ut q3 (Ut (Ui q4 os) (Ut (Ui q5 os) (Ut (Ui q6 os) (Ut (Ui q7 os) (Ut (Ui q8 os) (Ut (Ui q9 os) (Ui q10 os))))))))) (Ut q11 q12))
end HG
namespace K33
noncomputable section
open PySem PySem.W PySem.Calls PyProof.Rows HG PySem.W.Fast PySem.Challenge
def hS(i:Nat):Stmt:=pw_turnsigns_k33_triangles_by_last_rows.main.body.getD i (.Pass ⟨0,0,0,0⟩)
def hm0:aj:=(.str "turnsigns.errors" 187)
def hm1:aj:=(.str "turnsigns.grids" 415)
def hm2:aj:=(.str "turnsigns.triangles" 439)
def qR:aj:=(.str "law_turnsigns_k33_triangles_by_last_rows" 492)
def hc0(P:Params):List (Nat×List Obj):=[(15,[boot_o_0 P,boot_o_1 P,boot_o_2 P,hZ,boot_o_4 P,boot_o_5 P,boot_o_6 P,boot_o_7 P,boot_o_8 P,boot_o_9 P,boot_o_10 P,hZ,hZ,hC "<module>" 182 185 1 0 0 11 false 12 .none .none .none .none,⟨(.type "frame"),none,.plain,⟨[(some (.ref 13)),(some (.ref 3)),(some (.ref 3)),none,(some (.str "__main__" 164)),none,(some (.ref 0))]⟩⟩]),(13,[hU [(.type "ValueError")],⟨(.type "builtin_function_or_method"),none,.fields ⟨[(.builtin "type.__prepare__"),(.type "type")]⟩,⟨[]⟩⟩,⟨(.type "dict"),none,.dict ⟨[hE P "__module__" 196 (.str "turnsigns.errors" 187),hE P "__qualname__" 198 (.str "SignError" 197),hE P "__firstlineno__" 200 (.int 2 199),hE P "__static_attributes__" 201 (.ref 22)]⟩ 4,⟨[]⟩⟩,hZ,hN,hC "SignError" 191 194 2 0 0 18 false 19 .none .none .none .none,⟨(.type "frame"),none,.plain,⟨[(some (.ref 20)),(some (.ref 3)),(some (.ref 17)),none,(some (.str "turnsigns.errors" 187)),none,(some (.ref 0))]⟩⟩,hZ,⟨(.type "dict"),none,.dict ⟨[hE P "__module__" 196 (.str "turnsigns.errors" 187),hE P "__firstlineno__" 200 (.int 2 199),hE P "__static_attributes__" 201 (.ref 22),hE P "__weakref__" 203 (.ref 25),hE P "__doc__" 204 .none]⟩ 3,⟨[]⟩⟩,hZ,⟨(.type "getset_descriptor"),none,.fields ⟨[(.str "__weakref__" 202),(.ref 24),(.builtin "ExceptionGroup.__weakref__"),.none]⟩,⟨[]⟩⟩,⟨(.type "super"),none,.fields ⟨[(.ref 24),(.ref 24),(.ref 24)]⟩,⟨[]⟩⟩,⟨(.type "builtin_function_or_method"),none,.fields ⟨[(.builtin "object.__init_subclass__"),(.ref 24)]⟩,⟨[]⟩⟩]),(1,[hU [.ref 24]]),(11,qZ P (hS 2) 29 207 4 hm0),(1,[hU [.ref 24]]),(11,qZ P (hS 3) 41 223 6 hm0),(1,[hU [.ref 24]]),(11,qZ P (hS 4) 53 239 8 hm0),(1,[hU [.ref 24]]),(11,qZ P (hS 5) 65 255 10 hm0)]
def hc1(P:Params):List (Nat×List Obj):=[(1,[hU [.ref 24]]),(11,qZ P (hS 6) 77 271 12 hm0),(1,[hU [.ref 24]]),(11,qZ P (hS 7) 89 287 14 hm0),(1,[hU [.ref 24]]),(11,qZ P (hS 8) 101 303 16 hm0),(1,[hU [.ref 24]]),(11,qZ P (hS 9) 113 319 18 hm0),(1,[hU [.ref 24]]),(11,qZ P (hS 10) 125 335 20 hm0)]
def hc2(P:Params):List (Nat×List Obj):=[(1,[hU [.ref 24]]),(11,qZ P (hS 11) 137 351 22 hm0),(1,[hU [.ref 24]]),(11,qZ P (hS 12) 149 367 24 hm0),(1,[hU [.ref 24]]),(11,qZ P (hS 13) 161 383 26 hm0),(1,[hU [.ref 24]]),(11,qZ P (hS 14) 173 399 28 hm0),(7,qY (hS 16) 184 417 31 1 hm1 ["thing"]),(7,qY (hS 17) 191 424 33 3 hm1 ["thing","least","greatest"])]
def hc3(P:Params):List (Nat×List Obj):=[(5,sL (hS 18) 198 433 35 2 hm1),(5,sL (hS 23) 203 447 43 2 hm2),(7,qY (hS 24) 208 453 49 1 hm2 ["thing"]),(5,sL (hS 25) 215 460 54 1 hm2),(7,qY (hS 26) 220 466 59 1 hm2 ["counts","over","row","many","upper"]),(7,qY (hS 27) 227 477 65 1 hm2 ["row","counts","level"]),(5,sL (hS 28) 234 486 71 1 hm2),(7,qY (hS 30) 239 494 80 2 qR ["_law_script","_law_k"]),(7,qY (hS 31) 246 502 84 2 qR ["_law_script","_law_k","_law_cell"]),(7,qY (hS 32) 253 511 89 2 qR ["_law_state_here","_law_many_here","_law_found","_law_mixed"])]
def hc4(P:Params):List (Nat×List Obj):=[(5,sL (hS 33) 260 521 98 1 qR),(5,sL (hS 34) 265 527 114 1 qR),(7,qY (hS 35) 270 533 119 1 qR ["_law_row","_law_found","_law_at","_law_longer","_law_some","_law_number"]),(7,qY (hS 36) 277 545 129 2 qR ["_law_state_here","_law_row","_law_found","_law_rows"]),(5,sL (hS 37) 284 555 135 2 qR),(7,qY (hS 38) 289 561 140 3 qR ["_law_thing","_law_least","_law_most"]),(5,sL (hS 39) 296 570 142 2 qR),(5,sL (hS 40) 301 576 148 1 qR),(5,sL (hS 41) 306 582 157 1 qR),(7,qY (hS 42) 311 588 165 2 qR ["_law_state_here","_law_row","_law_at","_law_odd","_law_some"])]
def hc5(P:Params):List (Nat×List Obj):=[(7,qY (hS 43) 318 599 170 1 qR ["_law_thing","_law_number"]),(7,[hZ,hN,hU [(.str "_law_script" 610),(.str "_law_k" 611),(.str "_law_state_here" 612),(.str "_law_few" 613),(.str "_law_due" 614),(.str "_law_turn" 615),(.str "_law_found" 616)],hU [(.str "_law_bad" 617),(.str "_law_row" 618)],hR (hS 44),hC "law" 607 619 177 1 3 325 true 326 .none (.ref 327) (.ref 328) (.ref 329),hF (hS 44) (.str "law_turnsigns_k33_triangles_by_last_rows" 492) (.ref 330)])]
def hB(P:Params):Nat->Obj:=zA (hc0 P++hc1 P++hc2 P++hc3 P++hc4 P++hc5 P)
def RI(P:Params)(v:aj):List ae:=[hE P "__name__" 165 v,hE P "__doc__" 166 .none,hE P "__package__" 167 .none,hE P "__loader__" 168 (.builtin "__main__.__loader__#opaque"),hE P "__spec__" 169 .none,hE P "__annotations__" 170 (.ref 6),hE P "__builtins__" 171 (.ref 4),hE P "__file__" 173 (.str "/claim/cut.py" 172),hE P "__cached__" 174 .none,hE P "SignError" 206 (.ref 24),hE P "NoTable" 222 (.ref 37),hE P "NoHeights" 238 (.ref 49),hE P "NoNet" 254 (.ref 61),hE P "NoPlace" 270 (.ref 73),hE P "NoTriangle" 286 (.ref 85),hE P "NoRow" 302 (.ref 97)]
def RJ(P:Params)(v:aj):List ae:=[hE P "NoNumber" 318 (.ref 109),hE P "NoTurn" 334 (.ref 121),hE P "NotAlike" 350 (.ref 133),hE P "NoStep" 366 (.ref 145),hE P "NoRows" 382 (.ref 157),hE P "TooMany" 398 (.ref 169),hE P "BadNote" 414 (.ref 181),hE P "is_whole" 423 (.ref 190),hE P "is_within" 432 (.ref 197),hE P "is_row" 438 (.ref 202),hE P "MOST_ROWS" 442 (.int 6 441),hE P "GREATEST_COLUMN" 444 (.int 8 443),hE P "MOST_TOLD" 446 (.int 4 445),hE P "is_triangle_row" 452 (.ref 207),hE P "must_be_last_row" 459 (.ref 214),hE P "rows_over" 465 (.ref 219)]
def RK(P:Params)(v:aj):List ae:=[hE P "counted_over" 476 (.ref 226),hE P "many_triangles" 485 (.ref 233),hE P "all_triangles" 491 (.ref 238),hE P "_law_cell_at" 501 (.ref 245),hE P "_law_state" 510 (.ref 252),hE P "_law_take" 520 (.ref 259),hE P "_law_refused" 526 (.ref 264),hE P "_law_triangle" 532 (.ref 269),hE P "_law_over" 544 (.ref 276),hE P "_law_drawn" 554 (.ref 283),hE P "_law_last" 560 (.ref 288),hE P "_law_whole" 569 (.ref 295),hE P "_law_same" 575 (.ref 300),hE P "_law_many" 581 (.ref 305),hE P "_law_all" 587 (.ref 310),hE P "_law_bent_row" 598 (.ref 317)]
def RL(P:Params)(v:aj):List ae:=[hE P "_law_good" 606 (.ref 324),hE P "law" 621 (.ref 331)]
def zE(P:Params)(v:aj):List ae:=RI P v++RJ P v++RK P v++RL P v
def wI(k:Nat):Nat×Nat×aj:=rM [(9,9,(.str "__main__" 164)),(10,10,(.str "turnsigns.errors" 187)),(11,11,(.str "turnsigns.errors" 187)),(12,12,(.str "turnsigns.errors" 187)),(13,13,(.str "turnsigns.errors" 187)),(14,14,(.str "turnsigns.errors" 187)),(15,15,(.str "turnsigns.errors" 187)),(16,16,(.str "turnsigns.errors" 187)),(17,17,(.str "turnsigns.errors" 187)),(18,18,(.str "turnsigns.errors" 187)),(19,19,(.str "turnsigns.errors" 187)),(20,20,(.str "turnsigns.errors" 187)),(21,21,(.str "turnsigns.errors" 187)),(22,22,(.str "turnsigns.errors" 187)),(31,31,(.str "turnsigns.triangles" 439)),(44,44,(.str "law_turnsigns_k33_triangles_by_last_rows" 492)),(50,50,(.str "law_turnsigns_k33_triangles_by_last_rows" 492))] k (0,0,.none)
def zF(P:Params)(k:Nat):Obj:=⟨(.type "dict"),none,.dict ⟨(zE P (wI k).2.2).take (wI k).1⟩ (wI k).2.1,⟨[]⟩⟩
def RM:ao:=zB [(2,20),(4,33),(6,45),(8,57),(10,69),(12,81),(14,93),(16,105),(18,117),(20,129),(22,141),(24,153),(26,165),(28,177),(31,189),(33,196),(35,201),(43,206),(49,213),(54,218),(59,225),(65,232),(71,237),(80,244),(84,251),(89,258),(98,263),(114,268),(119,275),(129,282),(135,287),(140,294),(142,299),(148,304),(157,309),(165,316),(170,323),(177,330)]
def RN(_:Params)(k:Nat):Obj:=⟨.none,none,.fields ⟨RM.take (rM [0,3,6,9,12,15,18,21,24,27,30,33,36,39,57,96,114] k 0)⟩,⟨[]⟩⟩
def RO:ao:=[(.ref 37),(.ref 49),(.ref 61),(.ref 73),(.ref 85),(.ref 97),(.ref 109),(.ref 121),(.ref 133),(.ref 145),(.ref 157),(.ref 169),(.ref 181)]
def RP(_:Params)(k:Nat):Obj:=⟨(.type "type"),none,.cls ⟨"SignError",[(.type "ValueError")],[(.ref 24),(.type "ValueError"),(.type "Exception"),(.type "BaseException"),(.type "object")],23,"SignError",true,[],RO.take (rM [0,0,1,2,3,4,5,6,7,8,9,10,11,12,13,13,13] k 0),false,none,false⟩,⟨[(some (.ref 15)),none,(some (.str "SignError" 189)),(some (.str "SignError" 197)),(some (.builtin "ValueError.__new__")),(some (.bool true))]⟩⟩
def hO(P:Params)(k b:Nat):Obj:=match Nat.beq b 3 with|true=>zF P k|false=>match Nat.beq b 12 with|true=>RN P k|false=>match Nat.beq b 24 with|true=>RP P k|false=>hB P b
def hn(k:Nat):Nat:=rM [15,28,40,52,64,76,88,100,112,124,136,148,160,172,215,296,332] k 0
noncomputable def hT (k:Nat) (P:Params):BT:=zC (hO P k) (hn k) 12 1 0
def hV:Env:=wG pw_turnsigns_k33_triangles_by_last_rows (.ref 13) 14
def hQ:af:=zD pw_turnsigns_k33_triangles_by_last_rows [1,2,3,4,5,6,7,8,9,10,11,12,13,14,16,17,18,20,21,22,23,24,25,26,27,28,30,31,32,33,34,35,36,37,38,39,40,41,42,43,44]
def hA:List Nat:=[2,3,15,22,23,24,25,28,35,36,37,40,47,48,49,52,59,60,61,64,71,72,73,76,83,84,85,88,95,96,97,100,107,108,109,112,119,120,121,124,131,132,133,136,143,144,145,148,155,156,157,160,167,168,169,172,179,180,181,184,186,187,189,190,191,193,194,196,197,198,201,202,203,206,207,208,210,211,213,214,215,218,219,220,222,223,225,226,227,229,230,232,233,234,237,238,239,241,242,244,245,246,248,249,251,252,253,255,256,258,259,260,263,264,270,272,273,275,276,284,287,288,289,291,292,294,295,296,299,300,301,304,305,306,309,310,311,313,314,316,317,318,320,321,323,324,325,327,328,330,331]
def hK(P:Params):Frag:=hA.map fun a=>(a,hO P 16 a)
def hH(P:Params):Heap:=absHeap (hT 16 P) 332 {}
theorem htw:(qX hT&&qX hH&&qX hV&&qX hQ&&qX hK&&qX pw_turnsigns_k33_triangles_by_last_rows)=true:=by k_qdec
abbrev pK:=pw_turnsigns_k33_triangles_by_last_rows
noncomputable abbrev fb:=tw14364793385576792824
noncomputable abbrev fp:=tw4577355146781057984
noncomputable abbrev ft:=tw7863678130529909332
noncomputable abbrev fv:=tw17124462179448633716
theorem RQ:tX 11 (some (.ref 6)) 12 15 187 ⟨0,0,0,0⟩ ⟨0,0,0,0⟩ tw15667345088766844465 tw11892475500146522536 fb fp ft fv:=fun w=>by kernel_rfl
theorem hpre:tX 11 (some (.ref 6)) 12 15 187 ⟨0,0,0,0⟩ ⟨0,0,0,0⟩ topGo denote treeTable pw_turnsigns_k33_triangles_by_last_rows hT hV:=by rw[te15667345088766844465,te11892475500146522536,Jm,te4577355146781057984,te7863678130529909332,te17124462179448633716];exact RQ
theorem RT:tY 11 (some (.ref 6)) 1 15 187 ⟨0,0,0,0⟩ ⟨0,0,0,0⟩ ⟨0,0,0,0⟩ tw14374325043358763698 fb fp ft fv:=fun w=>by kernel_rfl
theorem wJ:tY 11 (some (.ref 6)) 1 15 187 ⟨0,0,0,0⟩ ⟨0,0,0,0⟩ ⟨0,0,0,0⟩ segRun treeTable pw_turnsigns_k33_triangles_by_last_rows hT hV:=by rw[te14374325043358763698,Jm,te4577355146781057984,te7863678130529909332,te17124462179448633716];exact RT
theorem pX{m0:Nat}{ann:Option aj}{n i j k n0 t0 n1 t1:Nat}{q q0 q1:Pos}(h:o7 m0 ann n i j k n0 t0 n1 t1 q q0 q1 tw10110043849684766642 fb fp ft fv):o7 m0 ann n i j k n0 t0 n1 t1 q q0 q1 segRunT treeTable pw_turnsigns_k33_triangles_by_last_rows hT hV:=by rw[te10110043849684766642,Jm,te4577355146781057984,te7863678130529909332,te17124462179448633716];exact h
theorem hp0:o7 11 (some (.ref 6)) 196 0 2 0 15 187 28 207 ⟨0,0,0,0⟩ ⟨0,0,0,0⟩ ⟨2,0,3,8⟩ segRunT treeTable pK hT hV:=pX fun w=>by kernel_rfl
theorem hp1:o7 11 (some (.ref 6)) 214 2 1 1 28 207 40 223 ⟨0,0,0,0⟩ ⟨2,0,3,8⟩ ⟨4,0,5,8⟩ segRunT treeTable pK hT hV:=pX fun w=>by kernel_rfl
theorem hp2:o7 11 (some (.ref 6)) 214 3 1 2 40 223 52 239 ⟨0,0,0,0⟩ ⟨4,0,5,8⟩ ⟨6,0,7,8⟩ segRunT treeTable pK hT hV:=pX fun w=>by kernel_rfl
theorem hp3:o7 11 (some (.ref 6)) 214 4 1 3 52 239 64 255 ⟨0,0,0,0⟩ ⟨6,0,7,8⟩ ⟨8,0,9,8⟩ segRunT treeTable pK hT hV:=pX fun w=>by kernel_rfl
theorem zG:o7 11 (some (.ref 6)) 214 5 1 4 64 255 76 271 ⟨0,0,0,0⟩ ⟨8,0,9,8⟩ ⟨10,0,11,8⟩ segRunT treeTable pK hT hV:=pX fun w=>by kernel_rfl
theorem vO:o7 11 (some (.ref 6)) 214 6 1 5 76 271 88 287 ⟨0,0,0,0⟩ ⟨10,0,11,8⟩ ⟨12,0,13,8⟩ segRunT treeTable pK hT hV:=pX fun w=>by kernel_rfl
theorem zH:o7 11 (some (.ref 6)) 214 7 1 6 88 287 100 303 ⟨0,0,0,0⟩ ⟨12,0,13,8⟩ ⟨14,0,15,8⟩ segRunT treeTable pK hT hV:=pX fun w=>by kernel_rfl
theorem zI:o7 11 (some (.ref 6)) 214 8 1 7 100 303 112 319 ⟨0,0,0,0⟩ ⟨14,0,15,8⟩ ⟨16,0,17,8⟩ segRunT treeTable pK hT hV:=pX fun w=>by kernel_rfl
theorem zJ:o7 11 (some (.ref 6)) 214 9 1 8 112 319 124 335 ⟨0,0,0,0⟩ ⟨16,0,17,8⟩ ⟨18,0,19,8⟩ segRunT treeTable pK hT hV:=pX fun w=>by kernel_rfl
theorem zK:o7 11 (some (.ref 6)) 214 10 1 9 124 335 136 351 ⟨0,0,0,0⟩ ⟨18,0,19,8⟩ ⟨20,0,21,8⟩ segRunT treeTable pK hT hV:=pX fun w=>by kernel_rfl
theorem RU:o7 11 (some (.ref 6)) 214 11 1 10 136 351 148 367 ⟨0,0,0,0⟩ ⟨20,0,21,8⟩ ⟨22,0,23,8⟩ segRunT treeTable pK hT hV:=pX fun w=>by kernel_rfl
theorem RV:o7 11 (some (.ref 6)) 214 12 1 11 148 367 160 383 ⟨0,0,0,0⟩ ⟨22,0,23,8⟩ ⟨24,0,25,8⟩ segRunT treeTable pK hT hV:=pX fun w=>by kernel_rfl
theorem RW:o7 11 (some (.ref 6)) 214 13 1 12 160 383 172 399 ⟨0,0,0,0⟩ ⟨24,0,25,8⟩ ⟨26,0,27,8⟩ segRunT treeTable pK hT hV:=pX fun w=>by kernel_rfl
theorem RX:o7 11 (some (.ref 6)) 400 14 11 13 172 399 215 460 ⟨0,0,0,0⟩ ⟨26,0,27,8⟩ ⟨49,0,53,73⟩ segRunT treeTable pK hT hV:=pX fun w=>by kernel_rfl
theorem RY:o7 11 (some (.ref 6)) 394 25 14 14 215 460 296 570 ⟨0,0,0,0⟩ ⟨49,0,53,73⟩ ⟨140,0,141,121⟩ segRunT treeTable pK hT hV:=pX fun w=>by kernel_rfl
theorem RZ:o7 11 (some (.ref 6)) 179 39 6 15 296 570 332 622 ⟨0,0,0,0⟩ ⟨140,0,141,121⟩ ⟨177,0,200,117⟩ segRunT treeTable pK hT hV:=pX fun w=>by kernel_rfl
theorem SA:tZ 11 (some (.ref 6)) 2 16 332 622 ⟨0,0,0,0⟩ ⟨177,0,200,117⟩ tw14082659384304107361 fb fp ft fv:=fun w=>by kernel_rfl
theorem t6:tZ 11 (some (.ref 6)) 2 16 332 622 ⟨0,0,0,0⟩ ⟨177,0,200,117⟩ topRun treeTable pw_turnsigns_k33_triangles_by_last_rows hT hV:=by rw[te14082659384304107361,Jm,te4577355146781057984,te7863678130529909332,te17124462179448633716];exact SA
theorem t7(w:ag)(os:OsState):topRun treeTable pw_turnsigns_k33_triangles_by_last_rows w 11 (some (.ref 6)) (Nat.add 12 (Nat.add 1 (Nat.add 196 (Nat.add 214 (Nat.add 214 (Nat.add 214 (Nat.add 214 (Nat.add 214 (Nat.add 214 (Nat.add 214 (Nat.add 214 (Nat.add 214 (Nat.add 214 (Nat.add 214 (Nat.add 214 (Nat.add 400 (Nat.add 394 (Nat.add 179 (2))))))))))))))))))) ⟨boot_heap w.params,⟨[]⟩,boot_drawn,boot_toks,os⟩ (topStub pw_turnsigns_k33_triangles_by_last_rows)=some (SharedT.abs ⟨hT 16 w.params,332,{},⟨[]⟩,{},622,os⟩):=hgo hpre w os (u3 wJ w os (nQ hp0 w os (nQ hp1 w os (nQ hp2 w os (nQ hp3 w os (nQ zG w os (nQ vO w os (nQ zH w os (nQ zI w os (nQ zJ w os (nQ zK w os (nQ RU w os (nQ RV w os (nQ RW w os (nQ RX w os (nQ RY w os (nQ RZ w os (u4 (by kernel_rfl) t6 w os))))))))))))))))))
theorem SD:wH tw4577355146781057984 tw1429701600106393128 tw15154466987311791217 tw907778650876252027 hA [326] 622 []:=⟨fun _=>by kernel_rfl,fun _=>by kernel_rfl,fun _=>by kernel_rfl,fun _=>by kernel_rfl,fun _=>by kernel_rfl,fun _=>by kernel_rfl,fun _=>by kernel_rfl,fun _=>by kernel_rfl,fun _=>by kernel_rfl,fun _=>by kernel_rfl,fun _=>by kernel_rfl,fun _=>by kernel_rfl⟩
theorem hlk:wH pw_turnsigns_k33_triangles_by_last_rows hQ hH hK hA [326] 622 []:=by rw[te4577355146781057984,te1429701600106393128,te15154466987311791217,te907778650876252027];exact SD
abbrev t9:Hook:=kmHook hK hA (fun _=>by kernel_rfl) [326]
theorem zL:LeftO pw_turnsigns_k33_triangles_by_last_rows hQ [] (fun s=>xlAt hQ [] s&&recOk [] s) (Hook.obs t9) (Hook.val t9) 7568:=hleft (fun _=>by kernel_rfl) (by kernel_rfl) (fun _=>by kernel_rfl) (by decide) (by decide) t7 hlk
abbrev zM:DefRec:=⟨"law",xT (hS 44),xU (hS 44),xV (hS 44),y9 (hS 44)⟩
end
end K33
namespace K33
open PySem PySem.W PyProof.Rows
theorem SE(hc:WalkO hQ [] (XL hQ []) (Hook.says t9) PySem.Challenge.rw_turnsigns_k33_triangles_by_last_rows.row.toRowW zM [] fun f vs=>call f vs):PySem.Challenge.rw_turnsigns_k33_triangles_by_last_rows.Holds:=by
 o_law
 exact holds_open (Xt:=fun s=>xlAt hQ [] s&&recOk [] s) (Yf:=Hook.obs t9) (Ya:=Hook.val t9) (N:=7568) zL (Hook.of t9) (Hook.keeps t9) (fun s e=>xl_of s (Bool.and_eq_true_iff.mp e).1) XL.keeps (by kernel_rfl) (by kernel_rfl) (by kernel_rfl) (fun s e=>recFacts_of (Bool.and_eq_true_iff.mp e).2) rfl (by assumption) (by rfl') ⟨rfl,rfl,rfl,rfl,rfl,by rfl'⟩ ⟨[.list []],by rfl',by rfl'⟩ hc
end K33
namespace L2
open PySem PySem.Spec PyProof.Rows
variable{A:Around}{C a b dx it:ah}{E Q:OU}{K:Qj}{M:Model}{N ps:ar}{P:af}{base h h':Heap}{body:List Stmt}{c e tg:Expr}{ch fp:List ah}{d':Drawn}{es:au}{fd:FuncData}{g':Array GenState}{i j k n t':Nat}{mA mg:OI}{op op':CmpOp}{p pos:Pos}{pins:OA}{qual x:Str}{s s':ak}{scope:Scope}{u:aj}{us:ao}{w:ag}{α:Type}
abbrev Key:=Sum Int Str
def Bt:Key->aj->Bool
 |.inl k,v=>Value.isInt k v
 |.inr x,v=>Value.isStrOf x v
def SF(w:ag):Key->Int
 |.inl k=>hashInt k
 |.inr x=>hashStr w x
theorem AM:∀{k:Key}{v:aj},Bt k v=true->(∃i t,k=Sum.inl i/\v=Value.int i t)\/(∃x t,k=Sum.inr x/\v=Value.str x t)
 |.inl i,v,h=>by
  obtain⟨t,e⟩:=Value.isInt_shape (k:=i) (v:=v) h;exact .inl ⟨i,t,rfl,e⟩
 |.inr x,v,h=>by
  obtain⟨t,e⟩:=Value.isStrOf_shape (x:=x) (v:=v) h;exact .inr ⟨x,t,rfl,e⟩
theorem SG(i:Int)(t:Tok):Bt (.inl i) (.int i t)=true:=by simp[Bt,Value.isInt]
theorem SH(x:Str)(t:Tok):Bt (.inr x) (.str x t)=true:=by simp[Bt,Value.isStrOf]
theorem SI(a b:Int):decide ((Sum.inl a:Key)=Sum.inl b)=(a==b):=by
 by_cases e:a=b
 ·subst e;simp
 ·have h:¬ (Sum.inl a:Key)=Sum.inl b:=fun q=>e (Sum.inl.inj q);rw[Zg h];exact(Pa.mpr e).symm
theorem SJ(a b:Str):decide ((Sum.inr a:Key)=Sum.inr b)=decide (a=b):=by
 by_cases e:a=b
 ·subst e;simp
 ·have h:¬ (Sum.inr a:Key)=Sum.inr b:=fun q=>e (Sum.inr.inj q);rw[Zg h,Zg e]
theorem SK(a:Int)(b:Str):decide ((Sum.inl a:Key)=Sum.inr b)=false:=Zg (fun q=>nomatch q)
theorem SL(a:Str)(b:Int):decide ((Sum.inr a:Key)=Sum.inl b)=false:=Zg (fun q=>nomatch q)
def L5(prog:af)(w:ag):PySem.KeyKind prog w Key where
 is:=Bt
 hash:=SF w
 inj:=fun v a b ha hb=>by
  rcases AM ha with⟨i,t,rfl,rfl⟩|⟨x,t,rfl,rfl⟩
  ·rcases AM hb with⟨j,u,rfl,e⟩|⟨y,u,rfl,e⟩
   ·injection e with e1 _;rw[e1]
   ·exact nomatch e
  ·rcases AM hb with⟨j,u,rfl,e⟩|⟨y,u,rfl,e⟩
   ·exact nomatch e
   ·injection e with e1 _;rw[e1]
 byValue:=fun k v h=>by
  rcases AM h with⟨i,t,rfl,rfl⟩|⟨x,t,rfl,rfl⟩<;>rfl
 pyHash:=fun hv h=>by
  rcases AM hv with⟨i,t,rfl,rfl⟩|⟨x,t,rfl,rfl⟩
  ·exact wpAny_pyHash_int h
  ·exact wpAny_pyHash_str h
 eqBool:=fun hu hv h=>by
  rcases AM hu with⟨i,t,rfl,rfl⟩|⟨x,t,rfl,rfl⟩
  ·rcases AM hv with⟨j,u,rfl,rfl⟩|⟨y,u,rfl,rfl⟩
   ·rw[SI]at h;exact wpAny_eqBool_int h
   ·rw[SK]at h;exact SeqAt.EqAt.int_str i t y u _ _ _ _ h
  ·rcases AM hv with⟨j,u,rfl,rfl⟩|⟨y,u,rfl,rfl⟩
   ·rw[SL]at h;exact SeqAt.EqAt.str_int x t j u _ _ _ _ h
   ·rw[SJ]at h;exact wpAny_eqBool_str h
 «strs»:=fun k x t v h=>by
  rcases AM h with⟨i,u,rfl,e⟩|⟨y,u,rfl,e⟩
  ·exact nomatch e
  ·injection e with e1 _
   subst e1;cases v<;>rfl
theorem SM(prog:af)(w:ag)(i:Int)(t:Tok):(L5 prog w).is (.inl i) (.int i t)=true:=SG i t
theorem SN(prog:af)(w:ag)(x:Str)(t:Tok):(L5 prog w).is (.inr x) (.str x t)=true:=SH x t
inductive V where
 |non|bl (b:Bool)|int (i:Int)|str (x:Str)|byt (b:Array UInt8)|flt (b:UInt64)|ref (a:Addr)|ty (n:String)
 deriving DecidableEq
abbrev ba:=List V
variable{v y:V}{vs:ba}
def D1:V->aj->Prop
 |.non,u=>u=Value.none
 |.bl b,u=>u=Value.bool b
 |.int i,u=>∃t,u=Value.int i t
 |.str x,u=>∃t,u=Value.str x t
 |.byt b,u=>∃t,u=Value.bytes b t
 |.flt b,u=>∃t,u=Value.float b t
 |.ref a,u=>u=Value.ref a
 |.ty n,u=>u=Value.type n
abbrev C7:ba->ao->Prop:=Paired D1
theorem C7.length{xs:ba}(r:C7 xs us):xs.length=us.length:=Paired.length r
theorem C7.get:∀{xs:ba}{us:ao}{i:Nat}{x:V},C7 xs us->xs[i]? =some x->∃u,us[i]? =some u/\D1 x u
 |_,_,_,_,.nil,e=>by simp at e
 |_,_,0,_,.cons r _,e=>by simp at e;subst e;exact⟨_,rfl,r⟩
 |_,_,i+1,x,.cons _ t,e=>by
  obtain⟨u,h1,h2⟩:=C7.get (i:=i) (x:=x) t (by simpa using e);exact⟨u,by simpa using h1,h2⟩
theorem C7.set{x:V}{u:aj}(r:D1 x u):∀{xs:ba}{us:ao}(i:Nat),C7 xs us->C7 (xs.set i x) (us.set i u)
 |_,_,_,.nil=>.nil
 |_,_,0,.cons _ t=>.cons r t
 |_,_,i+1,.cons q t=>.cons q (C7.set r i t)
theorem C7.append:∀{xs ys:ba}{us ws:ao},C7 xs us->C7 ys ws->C7 (xs++ys) (us++ws)
 |_,_,_,_,.nil,s=>s
 |_,_,_,_,.cons r t,s=>.cons r (C7.append t s)
theorem C7.take:∀{xs:ba}{us:ao}(n:Nat),C7 xs us->C7 (xs.take n) (us.take n)
 |_,_,0,_=>.nil
 |_,_,_+1,.nil=>.nil
 |_,_,n+1,.cons r t=>.cons r (C7.take n t)
theorem C7.drop:∀{xs:ba}{us:ao}(n:Nat),C7 xs us->C7 (xs.drop n) (us.drop n)
 |_,_,0,r=>r
 |_,_,_+1,.nil=>.nil
 |_,_,n+1,.cons _ t=>C7.drop n t
def Ej:Option V->Option aj->Prop
 |some v,some u=>D1 v u
 |none,none=>True
 |_,_=>False
def KV{κ:Type}:List (κ×V)->List (κ×aj)->Prop:=Paired fun(p:κ×V) (q:κ×aj)=>p.1=q.1/\D1 p.2 q.2
def kV:Key->V
 |.inl i=>.int i
 |.inr x=>.str x
inductive HO where
 |lst (xs:List V)
 |tup (xs:List V)
 |dK (kvs:List (Key×V))|dT (C:Addr->List Key->Prop) (kvs:List (List Key×V))|dX (es:Array DictEntry) (ep:Nat)
 |set (S:Int->Bool) (n:Nat)
 |ins (C dx:Addr) (fs:List (Str×V))
 |own (x:Addr)
 |xd (fs:List (Str×V))
 |met (f x:Addr)
 |rng (lo hi:Int)
 |frz (o:Obj) (u:HO)
 |tbl (ps:Array Value)
 |ext (φ:Heap->Prop)
variable{o:HO}
abbrev Hp:=ah->Option HO
variable{H H':Hp}{R:V->V->Hp->Prop}
def upd(H:Hp)(a:ah)(o:HO):Hp:=fun b=>if b=a then some o else H b
theorem D7:upd H a o a=some o:=by unfold upd;rw[Qg rfl]
theorem C6(h:b≠a):upd H a o b=H b:=by unfold upd;rw[Qb h]
theorem KS{u:HO}:upd (upd H a o) a u=upd H a u:=by
 funext b;unfold upd;split<;>rfl
theorem L6(h:H a=some o)(h':H b=none):a≠b:=by
 intro e;subst e;rw[h]at h';cases h'
def W0(h:Heap)(a:ah)(items:az):Prop:=∃o,h.get? a=some o/\o.cls=.type "tuple"/\o.dict=none/\∃n,o.data=.seq items n
theorem W0.tup{items:az}:W0 h a items->IsTup h a items:=fun⟨o,e,c,_,d⟩=>⟨o,e,c,d⟩
theorem W0.lt{items:az}(p:W0 h a items):a<h.objs.size:=p.tup.lt
theorem W0.new(h:Heap)(items:az):W0 (h.push {cls:=.type "tuple",data:=.seq items}) h.objs.size items:=⟨_,Qw _ rfl,rfl,rfl,_,rfl⟩
section
variable(P:af)(w:ag)
def F3(H:Hp)(h:Heap)(a:ah):HO->Prop
 |.lst xs=>xs.length≤sizeLine/\∃(its:ao) (n:Nat),C7 xs its/\h.get? a=some {cls:=.type "list",data:=.seq its.toArray n}
 |.tup xs=>xs.length≤sizeLine/\∃its:ao,C7 xs its/\W0 h a its.toArray
 |.dK kvs=>kvs.length≤sizeLine/\(a==sysModules)=false/\∃vs,KV kvs vs/\h.DictOf (L5 P w) a vs
 |.dT C kvs=>kvs.length≤sizeLine/\(a==sysModules)=false/\∃xs:List (List Key×ah×aj),
   Paired (fun(p:List Key×V) (q:List Key×ah×aj)=>p.1=q.1/\(H q.2.1=some (.tup (p.1.map kV))\/C q.2.1 p.1)/\D1 p.2 q.2.2) kvs xs/\
   ∃o es ep,h.get? a=some o/\o.ExactDict/\o.data=.dict es ep/\es.toList=xs.map (entryOfKey (tupleKind (L5 P w)))/\(xs.map (·.1)).Nodup
 |.dX es ep=>es.size≤sizeLine/\(a==sysModules)=false/\∃o,h.get? a=some o/\o.ExactDict/\o.data=.dict es ep
 |.set S n=>h.SetOf (intKind P w) a S n
 |.ins C dx fs=>H dx=some (.own a)/\fs.length≤1000/\dx≠a/\h.get? a=some (PySem.W.instObj C dx)/\
   ∃mA,h.Ns1 dx mA/\(∀f,Ej (fs.lookup f) (mA f))/\PySem.Within mA (fs.map (·.1))
 |.own _=>∃o,h.get? a=some o
 |.xd fs=>∃mA,h.Ns1 a mA/\∀f,Ej (fs.lookup f) (mA f)
 |.rng lo hi=>∃t u v,h.get? a=some {cls:=.type "range",data:=.fields #[.int lo t,.int hi u,.int 1 v]}
 |.frz o u=>h.get? a=some o/\F3 H h a u
 |.tbl ps=>h.get? a=some {cls:=.none,data:=.fields ps}
 |.met f x=>h.get? a=some (PySem.W.methodObj (.ref f) (.ref x))
 |.ext φ=>φ h/\(∃o,h.get? a=some o)/\∀h1 h2:Heap,φ h1->(∀o,h1.get? a=some o->h2.get? a=some o)->φ h2
def nX(H:Hp)(h:Heap):Prop:=∀a o,H a=some o->F3 P w H h a o
end
theorem F3.lt(x:F3 P w H h a o):a<h.objs.size:=by
 cases o with
 |lst xs=>obtain⟨_,_,_,_,e⟩:=x;exact Qu e
 |tup xs=>obtain⟨_,_,_,p⟩:=x;exact p.lt
 |dK kvs=>obtain⟨_,_,_,_,o,_,_,e,_⟩:=x;exact Qu e
 |dT C kvs=>obtain⟨_,_,_,_,o,_,_,e,_⟩:=x;exact Qu e
 |dX es ep=>obtain⟨_,_,o,e,_⟩:=x;exact Qu e
 |set S n=>obtain⟨o,_,_,_,e,_⟩:=x;exact Qu e
 |ins C dx fs=>obtain⟨_,_,_,e,_⟩:=x;exact Qu e
 |own y=>obtain⟨_,e⟩:=x;exact Qu e
 |xd fs=>obtain⟨_,⟨_,_,_,e,_⟩,_⟩:=x;exact Qu e
 |rng lo hi=>obtain⟨_,_,_,e⟩:=x;exact Qu e
 |frz ob u=>obtain⟨e,_⟩:=x;exact Qu e
 |tbl ps=>exact Qu (show h.get? a=some _ from x)
 |met f y=>exact Qu (show h.get? a=some _ from x)
 |ext φ=>obtain⟨_,⟨_,e⟩,_⟩:=x;exact Qu e
theorem Paired.mapP{α β:Type}{F G:α->β->Prop}:∀{l₁:List α}{l₂:List β},Paired F l₁ l₂->(∀a b,F a b->G a b)->Paired G l₁ l₂
 |_,_,.nil,_=>.nil
 |_,_,.cons r t,f=>.cons (f _ _ r) (Paired.mapP t f)
theorem F3.stay(x:F3 P w H h a o)(k:∀b u,(b=a\/H b=some (.own a))->h.get? b=some u->h'.get? b=some u)
  (ho:∀b,H b=some (.own a)->H' b=some (.own a))(ht:∀b xs,H b=some (.tup xs)->H' b=some (.tup xs)):F3 P w H' h' a o:=by
 induction o with
 |lst xs=>obtain⟨z,its,n,r,e⟩:=x;exact⟨z,its,n,r,k _ _ (.inl rfl) e⟩
 |tup xs=>obtain⟨z,its,r,ob,e,c⟩:=x;exact⟨z,its,r,ob,k _ _ (.inl rfl) e,c⟩
 |dK kvs=>obtain⟨z,y,vs,r,ob,es,ep,e,c⟩:=x;exact⟨z,y,vs,r,ob,es,ep,k _ _ (.inl rfl) e,c⟩
 |dT C kvs=>
  obtain⟨z,y,xs,r,ob,es,ep,e,c⟩:=x;exact⟨z,y,xs,Paired.mapP r fun p q z=>⟨z.1,z.2.1.imp (ht _ _) id,z.2.2⟩,ob,es,ep,k _ _ (.inl rfl) e,c⟩
 |dX es ep=>obtain⟨z,y,ob,e,c⟩:=x;exact⟨z,y,ob,k _ _ (.inl rfl) e,c⟩
 |set S n=>obtain⟨ob,es,ep,t,e,c⟩:=x;exact⟨ob,es,ep,t,k _ _ (.inl rfl) e,c⟩
 |ins C dx fs=>
  obtain⟨d,z,ne,e,mA,⟨od,es,ep,e2,c⟩,r⟩:=x;exact⟨ho _ d,z,ne,k _ _ (.inl rfl) e,mA,⟨od,es,ep,k _ _ (.inr d) e2,c⟩,r⟩
 |own y=>obtain⟨ob,e⟩:=x;exact⟨ob,k _ _ (.inl rfl) e⟩
 |xd fs=>obtain⟨mA,⟨od,es,ep,e,c⟩,r⟩:=x;exact⟨mA,⟨od,es,ep,k _ _ (.inl rfl) e,c⟩,r⟩
 |rng lo hi=>obtain⟨t,u,v,e⟩:=x;exact⟨t,u,v,k _ _ (.inl rfl) e⟩
 |frz ob u ih=>obtain⟨e,q⟩:=x;exact⟨k _ _ (.inl rfl) e,ih q⟩
 |tbl ps=>
  have e:h.get? a=some {cls:=.none,data:=.fields ps}:=x;show h'.get? a=some {cls:=.none,data:=.fields ps};exact k a _ (.inl rfl) e
 |met f y=>
  have e:h.get? a=some (PySem.W.methodObj (.ref f) (.ref y)):=x;show h'.get? a=some (PySem.W.methodObj (.ref f) (.ref y));exact k a _ (.inl rfl) e
 |ext φ=>obtain⟨p,⟨o,e⟩,st⟩:=x;exact⟨st _ _ p fun o q=>k _ _ (.inl rfl) q,⟨o,k _ _ (.inl rfl) e⟩,st⟩
theorem nX.lt(x:nX P w H h)(e:H a=some o):a<h.objs.size:=(x a o e).lt
theorem nX.fresh(x:nX P w H h)(e:h.objs.size≤a):H a=none:=by
 cases q:H a with
 |none=>rfl
 |some u=>exact absurd (Ql (x.lt q) e) (Jf _)
theorem nX.kept(x:nX P w H h)(k:∀b u,h.get? b=some u->h'.get? b=some u):nX P w H h':=fun a o e=>
 (x a o e).stay (fun b u _ q=>k b u q) (fun _ q=>q) fun _ _ q=>q
theorem nX.laid(x:nX P w H h)(k:∀b u,h.get? b=some u->h'.get? b=some u)(hp:h.objs.size≤a)(new:F3 P w (upd H a o) h' a o):nX P w (upd H a o) h':=fun b u e=>by
 have hn:=x.fresh hp
 by_cases hb:b=a
 ·subst hb;rw[D7]at e;cases e;exact new
 ·rw[C6 hb]at e;exact(x b u e).stay (fun c v _ q=>k c v q) (fun c q=>by rw[C6 (L6 q hn)];exact q) fun c xs q=>by rw[C6 (L6 q hn)];exact q
def Rd(H:Hp)(a:ah)(u:HO):Prop:=H a=some u\/ ∃o,H a=some (.frz o u)
theorem Rd.ok{u:HO}(r:Rd H a u)(x:nX P w H h):F3 P w H h a u:=by
 rcases r with r|⟨o,r⟩
 ·exact x a u r
 ·obtain⟨_,q⟩:=x a _ r;exact q
def u6:Option HO->Prop
 |some (.lst _)=>True
 |some (.dK _)=>True
 |some (.dT _ _)=>True
 |some (.dX _ _)=>True
 |some (.set _ _)=>True
 |some (.ins _ _ _)=>True
 |some (.ext _)=>True
 |_=>False
section
variable{x e:ah}{o':HO}
theorem nX.write(ok:nX P w H h)(mu:u6 (H x))(he:e=x\/H e=some (.own x))(k:∀b u,b≠e->h.get? b=some u->h'.get? b=some u)(heo:∃u,h'.get? e=some u)
  (new:F3 P w (upd H x o') h' x o'):nX P w (upd H x o') h':=fun b u q=>by
 have nown:∀c y,H c=some (.own y)->c≠x:=fun c y r z=>by subst z;rw[r]at mu;exact mu
 have ntup:∀c xs,H c=some (.tup xs)->c≠x:=fun c xs r z=>by subst z;rw[r]at mu;exact mu
 by_cases hb:b=x
 ·subst hb;rw[D7]at q;cases q;exact new
 ·rw[C6 hb]at q
  by_cases hbe:b=e
  ·have q':H b=some (.own x):=by
    rcases he with z|z
    ·exact absurd (hbe.trans z) hb
    ·rw[hbe];exact z
   rw[q]at q';cases q';obtain⟨v,hv⟩:=heo;exact⟨v,by rw[hbe];exact hv⟩
  ·refine(ok b u q).stay (fun c v hc r=>k c v ?_ r) (fun c r=>by rw[C6 (nown c b r)];exact r) fun c xs r=>by rw[C6 (ntup c xs r)];exact r
   rcases hc with rfl|hc
   ·exact hbe
   ·rintro rfl;rcases he with z|z
    ·exact nown c b hc z
    ·rw[hc]at z;cases z;exact hb rfl
end
structure Un(fs ex:List ah)(H H':Hp)(h h':Heap):Prop where
 keep:∀b o,h.get? b=some o->H b=none->b∉fs->b∉ex->h'.get? b=some o
 slot:∀b o,h.get? b=some o->H b=none->b∈fs->b∉ex->∃sl,h'.get? b=some {o with slots:=sl}
 free:∀b o,h.get? b=some o->H b=none->b∉ex->H' b=none
 there:∀b o,h.get? b=some o->b∉ex->∃o',h'.get? b=some o'
 tups:∀b xs,H b=some (.tup xs)->H' b=some (.tup xs)
 frzs:∀b o u,H b=some (.frz o u)->H' b=some (.frz o u)
 tbls:∀b ps,H b=some (.tbl ps)->∃more,H' b=some (.tbl (ps++more))
section
variable{fs fs' ex ex':List ah}{H1 H2:Hp}{h1 h2:Heap}{x e:ah}
theorem Un.any(u:Un fs ex H H1 h h1){ob:Obj}(q:h.get? b=some ob)(n:H b=none)(hx:b∉ex):∃sl,h1.get? b=some {ob with slots:=sl}:=by
 by_cases hb:b∈fs
 ·exact u.slot b ob q n hb hx
 ·exact⟨ob.slots,u.keep b ob q n hb hx⟩
theorem Un.kept(k:∀b u,h.get? b=some u->h'.get? b=some u):Un fs ex H H h h':=
 ⟨fun b ob q _ _ _=>k b ob q,fun b ob q _ _ _=>⟨ob.slots,k b ob q⟩,fun _ _ _ n _=>n,fun b ob q _=>⟨ob,k b ob q⟩,fun _ _ q=>q,fun _ _ _ q=>q,fun _ ps q=>⟨#[],by rw[q];simp⟩⟩
theorem Un.refl:Un fs ex H H h h:=Un.kept fun _ _ q=>q
theorem Un.laid(k:∀b u,h.get? b=some u->h'.get? b=some u)(hp:h.objs.size≤a)(hn:H a=none):Un fs ex H (upd H a o) h h' where
 keep:=fun b u q _ _ _=>k b u q
 slot:=fun b u q _ _ _=>⟨u.slots,k b u q⟩
 free:=fun b u q n _=>by rw[C6 (Qd (Ql (Qu q) hp))];exact n
 there:=fun b u q _=>⟨u,k b u q⟩
 tups:=fun b xs q=>by rw[C6 (L6 q hn)];exact q
 frzs:=fun b u xs q=>by rw[C6 (L6 q hn)];exact q
 tbls:=fun b ps q=>⟨#[],by rw[C6 (L6 q hn),q];simp⟩
theorem Un.write(mu:u6 (H x))(he:e=x\/H e=some (.own x))(k:∀b u,b≠e->h.get? b=some u->h'.get? b=some u)(heo:∃u,h'.get? e=some u):Un fs ex H (upd H x o) h h':=by
 have hx:∀b,H b=none->b≠x:=fun b n z=>by subst z;rw[n]at mu;exact mu
 have hb:∀b,H b=none->b≠e:=fun b n z=>by
  subst z;rcases he with r|r
  ·exact hx b n r
  ·rw[n]at r;cases r
 have hm:∀b u,H b=some u-> ¬ u6 (some u)->b≠x:=fun b u q nm z=>by subst z;rw[q]at mu;exact nm mu
 refine⟨fun b u q n _ _=>k b u (hb b n) q,fun b u q n _ _=>⟨u.slots,k b u (hb b n) q⟩,fun b u q n _=>by rw[C6 (hx b n)];exact n,fun b u q _=>?_,
  fun b xs q=>by rw[C6 (hm b _ q fun z=>z)];exact q,fun b u xs q=>by rw[C6 (hm b _ q fun z=>z)];exact q,fun b ps q=>⟨#[],by rw[C6 (hm b _ q fun z=>z),q];simp⟩⟩
 by_cases hbe:b=e
 ·subst hbe;exact heo
 ·exact⟨u,k b u hbe q⟩
end
def vP(h:Heap)(H:Hp):List ah:=(List.range h.objs.size).filter fun a=>(H a).isSome
def Z2(h:Heap)(H:Hp):Heap:=PySem.W.hideAll h (vP h H)
theorem SO(h:Heap)(H:Hp):(Z2 h H).objs.size=h.objs.size:=PySem.W.hideAll_size _ _
theorem SQ{o:Obj}(e:h.get? b=some o)(n:H b=none):(Z2 h H).get? b=some o:=
 Ug _ e fun hm=>by
  have q:(H b).isSome=true:=(List.mem_filter.mp hm).2;rw[n]at q;simp at q
theorem SR{o:Obj}(e:(Z2 h H).get? b=some o):h.get? b=some o/\H b=none:=by
 have e':h.get? b=some o:=PySem.W.of_hideAll (vP h H) e;refine⟨e',?_⟩;cases q:H b with
 |none=>rfl
 |some x=>
  have hm:b∈vP h H:=List.mem_filter.mpr ⟨Yp.mpr (Qu e'),by simp[q]⟩;have z:(Z2 h H).get? b=none:=PySem.W.hideAll_none (vP h H) hm;rw[z]at e;cases e
def SS(g h:Heap)(L:ah):OA:=(List.range h.objs.size).filterMap fun a=>if a=L\/(g.get? a).isSome=true then none else(h.get? a).map fun o=>(a,o)
def rest(g h:Heap)(L d:ah):OA:=(SS g h L).filter fun p=>decide (p.1≠d)
structure Mod(K:Qj)(mg:OI)(base:Heap):Prop where
 kin:K.In base
 glob:base.Ns mainGlobals mg
 blt:∃mb,base.Ns builtinsNs mb/\∀x:Str,x≠"__name__"->mb x=bootBuiltins x
 nolimit:base.NoLimit
structure Cx where
 prog:af
 w:ag
 K:Qj
 mg:OI
 base:Heap
 A:Around
 N:ar
 s₀:ak
 H₀:Hp
 env:Env
 outer:List Env
 stack:List Env
 ex:List ah
 fn:Str->Bool
 calm:Bool
 pn:OA
 xe:OU
variable{X:Cx}
def nI(l:List Env):List ah:=l.filterMap (·.frame)
abbrev Cx.fs(X:Cx):List ah:=nI X.outer
def tK(sc:Scope)(x:Str):Prop:=sc.names.lookup x=some .local\/sc.names.lookup x=some .cell\/sc.names.lookup x=some .free
def Loc(sc:Scope)(x:Str):Prop:=sc.names.lookup x=some .local\/sc.names.lookup x=some .cell
def KT(env:Env)(h:Heap)(m:OI)(x:Str)(u:aj):Prop:=
 (env.kindOf x=some .local/\m x=some u)\/((env.kindOf x=some .cell\/env.kindOf x=some .free)/\∃c,env.cells.lookup x=some c/\h.IsCell c (some u))
structure Cx.Ok(X:Cx):Prop where
 mod:Mod X.K X.mg X.base
 kind:X.env.scope.kind=.function
 glob:X.env.globals=mainGlobals
 blt:X.env.builtins=builtinsNs
 above:X.s₀.heap.objs.size≤X.env.locals
 inj:∀x y c,X.env.cells.lookup x=some c->X.env.cells.lookup y=some c->x=y
 has:∀x,(X.env.kindOf x=some .cell\/X.env.kindOf x=some .free)->∃c,X.env.cells.lookup x=some c
 cab:∀x c,X.fn x=true->X.env.cells.lookup x=some c->X.s₀.heap.objs.size≤c
 hd:X.calm=true->X.A.handled=none
 frames:X.A.frames=some X.stack
 stk:X.stack=X.outer\/(X.stack=X.env::X.outer/\X.env.frame=some X.env.locals)
 exf:∀b∈X.ex,b≠X.env.locals/\∀x c,X.env.cells.lookup x=some c->c≠b
 bs:∀b o,X.base.get? b=some o->X.s₀.heap.get? b=some o/\X.H₀ b=none
 bsz:X.base.objs.size≤X.s₀.heap.objs.size
 noex:∀b o,X.base.get? b=some o->b∉X.ex
 exfs:∀b∈X.ex,b∉X.fs
 funs:X.s₀.heap.FunFrames X.base X.outer
 frf:∀b∈X.fs,X.H₀ b=none
structure Inv(X:Cx)(pins:OA)(σ:List (Option V))(H:Hp)(s:ak):Prop where
 ok:X.Ok
 os:s.os=X.s₀.os
 bare:AllBare s.gens
 base:Un X.fs X.ex X.H₀ H X.s₀.heap s.heap
 loc:∃m,s.heap.Ns X.env.locals m/\∀(i:Nat) (x:Str) (v:V),X.N[i]? =some x->σ[i]? =some (some v)->tK X.env.scope x->∃u,D1 v u/\KT X.env s.heap m x u
 cell:∀x c,X.env.cells.lookup x=some c->∃v,s.heap.IsCell c v
 free:H X.env.locals=none
 freeC:∀x c,X.env.cells.lookup x=some c->H c=none
 pin:∀p∈X.pn++pins,s.heap.get? p.1=some p.2/\H p.1=none/\p.1≠X.env.locals/\p.1∉X.fs/\∀v,p.2.data≠.cell v
 hok:nX X.prog X.w H s.heap
 len:σ.length=X.N.length
section
variable{σ:List (Option V)}
theorem Cx.Ok.nofr(ok:X.Ok){o:Obj}(e:X.base.get? b=some o):b∉X.fs:=fun hb=>by
 have:=(ok.funs.mem hb).1;rw[e]at this;cases this
theorem Inv.bs(I:Inv X pins σ H s):∀b o,X.base.get? b=some o->s.heap.get? b=some o/\H b=none:=fun b o e=>
 ⟨I.base.keep b o (I.ok.bs b o e).1 (I.ok.bs b o e).2 (I.ok.nofr e) (I.ok.noex b o e),I.base.free b o (I.ok.bs b o e).1 (I.ok.bs b o e).2 (I.ok.noex b o e)⟩
theorem Inv.bk(I:Inv X pins σ H s):∀b o,X.base.get? b=some o->s.heap.get? b=some o:=fun b o e=>(I.bs b o e).1
theorem Inv.mod(I:Inv X pins σ H s):Mod X.K X.mg X.base:=I.ok.mod
theorem Inv.kIn(I:Inv X pins σ H s):X.K.In s.heap:=I.ok.mod.kin.keeps I.bk
theorem Inv.fr(I:Inv X pins σ H s):∃m,Fr X.base X.env.locals s.heap m:=
 let ⟨m,hn,_⟩:=I.loc
 ⟨m,hn,I.bk,Qn I.ok.bsz I.ok.above⟩
theorem Inv.lt(I:Inv X pins σ H s):X.env.locals<s.heap.objs.size:=let ⟨_,hn,_⟩:=I.loc;hn.lt
theorem Inv.sz(I:Inv X pins σ H s):X.s₀.heap.objs.size≤s.heap.objs.size:=Qn I.ok.above (Zy I.lt)
theorem Inv.nofs(I:Inv X pins σ H s)(h:s.heap.objs.size≤a):a∉X.fs:=fun hb=>by
 obtain⟨_,o,ho,_⟩:=I.ok.funs.mem hb;exact absurd (Ql (Qu ho) (Qn I.sz h)) (Jf _)
theorem Inv.cne(I:Inv X pins σ H s):∀x c,X.env.cells.lookup x=some c->c≠X.env.locals:=fun x c e z=>by
 obtain⟨v,o,ho,hd⟩:=I.cell x c e;obtain⟨m,⟨o',es,ep,ho',hd',_⟩,_⟩:=I.loc;rw[z,ho']at ho;cases ho;rw[hd']at hd;cases hd
theorem Inv.funs(I:Inv X pins σ H s):s.heap.FunFrames X.base X.outer:=by
 have all:∀(l:List Env),(∀b∈nI l,b∈X.fs)->X.s₀.heap.FunFrames X.base l->s.heap.FunFrames X.base l:=by
  intro l
  induction l with
  |nil=>intro _ _;trivial
  |cons env r ih=>
   intro hs hl;obtain⟨hk,⟨L,o,hf,hn,ho,hd⟩,hr⟩:=hl;have hL:L∈X.fs:=hs L (by unfold nI;rw[Jd,hf];exact Zv);obtain⟨sl,e⟩:=I.base.slot L o ho (I.ok.frf L hL) hL fun z=>I.ok.exfs L z hL;exact⟨hk,⟨L,_,hf,hn,e,hd⟩,ih (fun b hb=>hs b (by unfold nI;rw[Jd,hf];exact Qo _ hb)) hr⟩
 exact all X.outer (fun _ hb=>hb) I.ok.funs
theorem Inv.stack(I:Inv X pins σ H s):s.heap.FunFrames X.base X.stack:=by
 rcases I.ok.stk with e|⟨e,hf⟩
 ·rw[e];exact I.funs
 ·rw[e];obtain⟨m,hn,_⟩:=I.loc;refine .cons (by rw[I.ok.kind];decide) hf hn ?_ I.funs;exact Heap.get?_none_of_le (Qn I.ok.bsz I.ok.above)
theorem Inv.stkSub(I:Inv X pins σ H s):∀b∈nI X.stack,b∈X.env.locals::X.fs:=fun b hb=>by
 rcases I.ok.stk with e|⟨e,hf⟩
 ·rw[e]at hb;exact Qo _ hb
 ·rw[e]at hb;unfold nI at hb;rw[Jd,hf]at hb;exact hb
theorem Inv.stkFree(I:Inv X pins σ H s):∀b∈nI X.stack,H b=none:=fun b hb=>by
 rcases Qp.mp (I.stkSub b hb)with e|hb
 ·rw[e];exact I.free
 ·obtain⟨_,o,ho,_⟩:=I.ok.funs.mem hb;exact I.base.free b o ho (I.ok.frf b hb) fun z=>I.ok.exfs b z hb
theorem Inv.step(I:Inv X pins σ H s)
  (hch:∀b∈ch,(b∈X.ex\/X.s₀.heap.objs.size≤b)/\b≠X.env.locals/\(∀x c,X.env.cells.lookup x=some c->c≠b)/\∀p∈X.pn++pins,p.1≠b)
  (keep:∀b o,b≠X.env.locals->b∉X.fs->b∉ch->s.heap.get? b=some o->H b=none->h'.get? b=some o)
  (slot:∀b o,b≠X.env.locals->b∈X.fs->b∉ch->s.heap.get? b=some o->H b=none->∃sl,h'.get? b=some {o with slots:=sl})(free:∀b o,b∉ch->s.heap.get? b=some o->H b=none->H' b=none)
  (there:∀b o,b∉ch->s.heap.get? b=some o->∃o',h'.get? b=some o')
  (tups:∀b xs,H b=some (.tup xs)->H' b=some (.tup xs))(frzs:∀b o u,H b=some (.frz o u)->H' b=some (.frz o u))(tbls:∀b ps,H b=some (.tbl ps)->∃more,H' b=some (.tbl (ps++more)))
  (ns:∀m,s.heap.Ns X.env.locals m->h'.Ns X.env.locals m)(hok:nX X.prog X.w H' h')(hg:AllBare g'):
  Inv X pins σ H' {s with heap:=h',gens:=g',drawn:=d',toks:=t'}:=by
 have neL:∀b o,X.s₀.heap.get? b=some o->b≠X.env.locals:=fun b o e=>Qd (Ql (Qu e) I.ok.above);have neC:∀b o,X.s₀.heap.get? b=some o->b∉X.ex->b∉ch:=fun b o e hx hb=>by
  rcases(hch b hb).1 with z|z
  ·exact hx z
  ·exact absurd (Ql (Qu e) z) (Jf _)
 have cellK:∀x c,X.env.cells.lookup x=some c->∀v,s.heap.IsCell c v->h'.IsCell c v:=fun x c e v ⟨o,ho,hd⟩=>by
  have nch:c∉ch:=fun z=>(hch c z).2.2.1 x c e rfl
  by_cases hc:c∈X.fs
  ·obtain⟨sl,q⟩:=slot c o (I.cne x c e) hc nch ho (I.freeC x c e);exact⟨_,q,hd⟩
  ·exact⟨o,keep c o (I.cne x c e) hc nch ho (I.freeC x c e),hd⟩
 refine⟨I.ok,I.os,hg,⟨fun b o e n hb hx=>?_,fun b o e n hb hx=>?_,fun b o e n hx=>?_,fun b o e hx=>?_,fun b xs e=>tups b xs (I.base.tups b xs e),fun b o xs e=>frzs b o xs (I.base.frzs b o xs e),fun b ps e=>?_⟩,?_,fun x c e=>?_,?_,fun x c e=>?_,fun p hp=>?_,hok,I.len⟩
 ·exact keep b o (neL b o e) hb (neC b o e hx) (I.base.keep b o e n hb hx) (I.base.free b o e n hx)
 ·obtain⟨sl,e1⟩:=I.base.slot b o e n hb hx;obtain⟨sl',e2⟩:=slot b _ (neL b o e) hb (neC b o e hx) e1 (I.base.free b o e n hx);exact⟨sl',e2⟩
 ·obtain⟨o',e1⟩:=I.base.there b o e hx;exact free b o' (neC b o e hx) e1 (I.base.free b o e n hx)
 ·obtain⟨o',e1⟩:=I.base.there b o e hx;exact there b o' (neC b o e hx) e1
 ·obtain⟨m1,e1⟩:=I.base.tbls b ps e;obtain⟨m2,e2⟩:=tbls b _ e1;exact⟨m1++m2,by rw[e2,Array.append_assoc]⟩
 ·obtain⟨m,hn,hl⟩:=I.loc;refine⟨m,ns m hn,fun i x v e1 e2 e3=>?_⟩;obtain⟨u,r,l⟩:=hl i x v e1 e2 e3;refine⟨u,r,?_⟩;rcases l with l|⟨k,c,e,z⟩
  ·exact .inl l
  ·exact .inr ⟨k,c,e,cellK x c e _ z⟩
 ·obtain⟨v,z⟩:=I.cell x c e;exact⟨v,cellK x c e v z⟩
 ·obtain⟨m,⟨o,_,_,ho,_⟩,_⟩:=I.loc;exact free _ o (fun z=>(hch _ z).2.1 rfl) ho I.free
 ·obtain⟨v,o,ho,hd⟩:=I.cell x c e;exact free c o (fun z=>(hch c z).2.2.1 x c e rfl) ho (I.freeC x c e)
 ·obtain⟨e,n,ne,nf,d⟩:=I.pin p hp;have nch:p.1∉ch:=fun z=>(hch p.1 z).2.2.2 p hp rfl;exact⟨keep p.1 p.2 ne nf nch e n,free p.1 p.2 nch e n,ne,nf,d⟩
theorem Inv.un(I:Inv X pins σ H s)(u:Un X.fs [] H H' s.heap h')(hok:nX X.prog X.w H' h'):Inv X pins σ H' {s with heap:=h',toks:=t'}:=by
 obtain⟨m,⟨o,es,ep,ho,r⟩,_⟩:=id I.loc;obtain⟨sl,hL⟩:=u.any ho I.free (by simp);exact I.step (g':=s.gens) (d':=s.drawn) (ch:=[]) (fun _ z=>nomatch z) (fun b o _ hb _ e n=>u.keep b o e n hb (by simp)) (fun b o _ hb _ e n=>u.slot b o e n hb (by simp)) (fun b o _ e n=>u.free b o e n (by simp)) (fun b o _ e=>u.there b o e (by simp)) u.tups u.frzs u.tbls (fun m' hm=>by
  obtain⟨o',es',ep',ho',r'⟩:=hm;rw[ho]at ho';cases ho';exact⟨_,es',ep',hL,r'⟩) hok I.bare
theorem Inv.call(I:Inv X pins σ H s)(u:Un (nI X.stack) ch H H' s.heap h')(hok:nX X.prog X.w H' h')(hg:AllBare g')
  (hch:∀b∈ch,(b∈X.ex\/X.s₀.heap.objs.size≤b)/\b≠X.env.locals/\(∀x c,X.env.cells.lookup x=some c->c≠b)/\∀p∈X.pn++pins,p.1≠b):
  Inv X pins σ H' {s with heap:=h',gens:=g',drawn:=d',toks:=t'}:=by
 obtain⟨m,⟨o,es,ep,ho,r⟩,_⟩:=id I.loc;obtain⟨sl,hL⟩:=u.any ho I.free fun z=>(hch _ z).2.1 rfl;exact I.step (ch:=ch) hch (fun b o hL hb hc e n=>u.keep b o e n (fun z=>(Qp.mp (I.stkSub b z)).elim hL hb) hc) (fun b o _ _ hc e n=>u.any e n hc) (fun b o hc e n=>u.free b o e n hc) (fun b o hc e=>u.there b o e hc) u.tups u.frzs u.tbls (fun m' hm=>by
  obtain⟨o',es',ep',ho',r'⟩:=hm;rw[ho]at ho';cases ho';exact⟨_,es',ep',hL,r'⟩) hok hg
theorem Inv.turned(I:Inv X pins σ H s)(k:∀b o,b≠it->s.heap.get? b=some o->h'.get? b=some o)(hn:H it=none)(hL:it≠X.env.locals)
  (h1:it∈X.ex\/X.s₀.heap.objs.size≤it)(h2:∀x c,X.env.cells.lookup x=some c->c≠it)(h3:∀p∈X.pn++pins,p.1≠it):Inv X pins σ H {s with heap:=h',toks:=t'}:=by
 have nit:∀b u,H b=some u->b≠it:=fun b u e z=>by rw[z,hn]at e;cases e
 refine I.step (g':=s.gens) (d':=s.drawn) (ch:=[it]) (fun b hb=>?_) (fun b o _ _ hc e _=>k b o (fun z=>hc (by simp[z])) e) (fun b o _ _ hc e _=>⟨o.slots,k b o (fun z=>hc (by simp[z])) e⟩) (fun _ _ _ _ n=>n)
  (fun b o hc e=>⟨o,k b o (fun z=>hc (by simp[z])) e⟩) (fun _ _ e=>e) (fun _ _ _ e=>e) (fun b ps e=>⟨#[],by rw[e];simp⟩) (fun m hm=>?_) (fun b u e=>?_) I.bare
 ·have e:b=it:=by simpa using hb
  subst e;exact⟨h1,hL,h2,h3⟩
 ·obtain⟨o,es,ep,ho,r⟩:=hm;exact⟨o,es,ep,k _ o (Za hL) ho,r⟩
 ·refine(I.hok b u e).stay (fun c v hc q=>k c v ?_ q) (fun _ q=>q) fun _ _ q=>q;rcases hc with z|z
  ·rw[z];exact nit b u e
  ·exact nit c _ z
theorem Inv.tok(I:Inv X pins σ H s)(t:Nat):Inv X pins σ H {s with toks:=t}:=I.un (h':=s.heap) (t':=t) Un.refl I.hok
theorem Inv.kept(I:Inv X pins σ H s)(k:∀b u,s.heap.get? b=some u->h'.get? b=some u):Inv X pins σ H {s with heap:=h',toks:=t'}:=I.un (Un.kept k) (I.hok.kept k)
theorem Inv.laid(I:Inv X pins σ H s)(k:∀b u,s.heap.get? b=some u->h'.get? b=some u)(hp:s.heap.objs.size≤a)(new:F3 X.prog X.w (upd H a o) h' a o):
  Inv X pins σ (upd H a o) {s with heap:=h',toks:=t'}:=I.un (Un.laid k hp (I.hok.fresh hp)) (I.hok.laid k hp new)
theorem Inv.write{x e:ah}(I:Inv X pins σ H s)(mu:u6 (H x))(he:e=x\/H e=some (.own x))(k:∀b u,b≠e->s.heap.get? b=some u->h'.get? b=some u)(heo:∃u,h'.get? e=some u)
  (new:F3 X.prog X.w (upd H x o) h' x o):Inv X pins σ (upd H x o) {s with heap:=h',toks:=t'}:=I.un (Un.write mu he k heo) (I.hok.write mu he k heo new)
theorem Inv.pins_of{pins':OA}(I:Inv X pins σ H s)(h:∀p∈pins',s.heap.get? p.1=some p.2/\H p.1=none/\p.1≠X.env.locals/\p.1∉X.fs/\∀v,p.2.data≠.cell v):Inv X pins' σ H s:=
 ⟨I.ok,I.os,I.bare,I.base,I.loc,I.cell,I.free,I.freeC,fun p hp=>(Xf.mp hp).elim (fun z=>I.pin p (Xk _ z)) (h p),I.hok,I.len⟩
theorem Ge(hN:N.Nodup)(a:N[i]? =some x)(b:N[j]? =some x):i=j:=by
 obtain⟨h1,e1⟩:=Qc.mp a;obtain⟨h2,e2⟩:=Qc.mp b;exact(List.getElem_inj hN).mp (e1.trans e2.symm)
theorem KU{Q:Unit->ak->Prop}(I:Inv X pins σ H s)(hN:X.N.Nodup)(hi:X.N[i]? =some x)(hx:Loc X.env.scope x)(r:D1 v u)
  (h:∀s',Inv X pins (σ.set i (some v)) H s'->(∃a,Heap.SameBut a s.heap s'.heap/\(a=X.env.locals\/X.env.cells.lookup x=some a))->Q () s')(hf:X.fn x=true\/X.env.scope.names.lookup x=some .local:=by first|exact .inl rfl|exact .inr rfl|assumption):wpAny M A (storeName X.env x u) Q E s:=by
 obtain⟨m,hn,hl⟩:=id I.loc;have hcls:(X.env.scope.kind==.class||(X.env.scope.kind==.module&&X.env.locals !=X.env.globals))=false:=by rw[I.ok.kind];rfl
 have hiσ:i<σ.length:=by rw[I.len];exact(Qc.mp hi).1
 have cne:=I.cne;have tracked:∀{a:ah}{h':Heap},(∃o,s.heap.get? a=some o/\H a=none)->Heap.SameBut a s.heap h'->nX X.prog X.w H h':=fun{a h'} ha hs b ob e=>by
  obtain⟨_,_,hfree⟩:=ha;refine(I.hok b ob e).stay (fun c w' hc q=>(hs.2 c ?_).trans q) (fun _ q=>q) fun _ _ q=>q;rintro rfl;rcases hc with rfl|hc
  ·rw[hfree]at e;cases e
  ·rw[hfree]at hc;cases hc
 rcases hx with hk|hk
 ·refine wpAny_storeName_local hk hn (fun h' hn' hs=>?_) hcls;obtain⟨oL,_,_,hoL,_⟩:=id hn;refine h _ ⟨I.ok,I.os,I.bare,⟨fun b o e n hb hx=>?_,fun b o e n hb hx=>?_,I.base.free,fun b o e hx=>?_,I.base.tups,I.base.frzs,I.base.tbls⟩,⟨_,hn',fun j y v' e1 e2 e3=>?_⟩,fun y c e=>?_,I.free,I.freeC,fun p hp=>?_,tracked ⟨oL,hoL,I.free⟩ hs,by simpa using I.len⟩ ⟨_,hs,.inl rfl⟩
  ·exact(hs.2 b (Qd (Ql (Qu e) I.ok.above))).trans (I.base.keep b o e n hb hx)
  ·obtain⟨sl,e1⟩:=I.base.slot b o e n hb hx;exact⟨sl,(hs.2 b (Qd (Ql (Qu e) I.ok.above))).trans e1⟩
  ·obtain⟨o',e1⟩:=I.base.there b o e hx;exact⟨o',(hs.2 b (Qd (Ql (Qu e) I.ok.above))).trans e1⟩
  ·by_cases hj:j=i
   ·subst hj;rw[hi]at e1;cases e1;rw[Ym hiσ]at e2;cases e2;exact⟨u,r,.inl ⟨hk,by simp⟩⟩
   ·rw[Qs (Za hj)]at e2;obtain⟨u',r',q⟩:=hl j y v' e1 e2 e3;refine⟨u',r',?_⟩;rcases q with⟨k,e⟩|⟨k,c,e,z⟩
    ·refine .inl ⟨k,?_⟩;have:y≠x:=fun e=>hj (Ge hN e1 (e ▸ hi));simp[this,e]
    ·exact .inr ⟨k,c,e,z.sameBut hs (cne y c e)⟩
  ·obtain⟨w',z⟩:=I.cell y c e;exact⟨w',z.sameBut hs (cne y c e)⟩
  ·obtain⟨e,n,ne,nf,d⟩:=I.pin p hp;exact⟨(hs.2 p.1 ne).trans e,n,ne,nf,d⟩
 ·have hfn:X.fn x=true:=by
   rcases hf with z|z
   ·exact z
   ·rw[z]at hk;cases hk
  obtain⟨c,hc⟩:=I.ok.has x (.inl hk);obtain⟨w',z⟩:=I.cell x c hc;refine wpAny_storeName_cell I.ok.kind hk hc z (fun h' hc' hs=>?_);obtain⟨oc,hoc,hocd⟩:=id z;refine h {s with heap:=h'} ⟨I.ok,I.os,I.bare,⟨fun b o e n hb hx=>?_,fun b o e n hb hx=>?_,I.base.free,fun b o e hx=>?_,I.base.tups,I.base.frzs,I.base.tbls⟩,⟨m,hn.sameBut hs (Za (cne x c hc)),fun j y v' e1 e2 e3=>?_⟩,fun y c' e=>?_,I.free,I.freeC,fun p hp=>?_,tracked ⟨oc,hoc,I.freeC x c hc⟩ hs,by simpa using I.len⟩ ⟨c,hs,.inr hc⟩
  ·exact(hs.2 b (Qd (Ql (Qu e) (I.ok.cab x c hfn hc)))).trans (I.base.keep b o e n hb hx)
  ·obtain⟨sl,e1⟩:=I.base.slot b o e n hb hx;exact⟨sl,(hs.2 b (Qd (Ql (Qu e) (I.ok.cab x c hfn hc)))).trans e1⟩
  ·obtain⟨o',e1⟩:=I.base.there b o e hx;exact⟨o',(hs.2 b (Qd (Ql (Qu e) (I.ok.cab x c hfn hc)))).trans e1⟩
  ·by_cases hj:j=i
   ·subst hj;rw[hi]at e1;cases e1;rw[Ym hiσ]at e2;cases e2;exact⟨u,r,.inr ⟨.inl hk,c,hc,hc'⟩⟩
   ·rw[Qs (Za hj)]at e2;obtain⟨u',r',q⟩:=hl j y v' e1 e2 e3;refine⟨u',r',?_⟩;rcases q with q|⟨k,c',e,z'⟩
    ·exact .inl q
    ·refine .inr ⟨k,c',e,z'.sameBut hs ?_⟩;rintro rfl;exact hj (Ge hN e1 (I.ok.inj _ _ _ e hc ▸ hi))
  ·by_cases hcc:c'=c
   ·subst hcc;exact⟨_,hc'⟩
   ·obtain⟨w2,z2⟩:=I.cell y c' e;exact⟨w2,z2.sameBut hs hcc⟩
  ·obtain⟨e,n,ne,nf,d⟩:=I.pin p hp;refine⟨(hs.2 p.1 ?_).trans e,n,ne,nf,d⟩;intro q;rw[q,hoc]at e;have q':oc=p.2:=Yl e;exact d w' (by rw[←q'];exact hocd)
theorem Ek{Q:Unit->ak->Prop}(I:Inv X pins σ H s)(hN:X.N.Nodup)(hi:X.N[i]? =some x)(hx:Loc X.env.scope x)(r:D1 v u)
  (h:∀s',Inv X pins (σ.set i (some v)) H s'->Q () s')(hf:X.fn x=true\/X.env.scope.names.lookup x=some .local:=by first|exact .inl rfl|exact .inr rfl|assumption):wpAny M A (storeName X.env x u) Q E s:=
 KU I hN hi hx r (fun s' I' _=>h s' I') hf
theorem Inv.call'(I:Inv X pins σ H s)(ho:s'.os=s.os)(u:Un (nI X.stack) ch H H' s.heap s'.heap)(hok:nX X.prog X.w H' s'.heap)(hg:AllBare s'.gens)
  (hch:∀b∈ch,(b∈X.ex\/X.s₀.heap.objs.size≤b)/\b≠X.env.locals/\(∀x c,X.env.cells.lookup x=some c->c≠b)/\∀p∈X.pn++pins,p.1≠b):Inv X pins σ H' s':=by
 obtain⟨h',g',d',t',o'⟩:=s';have e:o'=s.os:=ho;subst e;exact I.call (g':=g') (t':=t') (d':=d') u hok hg hch
end
abbrev XK:=aj->Option ah->Hp->Prop
abbrev St:=List (Option V)
variable{σ:St}
abbrev VK:=V->Hp->Prop
abbrev TE:=St->Hp->VK->Prop
variable{ta tb te:TE}
abbrev TT:=St->Hp->(Bool->Hp->Prop)->Prop
abbrev TA:=St->Hp->(ba->Hp->Prop)->Prop
structure Ends where
 nx:St->Hp->Prop
 rt:VK
 bk:St->Hp->Prop:=fun _ _=>False
 ct:St->Hp->Prop:=fun _ _=>False
abbrev TS:=Ends->St->Hp->Prop
def EP(X:Cx)(pins:OA)(σ:St)(Q:VK)(u:aj)(s':ak):Prop:=∃v H',Inv X pins σ H' s'/\D1 v u/\Q v H'
def TP(X:Cx)(pins:OA)(σ:St)(Q:Bool->Hp->Prop)(b:Bool)(s':ak):Prop:=∃H',Inv X pins σ H' s'/\Q b H'
def AP(X:Cx)(pins:OA)(σ:St)(Q:ba->Hp->Prop)(us:ao)(s':ak):Prop:=∃vs H',Inv X pins σ H' s'/\C7 vs us/\Q vs H'
def SP(X:Cx)(pins:OA)(D:Ends)(f:Flow)(s':ak):Prop:=
 match f with
 |.next=>∃σ' H',Inv X pins σ' H' s'/\D.nx σ' H'
 |.brk=>∃σ' H',Inv X pins σ' H' s'/\D.bk σ' H'
 |.cont=>∃σ' H',Inv X pins σ' H' s'/\D.ct σ' H'
 |.ret u=>∃v σ' H',Inv X pins σ' H' s'/\D1 v u/\D.rt v H'
def PE(X:Cx)(e:Expr)(t:TE):Prop:=
 ∀(pins:OA) (s:ak) (σ:St) (H:Hp) (Q:VK),Inv X pins σ H s->t σ H Q->wpAny (model X.prog X.w) X.A (eval e X.env) (EP X pins σ Q) X.xe s
def PT(X:Cx)(e:Expr)(t:TT):Prop:=
 ∀(pins:OA) (s:ak) (σ:St) (H:Hp) (Q:Bool->Hp->Prop),Inv X pins σ H s->t σ H Q->wpAny (model X.prog X.w) X.A (isTrue e X.env (eval e X.env)) (TP X pins σ Q) X.xe s
def PW(X:Cx)(e:Expr)(t:TT):Prop:=
 ∀(whole:Sem aj) (pins:OA) (s:ak) (σ:St) (H:Hp) (Q:Bool->Hp->Prop),Inv X pins σ H s->t σ H Q->wpAny (model X.prog X.w) X.A (isTrue e X.env whole) (TP X pins σ Q) X.xe s
theorem PW.pt{t:TT}(h:PW X e t):PT X e t:=h _
def PA(X:Cx)(es:au)(t:TA):Prop:=
 ∀(pos:Pos) (pins:OA) (s:ak) (σ:St) (H:Hp) (Q:ba->Hp->Prop),Inv X pins σ H s->t σ H Q->wpAny (model X.prog X.w) X.A (spliced (backTo pos (starEach es X.env))) (AP X pins σ Q) X.xe s
def PS(X:Cx)(st:Stmt)(t:TS):Prop:=
 ∀(pins:OA) (s:ak) (σ:St) (H:Hp) (D:Ends),Inv X pins σ H s->t D σ H->wpAny (model X.prog X.w) X.A (exec st X.env) (SP X pins D) X.xe s
def o8(X:Cx)(st:List Stmt)(t:TS):Prop:=
 ∀(pins:OA) (s:ak) (σ:St) (H:Hp) (D:Ends),Inv X pins σ H s->t D σ H->wpAny (model X.prog X.w) X.A (execs st X.env) (SP X pins D) X.xe s
theorem i6{t:Sem α}{Q Q':α->ak->Prop}(h:wpAny M A t Q E s)(hQ:∀a s,Q a s->Q' a s):wpAny M A t Q' E s:=Zj h hQ fun _ _ x=>x
section
theorem bin{a b:Expr}(ha:PE X a ta)(hb:PE X b tb)(I:Inv X pins σ H s)(h:ta σ H fun x H1=>tb σ H1 fun y H2=>R x y H2)
  {Q:α->ak->Prop}{f:aj->aj->Sem α}
  (hf:∀v u s2 x y H2,Inv X pins σ H2 s2->D1 x v->D1 y u->R x y H2->wpAny (model X.prog X.w) X.A (f v u) Q X.xe s2):
  wpAny (model X.prog X.w) X.A (eval a X.env) (fun v s₁=>wpAny (model X.prog X.w) X.A (eval b X.env) (fun u s₂=>wpAny (model X.prog X.w) X.A (f v u) Q X.xe s₂) X.xe s₁) X.xe s:=by
 refine i6 (ha pins s σ H _ I h) fun v s1 ⟨x,H1,I1,r1,q1⟩=>?_;refine i6 (hb pins s1 σ H1 _ I1 q1) fun u s2 ⟨y,H2,I2,r2,q2⟩=>?_;exact hf v u s2 x y H2 I2 r1 r2 q2
def T0(i:Nat):TE:=fun σ H Q=>∃v,σ[i]? =some (some v)/\Q v H
def tC(v:V):TE:=fun _ H Q=>Q v H
theorem Gf(hN:X.N[i]? =some x)(hv:tK X.env.scope x)(hd:(x==("__debug__":Str))=false:=by decide)(hcd:(x==("__classdict__":Str))=false:=by decide):PE X (.Name x pos) (T0 i):=by
 intro pins s σ H Q I h;obtain⟨v,e,h⟩:=h;obtain⟨m,hn,hl⟩:=I.loc;obtain⟨u,r,l⟩:=hl i x v hN e hv;have fin:EP X pins σ Q u s:=⟨v,H,I,r,h⟩;rcases l with⟨hk,hm⟩|⟨hk,c,hc,hcell⟩
 ·exact wpAny_Name (wpAny_loadName_local I.ok.kind hk hn hm fin) hd
 ·rcases hk with hk|hk
  ·exact wpAny_Name (wpAny_loadName_cell I.ok.kind hk hc hcell fin) hd
  ·exact wpAny_Name (wpAny_loadName_free I.ok.kind hk hc hcell fin hcd) hd
theorem KW{i j pos}:PE X (.Constant (.int i) j pos) (tC (.int i)):=fun _ _ _ H _ I h=>wpAny_Constant_int ⟨.int i,H,I.tok _,⟨_,rfl⟩,h⟩
theorem SU{b j pos}:PE X (.Constant (.bool b) j pos) (tC (.bl b)):=fun _ _ _ H _ I h=>Constant_bool ⟨.bl b,H,I,rfl,h⟩
theorem KY{j pos}:PE X (.Constant .none j pos) (tC .non):=fun _ _ _ H _ I h=>Constant_none ⟨.non,H,I,rfl,h⟩
theorem SV{x j pos}:PE X (.Constant (.str x) j pos) (tC (.str x)):=fun _ _ _ H _ I h=>Calls.Constant_str ⟨.str x,H,I.tok _,⟨_,rfl⟩,h⟩
def Gl(X:Cx)(x:Str):Prop:=X.env.kindOf x=some .globalImplicit
theorem DB(I:Inv X pins σ H s)(hg:Gl X x)(hm:X.mg x=some u)(h:Q u s)
  (hd:(x==("__debug__":Str))=false:=by decide):wpAny (model X.prog X.w) X.A (eval (.Name x pos) X.env) Q E s:=
 Calls.Name_function_global I.ok.kind hg (Calls.loadGlobal_global (by rw[I.ok.glob];exact I.mod.glob.keeps I.bk) hm h) hd
theorem Bu(I:Inv X pins σ H s)(hg:Gl X x)(hm:X.mg x=none)(hv:bootBuiltins x=some u)(h:Q u s)
  (hn:x≠"__name__":=by decide)(hd:(x==("__debug__":Str))=false:=by decide):wpAny (model X.prog X.w) X.A (eval (.Name x pos) X.env) Q E s:=by
 obtain⟨mb,h1,h2⟩:=I.mod.blt;exact Calls.Name_function_global I.ok.kind hg (Calls.loadGlobal_builtin (by rw[I.ok.glob];exact I.mod.glob.keeps I.bk) hm (by rw[I.ok.blt];exact h1.keeps I.bk) ((h2 x hn).trans hv) h) hd
theorem KZ(hg:Gl X x)(hm:X.mg x=some u)(r:D1 v u)(hd:(x==("__debug__":Str))=false:=by decide):PE X (.Name x pos) (tC v):=
 fun _ _ _ H _ I h=>DB I hg hm ⟨v,H,I,r,h⟩ hd
theorem El(hg:Gl X x)(hm:X.mg x=none)(hv:bootBuiltins x=some u)(r:D1 v u)(hn:x≠"__name__":=by decide)(hd:(x==("__debug__":Str))=false:=by decide):PE X (.Name x pos) (tC v):=
 fun _ _ _ H _ I h=>Bu I hg hm hv ⟨v,H,I,r,h⟩ hn hd
variable{a b:Expr}
def PC(X:Cx)(op:CmpOp)(a b:Expr)(t:TE):Prop:=
 ∀(pins:OA) (s:ak) (σ:St) (H:Hp) (Q:VK),Inv X pins σ H s->t σ H Q->
  wpAny (model X.prog X.w) X.A (eval a X.env) (fun v s₁=>wpAny (model X.prog X.w) X.A (eval b X.env) (fun u s₂=>wpAny (model X.prog X.w) X.A (compareOp op v u) (EP X pins σ Q) X.xe s₂) X.xe s₁) X.xe s
theorem rP(b:Expr)(h:op≠.In)(h2:op≠.NotIn):behindInMarks op b=false:=by
 have e1:(op==CmpOp.In)=false:=by cases op<;>first|rfl|exact absurd rfl h
 have e2:(op==CmpOp.NotIn)=false:=by cases op<;>first|rfl|exact absurd rfl h2
 cases b<;>simp[behindInMarks,e1,e2]
def tB(t:TE):TT:=fun σ H Q=>t σ H fun x H1=>∃c,x=.bl c/\Q c H1
theorem mW{t:TE}(h:PC X op a b t)(h1:behindInMarks op b=false:=by first|exact rP _ (by decide) (by decide)|rfl):PT X (.Compare a [op] [b] pos) (tB t):=by
 intro pins s σ H Q I hw;refine wpAny_isTrue_Compare1 (i6 (h pins s σ H _ I hw) fun v s1 h1=>i6 h1 fun u s2 h2=>i6 h2 fun c s3 ⟨x,H1,I1,r1,q1⟩=>?_) h1;obtain⟨d,rfl,q⟩:=q1;cases r1;exact Jk ⟨H1,I1,q⟩
theorem SW{t:TE}(h:PE X e t)(he:∀whole,isTrue e X.env whole=(do let v←whole;standAt e.pos;holding [v] (truthy v)):=by intro _;rfl):PT X e (tB t):=by
 intro pins s σ H Q I hw;refine isTrue_plain (i6 (h pins s σ H _ I hw) fun v s1 ⟨x,H1,I1,r1,q1⟩=>?_) (he _);obtain⟨d,rfl,q⟩:=q1;cases r1;exact Jk ⟨H1,I1,q⟩
variable{tA tB':TT}{rest:au}
def Ka(t u:TT):TT:=fun σ H Q=>t σ H fun c H1=>if c=true then u σ H1 Q else Q false H1
def xW(t u:TT):TT:=fun σ H Q=>t σ H fun c H1=>if c=true then Q true H1 else u σ H1 Q
def SX(t:TT):TT:=fun σ H Q=>t σ H fun c H1=>Q (!c) H1
theorem SY(ha:PT X a tA):PW X (.BoolOp .And [a] pos) tA:=by
 intro wh pins s σ H Q I h;refine isTrue_and (i6 (ha pins s σ H Q I h) fun c s1 e=>?_);cases c with
 |true=>exact isTrue_and_nil e
 |false=>exact e
theorem SZ(ha:PT X a tA):PW X (.BoolOp .Or [a] pos) tA:=by
 intro wh pins s σ H Q I h;refine isTrue_or (i6 (ha pins s σ H Q I h) fun c s1 e=>?_);cases c with
 |false=>exact isTrue_or_nil e
 |true=>exact e
theorem Sa(ha:PT X a tA)(hb:PW X (.BoolOp .And (b::rest) pos) tB'):PW X (.BoolOp .And (a::b::rest) pos) (Ka tA tB'):=by
 intro wh pins s σ H Q I h;refine isTrue_and (i6 (ha pins s σ H _ I h) fun c s1 ⟨H1,I1,q1⟩=>?_);cases c with
 |true=>exact hb wh pins s1 σ H1 Q I1 q1
 |false=>exact⟨H1,I1,q1⟩
theorem Sb(ha:PT X a tA)(hb:PW X (.BoolOp .Or (b::rest) pos) tB'):PW X (.BoolOp .Or (a::b::rest) pos) (xW tA tB'):=by
 intro wh pins s σ H Q I h;refine isTrue_or (i6 (ha pins s σ H _ I h) fun c s1 ⟨H1,I1,q1⟩=>?_);cases c with
 |true=>exact⟨H1,I1,q1⟩
 |false=>exact hb wh pins s1 σ H1 Q I1 q1
theorem Se(ha:PT X a tA):PT X (.UnaryOp .Not a pos) (SX tA):=by
 intro pins s σ H Q I h;exact isTrue_not (ha pins s σ H (fun c H1=>Q (!c) H1) I h)
def Sf(ta tb:TE):TE:=fun σ H Q=>ta σ H fun x H1=>∃c,x=.bl c/\if c=true then tb σ H1 Q else Q (.bl false) H1
def Sg(ta:TE):TE:=fun σ H Q=>ta σ H fun x H1=>∃c,x=.bl c/\Q (.bl (!c)) H1
theorem Sh{op}{t:TE}(h:PE X a t):PE X (.BoolOp op [a] pos) t:=fun pins s σ H Q I hw=>BoolOp_one (h pins s σ H Q I hw)
theorem Si(ha:PE X a ta)(hb:PE X (.BoolOp .And (b::rest) pos) tb):PE X (.BoolOp .And (a::b::rest) pos) (Sf ta tb):=by
 intro pins s σ H Q I h;refine BoolOp_and (i6 (ha pins s σ H _ I h) fun v s1 ⟨x,H1,I1,r1,q1⟩=>?_);obtain⟨c,rfl,q1⟩:=q1;cases r1;refine Jk ?_;cases c with
 |true=>exact hb pins s1 σ H1 Q I1 q1
 |false=>exact⟨.bl false,H1,I1,rfl,q1⟩
theorem Sk(ha:PE X a ta):PE X (.UnaryOp .Not a pos) (Sg ta):=by
 intro pins s σ H Q I h;refine UnaryOp_ (i6 (ha pins s σ H _ I h) fun v s1 ⟨x,H1,I1,r1,q1⟩=>?_);obtain⟨c,rfl,q1⟩:=q1;cases r1;exact not_of (Jk ⟨.bl (!c),H1,I1,rfl,q1⟩)
end
def nT(K:Qj)(H:Hp)(a:ah)(xs:ba):Prop:=
 Rd H a (.lst xs)\/
  ∃(o:Obj) (its:az) (n:Nat),K.lookup a=some o/\o.cls=.type "list"/\o.dict=none/\o.data=.seq its n/\its.size≤sizeLine/\C7 xs its.toList
def n5(K:Qj)(H:Hp)(a:ah)(xs:ba):Prop:=
 Rd H a (.tup xs)\/
  ∃(o:Obj) (its:az) (n:Nat),K.lookup a=some o/\o.cls=.type "tuple"/\o.dict=none/\o.data=.seq its n/\its.size≤sizeLine/\C7 xs its.toList
def Sl:aj->Option V
 |.none=>some .non
 |.bool b=>some (.bl b)
 |.int i _=>some (.int i)
 |.str x _=>some (.str x)
 |.bytes b _=>some (.byt b)
 |.float b _=>some (.flt b)
 |.ref a=>some (.ref a)
 |.type n=>some (.ty n)
 |_=>none
theorem D1.abs{x:V}(r:D1 x u):Sl u=some x:=by
 cases x with
 |non=>cases r;rfl
 |bl _=>cases r;rfl
 |int _=>obtain⟨t,rfl⟩:=r;rfl
 |str _=>obtain⟨t,rfl⟩:=r;rfl
 |byt _=>obtain⟨t,rfl⟩:=r;rfl
 |flt _=>obtain⟨t,rfl⟩:=r;rfl
 |ref _=>cases r;rfl
 |ty _=>cases r;rfl
theorem D1.inj{x:V}(r:D1 x u)(q:D1 y u):x=y:=Yl (r.abs.symm.trans q.abs)
theorem C7.inj:∀{xs ys:ba}{us:ao},C7 xs us->C7 ys us->xs=ys
 |_,_,_,.nil,.nil=>rfl
 |_,_,_,.cons r t,.cons r' t'=>by rw[r.inj r',C7.inj t t']
section
variable{xs ys:ba}
theorem Inv.list(I:Inv X pins σ H s)(h:nT X.K H a xs):∃its:ao,C7 xs its/\PlainL s.heap a its.toArray/\xs.length≤sizeLine:=by
 rcases h with h|⟨o,its,n,hk,hc,hd,hs,hz,r⟩
 ·obtain⟨z,its,n,r,e⟩:=h.ok I.hok;exact⟨its,r,⟨_,n,e,rfl,rfl,rfl⟩,z⟩
 ·refine⟨its.toList,r,⟨o,n,I.kIn a o hk,hc,hd,by simpa using hs⟩,?_⟩;have e:=r.length;simp only[Yq]at e;omega
theorem Inv.tupleD(I:Inv X pins σ H s)(h:n5 X.K H a xs):∃its:ao,C7 xs its/\W0 s.heap a its.toArray/\xs.length≤sizeLine:=by
 rcases h with h|⟨o,its,n,hk,hc,hd,hs,hz,r⟩
 ·obtain⟨z,its,r,p⟩:=h.ok I.hok;exact⟨its,r,p,z⟩
 ·refine⟨its.toList,r,⟨o,I.kIn a o hk,hc,hd,n,by simpa using hs⟩,?_⟩;have e:=r.length;simp only[Yq]at e;omega
theorem Inv.tuple(I:Inv X pins σ H s)(h:n5 X.K H a xs):∃its:ao,C7 xs its/\IsTup s.heap a its.toArray/\xs.length≤sizeLine:=
 let ⟨its,r,p,z⟩:=I.tupleD h
 ⟨its,r,p.tup,z⟩
theorem Inv.list_inj(I:Inv X pins σ H s)(h:nT X.K H a xs)(h':nT X.K H a ys):xs=ys:=by
 obtain⟨its,r,⟨o,n,e,_,_,d⟩,_⟩:=I.list h;obtain⟨its',r',⟨o',n',e',_,_,d'⟩,_⟩:=I.list h';rw[e]at e';cases e';rw[d]at d';injection d' with d1 _
 have:its=its':=by simpa using Yz Array.toList d1
 subst this;exact r.inj r'
theorem Inv.tuple_inj(I:Inv X pins σ H s)(h:n5 X.K H a xs)(h':n5 X.K H a ys):xs=ys:=by
 obtain⟨its,r,⟨o,e,_,n,d⟩,_⟩:=I.tuple h;obtain⟨its',r',⟨o',e',_,n',d'⟩,_⟩:=I.tuple h';rw[e]at e';cases e';rw[d]at d';injection d' with d1 _
 have:its=its':=by simpa using Yz Array.toList d1
 subst this;exact r.inj r'
end
abbrev Cx.wish(X:Cx)(E:OU):Cx:={X with xe:=E}
abbrev Cx.nox(X:Cx):Cx:=X.wish fun _ _=>False
theorem Cx.Ok.wish(ok:X.Ok)(E:OU):(X.wish E).Ok:=
 ⟨ok.mod,ok.kind,ok.glob,ok.blt,ok.above,ok.inj,ok.has,ok.cab,ok.hd,ok.frames,ok.stk,ok.exf,ok.bs,ok.bsz,ok.noex,ok.exfs,ok.funs,ok.frf⟩
theorem Cx.Ok.unwish(ok:(X.wish E).Ok):X.Ok:=
 ⟨ok.mod,ok.kind,ok.glob,ok.blt,ok.above,ok.inj,ok.has,ok.cab,ok.hd,ok.frames,ok.stk,ok.exf,ok.bs,ok.bsz,ok.noex,ok.exfs,ok.funs,ok.frf⟩
theorem Inv.wish(I:Inv X pins σ H s)(E:OU):Inv (X.wish E) pins σ H s:=⟨I.ok.wish E,I.os,I.bare,I.base,I.loc,I.cell,I.free,I.freeC,I.pin,I.hok,I.len⟩
theorem Inv.unwish(I:Inv (X.wish E) pins σ H s):Inv X pins σ H s:=⟨I.ok.unwish,I.os,I.bare,I.base,I.loc,I.cell,I.free,I.freeC,I.pin,I.hok,I.len⟩
theorem SP.unwish{D:Ends}{f:Flow}(h:SP (X.wish E) pins D f s'):SP X pins D f s':=by
 cases f with
 |next=>obtain⟨σ',H',I,q⟩:=h;exact⟨σ',H',I.unwish,q⟩
 |brk=>obtain⟨σ',H',I,q⟩:=h;exact⟨σ',H',I.unwish,q⟩
 |cont=>obtain⟨σ',H',I,q⟩:=h;exact⟨σ',H',I.unwish,q⟩
 |ret u=>obtain⟨v,σ',H',I,r,q⟩:=h;exact⟨v,σ',H',I.unwish,r,q⟩
theorem PE.nox{t:TE}(h:PE X.nox e t):PE X e t:=fun pins s σ H Q I hw=>
 Zj (h pins s σ H Q (I.wish _) hw) (fun _ _ ⟨v,H',I',r,q⟩=>⟨v,H',I'.unwish,r,q⟩) fun _ _ z=>False.elim z
theorem PT.nox{t:TT}(h:PT X.nox e t):PT X e t:=fun pins s σ H Q I hw=>
 Zj (h pins s σ H Q (I.wish _) hw) (fun _ _ ⟨H',I',q⟩=>⟨H',I'.unwish,q⟩) fun _ _ z=>False.elim z
theorem o8.nox{st:List Stmt}{t:TS}(h:o8 X.nox st t):o8 X st t:=fun pins s σ H D I hw=>
 Zj (h pins s σ H D (I.wish _) hw) (fun _ _ q=>q.unwish) fun _ _ z=>False.elim z
section
variable{st:Stmt}{rest:List Stmt}{t u:TS}
def Sn:TS:=fun D σ H=>D.nx σ H
def So(t u:TS):TS:=fun D σ H=>t {D with nx:=u D} σ H
theorem Sr:o8 X [] Sn:=fun _ _ σ H _ I h=>Xh ⟨σ,H,I,h⟩
theorem Bv(h1:PS X st t)(h2:o8 X rest u):o8 X (st::rest) (So t u):=by
 intro pins s σ H D I h;refine wpAny_execs_cons (i6 (h1 pins s σ H {D with nx:=u D} I h) fun f s1 q=>?_);cases f with
 |next=>
  obtain⟨σ',H',I',q⟩:=q;exact h2 pins s1 σ' H' D I' q
 |ret v=>exact q
 |brk=>exact q
 |cont=>exact q
theorem Kb(h1:PS X st t):o8 X [st] t:=by
 intro pins s σ H D I h;refine wpAny_execs_cons (i6 (h1 pins s σ H D I h) fun f s1 q=>?_);cases f with
 |next=>exact Xh q
 |ret v=>exact q
 |brk=>exact q
 |cont=>exact q
theorem Inv.quiet(I:Inv X pins σ H s):interactive X.env=false:=by simp[interactive,I.ok.kind]
def Ss(te:TE):TS:=fun D σ H=>te σ H fun _ H1=>D.nx σ H1
theorem Em(he:PE X e te)(hs:swapsWith e none pos.line X.env=pure false:=by rfl):PS X (.Expr e pos) (Ss te):=by
 intro pins s σ H D I h;exact wpAny_Expr_any (i6 (he pins s σ H _ I h) fun v s1 ⟨x,H1,I1,r1,q1⟩=>⟨σ,H1,I1,q1⟩) I.quiet hs
def Su(te:TE):TS:=fun D σ H=>te σ H D.rt
theorem Kc(he:PE X e te):PS X (.Return (some e) pos) (Su te):=by
 intro pins s σ H D I h;exact wpAny_Return_some (i6 (he pins s σ H _ I h) fun v s1 ⟨x,H1,I1,r1,q1⟩=>⟨x,σ,H1,I1,r1,q1⟩)
def Sv(c:TT)(t u:TS):TS:=fun D σ H=>c σ H fun b H1=>if b=true then t D σ H1 else u D σ H1
theorem Kd{a b:List Stmt}{tc:TT}(hc:PT X c tc)(ha:o8 X a t)(hb:o8 X b u):PS X (.If c a b pos) (Sv tc t u):=by
 intro pins s σ H D I h;refine wpAny_If (i6 (hc pins s σ H _ I h) fun d s1 ⟨H1,I1,q1⟩=>?_);cases d with
 |true=>exact ha pins s1 σ H1 D I1 q1
 |false=>exact hb pins s1 σ H1 D I1 q1
def Ke:TS:=fun _ _ _=>False
theorem Sw:PS X st Ke:=fun _ _ _ _ _ _ h=>h.elim
theorem Kf{sts:List Stmt}:o8 X sts Ke:=fun _ _ _ _ _ _ h=>h.elim
end
abbrev TG:=V->St->Hp->(St->Hp->Prop)->Prop
abbrev sV:=ba->St->Hp->(St->Hp->Prop)->Prop
def PG(X:Cx)(target:Expr)(t:TG):Prop:=
 ∀(pins:OA) (s:ak) (σ:St) (H:Hp) (v:V) (u:aj) (Q:St->Hp->Prop),Inv X pins σ H s->D1 v u->t v σ H Q->
  wpAny (model X.prog X.w) X.A (assign target X.env u) (fun _ s'=>∃σ' H',Inv X pins σ' H' s'/\Q σ' H') X.xe s
def tL(X:Cx)(ts:au)(t:sV):Prop:=
 ∀(pins:OA) (s:ak) (σ:St) (H:Hp) (vs:ba) (us:ao) (Q:St->Hp->Prop),Inv X pins σ H s->C7 vs us->t vs σ H Q->
  wpAny (model X.prog X.w) X.A (assignInOrder ((assignEach ts X.env).map (·.2)) us) (fun _ s'=>∃σ' H',Inv X pins σ' H' s'/\Q σ' H') X.xe s
abbrev En:=V->V->V->Hp->(Hp->Prop)->Prop
def Gg(X:Cx)(t:En):Prop:=
 ∀(pins:OA) (s:ak) (σ:St) (H:Hp) (o i v:V) (ov iv u:aj) (Q:Hp->Prop),Inv X pins σ H s->D1 o ov->D1 i iv->D1 v u->t o i v H Q->
  wpAny (model X.prog X.w) X.A (setItem ov iv u) (fun _ s'=>∃H',Inv X pins σ H' s'/\Q H') X.xe s
def Gh(i:Nat):TG:=fun v σ H Q=>Q (σ.set i (some v)) H
theorem Sy(hN:X.N.Nodup)(hi:X.N[i]? =some x)(hx:Loc X.env.scope x)(hf:X.fn x=true\/X.env.scope.names.lookup x=some .local:=by first|exact .inl rfl|exact .inr rfl|assumption):PG X (.Name x pos) (Gh i):=by
 intro pins s σ H v u Q I r h;exact wpAny_assign_Name (Ek I hN hi hx r (fun s' I'=>⟨_,H,I',h⟩) hf)
def TB:sV:=fun vs σ H Q=>vs=[]/\Q σ H
def TC(t:TG)(u:sV):sV:=fun vs σ H Q=>∃v r,vs=v::r/\t v σ H fun σ' H'=>u r σ' H' Q
theorem TF:tL X [] TB:=by
 intro pins s σ H vs us Q I r h;obtain⟨e,h⟩:=h;subst e;cases r;exact assignInOrder_nil ⟨σ,H,I,h⟩
theorem TH{t:TG}{u:sV}(h1:PG X e t)(h2:tL X es u)
  (hs:(assignEach (e::es) X.env).map (·.2)=assign e X.env::(assignEach es X.env).map (·.2):=by rfl):tL X (e::es) (TC t u):=by
 intro pins s σ H vs us Q I r h;obtain⟨v,vr,e1,h⟩:=h;subst e1;cases r with
 |cons r rr=>
  rw[hs];refine assignInOrder_cons (i6 (h1 pins s σ H _ _ _ I r h) fun _ s1 ⟨σ1,H1,I1,q1⟩=>?_);exact h2 pins s1 σ1 H1 _ _ Q I1 rr q1
def TJ(K:Qj)(n:Nat)(t:sV):TG:=fun v σ H Q=>∃a xs,v=.ref a/\n5 K H a xs/\xs.length=n/\t xs σ H Q
theorem TK{t:sV}(hc:X.calm=true)(h:tL X es t)
  (hn:(assignEach es X.env).length=n:=by rfl)(hst:(assignEach es X.env).findIdx? (·.1)=none:=by rfl):PG X (.Tuple es k pos) (TJ X.K n t):=by
 intro pins s σ H v u Q I r hw;obtain⟨a,xs,e1,hq,hl,hw⟩:=hw;subst e1;cases r;obtain⟨its,rv,ht,hz⟩:=I.tuple hq;refine assign_Tuple_tuple (I.ok.hd hc) ht (by simp[hn,←hl,rv.length]) hst fun h' hx=>?_;have I1:Inv X pins σ H {s with heap:=h'}:=I.kept (t':=s.toks) fun b o e=>hx b o (Qd (Qu e)) e;exact h pins _ σ H xs _ Q I1 (by simpa using rv) hw
def TM(to ti:TE)(t:En):TG:=fun v σ H Q=>to σ H fun o H1=>ti σ H1 fun i H2=>t o i v H2 fun H3=>Q σ H3
theorem Kg{o i:Expr}{to ti:TE}{t:En}(ho:PE X o to)(hi:PE X i ti)(hs:Gg X t)
  (ha:∀v,assign (.Subscript o i pos) X.env v=(do
   let ov←holding [v] (eval o X.env)
   let iv←holding [v,ov] (eval i X.env)
   standAt pos
   holding [v,ov,iv] (setItem ov iv v)
   release [v,ov,iv] []):=by intro _;rfl):PG X (.Subscript o i pos) (TM to ti t):=by
 intro pins s σ H v u Q I r h;rw[ha];refine Qq (Ze (i6 (ho pins s σ H _ I h) fun ov s1 ⟨x,H1,I1,r1,q1⟩=>?_));refine Qq (Ze (i6 (hi pins s1 σ H1 _ I1 q1) fun iv s2 ⟨y,H2,I2,r2,q2⟩=>?_));refine Qq (Xw (Qq (Ze (i6 (hs pins s2 σ H2 x y v ov iv u _ I2 r1 r2 r q2) fun _ s3 ⟨H3,I3,q3⟩=>?_))));exact wpAny_release ⟨σ,H3,I3,q3⟩
def Gi(te:TE)(g:TG):TS:=fun D σ H=>te σ H fun x H1=>g x σ H1 D.nx
theorem TN{g:TG}(he:PE X e te)(hg:PG X tg g)(hs:swapsWithSole [tg] e pos.line X.env=pure false:=by rfl)(hw:swappedStores [tg] e X.env=pure none:=by rfl)
  (h1:(assignEach [tg] X.env).map (·.2)=[assign tg X.env]:=by rfl):PS X (.Assign [tg] e pos) (Gi te g):=by
 intro pins s σ H D I h;refine wpAny_Assign_stores (i6 (he pins s σ H _ I h) fun v s1 ⟨x,H1,I1,r1,q1⟩=>?_) hs hw;rw[h1];exact i6 (hg pins s1 σ H1 x v _ I1 r1 q1) fun _ s2 q=>q
theorem DC{pos':Pos}(hN:X.N.Nodup)(hi:X.N[i]? =some x)(hx:Loc X.env.scope x)(he:PE X e te)(hs:swapsWith e (some (.Name x pos')) pos.line X.env=pure false:=by rfl)(hf:X.fn x=true\/X.env.scope.names.lookup x=some .local:=by first|exact .inl rfl|exact .inr rfl|assumption):
  PS X (.Assign [.Name x pos'] e pos) (Gi te (Gh i)):=by
 intro pins s σ H D I h;refine wpAny_Assign_Name (i6 (he pins s σ H _ I h) fun v s1 ⟨y,H1,I1,r1,q1⟩=>?_) hs;exact Ek I1 hN hi hx r1 (fun s2 I2=>⟨_,H1,I2,q1⟩) hf
structure It where
 go:Nat->Hp->Prop
 yld:Nat->Hp->V->Hp->Prop
 stop:Nat->Hp->Prop
def P7(X:Cx)(pins:OA)(H:Hp)(b:ah):Prop:=
 H b=none/\b≠X.env.locals/\b∉X.fs/\(b∈X.ex\/X.s₀.heap.objs.size≤b)/\(∀x c,X.env.cells.lookup x=some c->c≠b)/\∀p∈X.pn++pins,p.1≠b
theorem Inv.fpOk(I:Inv X pins σ H s)(hb:s.heap.objs.size≤b)(hn:H' b=none):P7 X pins H' b:=by
 refine⟨hn,Pp (Ql I.lt hb),I.nofs hb,.inr (Qn I.sz hb),fun x c e z=>?_,fun p hp z=>?_⟩
 ·obtain⟨v,q⟩:=I.cell x c e;exact absurd (Ql q.lt (by rw[z];exact hb)) (Jf _)
 ·exact absurd (Ql (Qu (I.pin p hp).1) (by rw[z];exact hb)) (Jf _)
structure Turn(P:af)(w:ag)(K:Qj)(tg:Expr)(J:It)(fp:List ah)(it:ah)(tn:Nat->Heap->Prop):Prop where
 mem:it∈fp
 obj:∀i h,tn i h->∀b∈fp,∃o,h.get? b=some o/\∀v,o.data≠.cell v
 keep:∀i h h',tn i h->(∀b∈fp,∀o,h.get? b=some o->h'.get? b=some o)->tn i h'
 item:∀(X:Cx),X.prog=P->X.w=w->X.K=K->X.calm=true->∀(i:Nat) (pins:OA) (s:ak) (σ:St) (H:Hp) (E:OU),Inv X pins σ H s->(∀b∈fp,P7 X pins H b)->tn i s.heap->J.go i H->
  wpAny (model P w) X.A (pyNext (.ref it)) (fun r s1=>∃u,r=some u/\
   wpAny (model P w) X.A (letOwnedTupleGo tg (.ref it) u) (fun _ s2=>∃x H',Inv X pins σ H' s2/\D1 x u/\J.yld i H x H'/\tn (i+1) s2.heap/\∀b∈fp,H' b=none) E s1) E s
 done:∀(X:Cx),X.prog=P->X.w=w->X.K=K->X.calm=true->∀(i:Nat) (pins:OA) (s:ak) (σ:St) (H:Hp) (E:OU),Inv X pins σ H s->(∀b∈fp,P7 X pins H b)->tn i s.heap->J.stop i H->
  wpAny (model P w) X.A (pyNext (.ref it)) (fun r s1=>r=none/\Inv X pins σ H s1) E s
 self:∀(A:Around) (i:Nat) (s:ak) (Q:OU) (E:OU),tn i s.heap->Q (.ref it) s->wpAny (model P w) A (pyIter (.ref it)) Q E s
abbrev TI:=St->Hp->(It->Hp->Prop)->Prop
def xX(X:Cx)(pins:OA)(σ:St)(tg:Expr)(R:It->Hp->Prop)(itv:aj)(s2:ak):Prop:=
 ∃(it:ah) (fp:List ah) (tn:Nat->Heap->Prop) (J:It) (H':Hp),itv=.ref it/\Inv X pins σ H' s2/\Turn X.prog X.w X.K tg J fp it tn/\tn 0 s2.heap/\(∀b∈fp,P7 X pins H' b)/\R J H'
def PI(X:Cx)(tg iter:Expr)(wi:TI):Prop:=
 ∀(pins:OA) (s:ak) (σ:St) (H:Hp) (R:It->Hp->Prop),Inv X pins σ H s->wi σ H R->
  wpAny (model X.prog X.w) X.A (eval iter X.env) (fun v s1=>wpAny (model X.prog X.w) X.A (pyIter v) (xX X pins σ tg R) X.xe s1) X.xe s
theorem Eo{o:Obj}{n:String}{vs:az}{Q:Unit->ak->Prop}(ho:s.heap.get? it=some o)(hc:o.cls=.type n)(hd:o.data=.fields vs)
    (hn:["enumerate","zip","dict_itemiterator","dict_reverseitemiterator","odict_iterator","itertools.zip_longest","itertools.pairwise"].contains n=false)(hQ:Q () s):wpAny M A (letOwnedTupleGo tg (.ref it) u) Q E s:=by
  unfold letOwnedTupleGo;cases tg<;>first
    |exact Qz hQ
    | (cases u<;>first
        |exact Qz hQ
        | (refine Qq (wpAny_load ho ?_)
           rw[hc,hd];show wpAny M A (if(["enumerate","zip","dict_itemiterator","dict_reverseitemiterator","odict_iterator","itertools.zip_longest","itertools.pairwise"].contains n&&vs[0]? ==some (rawInt _))=true then _ else _) Q E s;rw[Qb (by intro h;rw[hn,Bool.false_and]at h;cases h)];exact Qz hQ))
def wK(K:Qj)(a:ah):It:=
 ⟨fun i H=>∃xs x,nT K H a xs/\xs[i]? =some x,fun i H x H'=>H'=H/\∀xs,nT K H a xs->xs[i]? =some x,fun i H=>∃xs,nT K H a xs/\xs.length≤i⟩
def wL(K:Qj)(a:ah):It:=
 ⟨fun i H=>∃xs x,n5 K H a xs/\xs[i]? =some x,fun i H x H'=>H'=H/\∀xs,n5 K H a xs->xs[i]? =some x,fun i H=>∃xs,n5 K H a xs/\xs.length≤i⟩
def u7(lo:Int)(n:Nat):It:=⟨fun i _=>i<n,fun i H x H'=>H'=H/\x=.int (lo+i),fun i _=>n≤i⟩
theorem TQ(a it:ah):Turn P w K tg (wK K a) [it] it (fun i h=>h.IsListIter it a i)where
 mem:=by simp
 obj:=fun i h st b hb=>by
  have e:b=it:=by simpa using hb
  subst e;obtain⟨o,e,c,d⟩:=st;exact⟨o,e,fun v z=>by rw[d]at z;cases z⟩
 keep:=fun i h h' st k=>st.at fun o e=>k it (by simp) o e
 item:=by
  intro X hP hw hK hc i pins s σ H E I hf st hg;subst hP hw hK;obtain⟨xs,x,hq,hx⟩:=hg;obtain⟨its,rv,p,hz⟩:=I.list hq;obtain⟨u,hu,ru⟩:=rv.get hx;obtain⟨f0,f1,f2,f3,f4,f5⟩:=hf it (by simp);refine wpAny_pyNext_list_item st p.isList (x:=u) (by simpa using hu) fun h' st' sb=>?_;have I1:Inv X pins σ H {s with heap:=h'}:=I.turned (t':=s.toks) (fun b o hb e=>(sb.2 b hb).trans e) f0 f1 f3 f4 f5;obtain⟨o,e,c,d⟩:=id st';exact⟨u,rfl,Eo (s:={s with heap:=h'}) e c d (by decide) ⟨x,H,I1,ru,⟨rfl,fun ys hy=>by rw[I.list_inj hy hq];exact hx⟩,st',fun b hb=>(hf b hb).1⟩⟩
 done:=by
  intro X hP hw hK hc i pins s σ H E I hf st hg;subst hP hw hK;obtain⟨xs,hq,hx⟩:=hg;obtain⟨its,rv,p,hz⟩:=I.list hq;obtain⟨f0,f1,f2,f3,f4,f5⟩:=hf it (by simp);have hl:=rv.length;exact wpAny_pyNext_list_end (I.ok.hd hc) st p.isList (by simp;omega) fun h' eb=>⟨rfl,I.turned (t':=s.toks) (fun b o hb e=>eb b o hb e) f0 f1 f3 f4 f5⟩
 self:=fun _ _ _ _ _ st h=>wpAny_pyIter_listiter st h
theorem TR(a it:ah):Turn P w K tg (wL K a) [it] it (fun i h=>h.IsTupleIter it a i)where
 mem:=by simp
 obj:=fun i h st b hb=>by
  have e:b=it:=by simpa using hb
  subst e;obtain⟨o,e,c,d⟩:=st;exact⟨o,e,fun v z=>by rw[d]at z;cases z⟩
 keep:=fun i h h' st k=>st.at fun o e=>k it (by simp) o e
 item:=by
  intro X hP hw hK hc i pins s σ H E I hf st hg;subst hP hw hK;obtain⟨xs,x,hq,hx⟩:=hg;obtain⟨its,rv,p,hz⟩:=I.tuple hq;obtain⟨u,hu,ru⟩:=rv.get hx;obtain⟨f0,f1,f2,f3,f4,f5⟩:=hf it (by simp);refine wpAny_pyNext_tuple_item st (show s.heap.IsTuple a its.toArray from p) (x:=u) (by simpa using hu) fun h' st' sb=>?_;have I1:Inv X pins σ H {s with heap:=h'}:=I.turned (t':=s.toks) (fun b o hb e=>(sb.2 b hb).trans e) f0 f1 f3 f4 f5;obtain⟨o,e,c,d⟩:=id st';exact⟨u,rfl,Eo (s:={s with heap:=h'}) e c d (by decide) ⟨x,H,I1,ru,⟨rfl,fun ys hy=>by rw[I.tuple_inj hy hq];exact hx⟩,st',fun b hb=>(hf b hb).1⟩⟩
 done:=by
  intro X hP hw hK hc i pins s σ H E I hf st hg;subst hP hw hK;obtain⟨xs,hq,hx⟩:=hg;obtain⟨its,rv,p,hz⟩:=I.tuple hq;obtain⟨f0,f1,f2,f3,f4,f5⟩:=hf it (by simp);have hl:=rv.length;exact wpAny_pyNext_tuple_end (I.ok.hd hc) st (show s.heap.IsTuple a its.toArray from p) (by simp;omega) fun h' eb=>⟨rfl,I.turned (t':=s.toks) (fun b o hb e=>eb b o hb e) f0 f1 f3 f4 f5⟩
 self:=fun _ _ _ _ _ st h=>wpAny_pyIter_tupleiter st h
theorem TU(it:ah)(lo:Int)(n:Nat):Turn P w K tg (u7 lo n) [it] it (fun i h=>IsRangeIter h it (lo+(i:Nat) * 1) ((n:Int)-(i:Nat)) 1)where
 mem:=by simp
 obj:=fun i h st b hb=>by
  have e:b=it:=by simpa using hb
  subst e;exact⟨_,st,fun v z=>by
   have z':Data.fields _=Data.cell v:=z;cases z'⟩
 keep:=fun i h h' st k=>k it (by simp) _ st
 item:=by
  intro X hP hw hK hc i pins s σ H E I hf st hg;subst hP hw hK;obtain⟨f0,f1,f2,f3,f4,f5⟩:=hf it (by simp);have W:=Walks.range (prog:=X.prog) (w:=X.w) (I.ok.hd hc) it lo 1 n;refine W.item i s _ _ hg st fun v h' tk hv st' kk=>?_;obtain⟨t,rfl⟩:=hv;have I1:Inv X pins σ H {s with heap:=h',toks:=tk}:=I.turned (fun b o hb e=>kk b o (by simpa using hb) e) f0 f1 f3 f4 f5;refine⟨_,rfl,Eo (s:={s with heap:=h',toks:=tk}) (n:="range_iterator") st' rfl rfl (by decide) ⟨.int (lo+i),H,I1,⟨t,?_⟩,⟨rfl,rfl⟩,st',fun b hb=>(hf b hb).1⟩⟩;rw[Int.mul_one]
 done:=by
  intro X hP hw hK hc i pins s σ H E I hf st hg;subst hP hw hK;obtain⟨f0,f1,f2,f3,f4,f5⟩:=hf it (by simp);exact wpAny_pyNext_range_end (I.ok.hd hc) st (by have:n≤i:=hg;omega) fun h' eb=>⟨rfl,I.turned (t':=s.toks) (fun b o hb e=>eb b o hb e) f0 f1 f3 f4 f5⟩
 self:=fun _ _ _ _ _ st h=>wpAny_pyIter_rangeiter st h
theorem Kh{R:It->Hp->Prop}{lo hi:Int}{t u v:Tok}{tk:Nat}(I:Inv X pins σ H s)(h1: -(2^62)≤lo)(h2:lo<2^62)(h3: -(2^62)≤hi)(h4:hi<2^62)
  (q:R (u7 lo (hi-lo).toNat) H):wpAny (model X.prog X.w) X.A (pyIter (.ref s.heap.objs.size)) (xX X pins σ tg R) E {s with heap:=s.heap.push {cls:=.type "range",data:=.fields #[.int lo t,.int hi u,.int 1 v]},toks:=tk}:=by
 refine wpAny_pyIter_range (IsRange.new ..) (small_one h1 h2 h3 h4) ?_;have I1:Inv X pins σ H {s with heap:=s.heap.push {cls:=.type "range",data:=.fields #[.int lo t,.int hi u,.int 1 v]},toks:=tk}:=I.kept fun b o e=>Qx _ e;refine⟨(s.heap.push {cls:=.type "range",data:=.fields #[.int lo t,.int hi u,.int 1 v]}).objs.size,[(s.heap.push {cls:=.type "range",data:=.fields #[.int lo t,.int hi u,.int 1 v]}).objs.size],_,_,H,rfl,
  I1.kept (t':=tk) fun b o e=>Qx _ e,TU _ lo (hi-lo).toNat,?_,fun b hb=>?_,q⟩
 ·have e1:lo+((0:Nat):Int) * 1=lo:=by simp
  have e2:(((hi-lo).toNat:Nat):Int)-((0:Nat):Int)=Builtin.Range.rangeSize lo hi 1:=by rw[rangeSize_one];split<;>omega
  show IsRangeIter _ _ (lo+((0:Nat):Int) * 1) ((((hi-lo).toNat:Nat):Int)-((0:Nat):Int)) 1;rw[e1,e2];exact Qw _ rfl
 ·have e:b=(s.heap.push {cls:=.type "range",data:=.fields #[.int lo t,.int hi u,.int 1 v]}).objs.size:=by simpa using hb
  subst e;exact I1.fpOk (Qy _) (I1.hok.fresh (Qy _))
def TV(ta:TA):TI:=fun σ H R=>ta σ H fun vs H1=>∃j:Int,vs=[.int j]/\ -(2^62)≤j/\j<2^62/\R (u7 0 j.toNat) H1
def TY(ta:TA):TI:=fun σ H R=>ta σ H fun vs H1=>∃i j:Int,vs=[.int i,.int j]/\(-(2^62)≤i/\i<2^62/\ -(2^62)≤j/\j<2^62)/\R (u7 i (j-i).toNat) H1
theorem TZ{a:Expr}{ta:TA}(hg:Gl X "range")(hm:X.mg "range"=none)(ha:PA X [a] ta)(hs:starEach [a] X.env=[(false,eval a X.env)]:=by rfl):PI X tg (.Call (.Name "range" p) [a] [] pos) (TV ta):=by
 intro pins s σ H R I h;refine Call_ (Bu I hg hm boot_range (Uh (i6 (ha pos pins s σ H _ I h) fun us s1 ⟨vs,H1,I1,r1,q1⟩=>?_) hs rfl));obtain⟨j,e,q1,q2,q⟩:=q1;subst e;cases r1 with
 |cons r rr=>
  cases rr;obtain⟨t,rfl⟩:=r;exact call_range_1 (Kh I1 (by omega) (by omega) q1 q2 (by simpa using q))
theorem UA{a b:Expr}{ta:TA}(hg:Gl X "range")(hm:X.mg "range"=none)(ha:PA X [a,b] ta)(hs:starEach [a,b] X.env=[(false,eval a X.env),(false,eval b X.env)]:=by rfl)(hs2:starEach [b] X.env=[(false,eval b X.env)]:=by rfl):
  PI X tg (.Call (.Name "range" p) [a,b] [] pos) (TY ta):=by
 intro pins s σ H R I h;refine Call_ (Bu I hg hm boot_range (Uh (i6 (ha pos pins s σ H _ I h) fun us s1 ⟨vs,H1,I1,r1,q1⟩=>?_) (by rw[hs,hs2]) (by rw[hs2];rfl)));obtain⟨i,j,e,⟨q1,q2,q3,q4⟩,q⟩:=q1;subst e;cases r1 with
 |cons r rr=>
  cases rr with
  |cons r' rr=>
   cases rr;obtain⟨t,rfl⟩:=r;obtain⟨t',rfl⟩:=r';exact call_range_2 (Kh I1 q1 q2 q3 q4 q)
def UB(wi:TI)(g:TG)(tb:TS):TS:=fun D σ H=>wi σ H fun J H1=>∃W:Nat->Nat->St->Hp->Prop,(∃m,W 0 m σ H1)/\∀i m σ H,W i m σ H->
 (J.stop i H/\D.nx σ H)\/(J.go i H/\∃N:St->Hp->Prop,(∀σ' H',N σ' H'->∃m',m'<m/\W (i+1) m' σ' H')/\∀x H',J.yld i H x H'->g x σ H' fun σ2 H2=>tb {D with nx:=N,ct:=N,bk:=D.nx} σ2 H2)
def Bw(fp:List ah)(h:Heap):OA:=fp.filterMap fun b=>(h.get? b).map fun o=>(b,o)
theorem Bx{o:Obj}(hb:b∈fp)(e:h.get? b=some o):(b,o)∈Bw fp h:=Um.mpr ⟨b,hb,by rw[e];rfl⟩
theorem UC{p:ah×Obj}(hp:p∈Bw fp h):p.1∈fp/\h.get? p.1=some p.2:=by
 obtain⟨b,hb,e⟩:=Um.mp hp;cases q:h.get? b with
 |none=>rw[q]at e;cases e
 |some o=>
  rw[q]at e;have e':(b,o)=p:=Yl e;subst e';exact⟨hb,q⟩
theorem Inv.pinned(I:Inv X pins σ H s)(hf:∀b∈fp,P7 X pins H b)(ho:∀b∈fp,∃o,s.heap.get? b=some o/\∀v,o.data≠.cell v):Inv X (pins++Bw fp s.heap) σ H s:=
 I.pins_of fun p hp=>(Xf.mp hp).elim (fun z=>I.pin p (Zu _ z)) fun z=>by
  obtain⟨hb,e⟩:=UC z;obtain⟨f0,f1,f2,_⟩:=hf p.1 hb;obtain⟨o,e',d⟩:=ho p.1 hb;rw[e]at e';cases e';exact⟨e,f0,f1,f2,d⟩
theorem Inv.unpinned{pl:OA}(I:Inv X (pins++pl) σ H s):Inv X pins σ H s:=I.pins_of fun p hp=>I.pin p (Zu _ (Xk _ hp))
theorem UD{iter:Expr}{wi:TI}{g:TG}{tb:TS}(hp:PassesOwn (model X.prog X.w) X.A X.env X.xe)(hc:X.calm=true)(hi:PI X tg iter wi)(hg:PG X tg g)(hb:o8 X body tb)
  (hs:∀x,foldedSetIterable iter X.env x=pure x:=by intro _;rfl):PS X (.For tg iter body [] pos) (UB wi g tb):=by
 intro pins s σ H D I h;refine wpAny_For (i6 (hi pins s σ H _ I h) fun v s1 h1=>i6 h1 fun itv s2 h2=>?_) hs;obtain⟨it,fp,tn,J,H2,e,I2,T,st2,f2,W,⟨m0,w0⟩,turn⟩:=h2;subst e;have stat:∀{H':Hp},(∀b∈fp,H' b=none)->∀b∈fp,P7 X pins H' b:=fun hn b hb=>⟨hn b hb,(f2 b hb).2⟩;refine codeAny_forLoop_any (fun n s'=>∃i σ' H',Inv X pins σ' H' s'/\tn i s'.heap/\(∀b∈fp,H' b=none)/\W i n σ' H') ?_ m0 ⟨0,σ,H2,I2,st2,fun b hb=>(f2 b hb).1,w0⟩;rintro n s3 ⟨i,σ3,H3,I3,st3,fr3,w3⟩;rcases turn i n σ3 H3 w3 with⟨stop,qn⟩|⟨go,N,hN,step⟩
 ·refine Xm hp (i6 (T.done X rfl rfl rfl hc i pins s3 σ3 H3 X.xe I3 (stat fr3) st3 stop) fun r s4 ⟨hr,I4⟩=>?_);subst hr;exact Xh ⟨σ3,H3,I4,qn⟩
 ·refine Xm hp (i6 (T.item X rfl rfl rfl hc i pins s3 σ3 H3 X.xe I3 (stat fr3) st3 go) fun r s4 ⟨u,hr,h4⟩=>?_);subst hr;refine Xm hp (i6 h4 fun _ s5 ⟨x,H5,I5,r5,y5,st5,fr5⟩=>?_);have I5':=I5.pinned (stat fr5) (T.obj _ _ st5);refine Xm hp (i6 (hg _ s5 σ3 H5 x u _ I5' r5 (step x H5 y5)) fun _ s6 ⟨σ6,H6,I6,q6⟩=>?_);refine Xm hp (i6 (hb _ s6 σ6 H6 _ I6 q6) fun f s7 q7=>?_);have again:∀{σ7:St}{H7:Hp},Inv X (pins++Bw fp s5.heap) σ7 H7 s7->N σ7 H7->∃m,m<n/\∃i σ' H',Inv X pins σ' H' s7/\tn i s7.heap/\(∀b∈fp,H' b=none)/\W i m σ' H':=fun{σ7 H7} I7 n7=>by
   obtain⟨m',hm,w7⟩:=hN σ7 H7 n7;refine⟨m',hm,i+1,σ7,H7,I7.unpinned,T.keep _ _ _ st5 fun b hb o e=>(I7.pin (b,o) (Zu _ (Zu _ (Bx hb e)))).1,fun b hb=>?_,w7⟩;obtain⟨o,e,d⟩:=T.obj _ _ st5 b hb;exact(I7.pin (b,o) (Zu _ (Zu _ (Bx hb e)))).2.1
  cases f with
  |next=>obtain⟨σ7,H7,I7,n7⟩:=q7;exact again I7 n7
  |cont=>obtain⟨σ7,H7,I7,n7⟩:=q7;exact again I7 n7
  |brk=>obtain⟨σ7,H7,I7,q7⟩:=q7;exact⟨σ7,H7,I7.unpinned,q7⟩
  |ret v=>obtain⟨x7,σ7,H7,I7,r7,q7⟩:=q7;exact⟨x7,σ7,H7,I7.unpinned,r7,q7⟩
abbrev R2:=V->V->Hp->VK->Prop
variable{r r':R2}
def m5(X:Cx)(f:aj->aj->Sem aj)(r:R2):Prop:=
 ∀(pins:OA) (s:ak) (σ:St) (H:Hp) (x y:V) (v u:aj) (Q:VK),Inv X pins σ H s->D1 x v->D1 y u->r x y H Q->
  wpAny (model X.prog X.w) X.A (f v u) (EP X pins σ Q) X.xe s
def wM(X:Cx)(f:aj->Sem aj)(r:V->Hp->VK->Prop):Prop:=
 ∀(pins:OA) (s:ak) (σ:St) (H:Hp) (x:V) (v:aj) (Q:VK),Inv X pins σ H s->D1 x v->r x H Q->
  wpAny (model X.prog X.w) X.A (f v) (EP X pins σ Q) X.xe s
def J3(X:Cx)(f:aj)(r:ba->Hp->VK->Prop):Prop:=
 ∀(pins:OA) (s:ak) (σ:St) (H:Hp) (xs:ba) (us:ao) (Q:VK),Inv X pins σ H s->C7 xs us->r xs H Q->
  wpAny (model X.prog X.w) X.A (call f us) (EP X pins σ Q) X.xe s
def u8(r:R2)(ta tb:TE):TE:=fun σ H Q=>ta σ H fun x H1=>tb σ H1 fun y H2=>r x y H2 Q
def zN(r:V->Hp->VK->Prop)(ta:TE):TE:=fun σ H Q=>ta σ H fun x H1=>r x H1 Q
def rI(C:Int->Int->Prop)(g:Int->Int->V):R2:=fun x y H Q=>∃i j,x=.int i/\y=.int j/\C i j/\Q (g i j) H
def pZ(g:Int->Int->V):R2:=fun x y H Q=>∃i j,x=.int i/\y=.int j/\Q (g i j) H
def rU(g:Int->V):V->Hp->VK->Prop:=fun x H Q=>∃i,x=.int i/\Q (g i) H
section
variable{a b:Expr}{tc:TE}
theorem Gj(ha:PE X a ta)(hb:PE X b tb)(I:Inv X pins σ H s)
  (h:ta σ H fun x H1=>tb σ H1 fun y H2=>R x y H2){f:aj->aj->Sem aj}
  (hf:∀v u s2 x y H2,Inv X pins σ H2 s2->D1 x v->D1 y u->R x y H2->wpAny (model X.prog X.w) X.A (f v u) Q X.xe s2):
  wpAny (model X.prog X.w) X.A (eval a X.env) (fun v s₁=>wpAny (model X.prog X.w) X.A (eval b X.env) (fun u s₂=>wpAny (model X.prog X.w) X.A (f v u) Q X.xe s₂) X.xe s₁) X.xe s:=by
 refine i6 (ha pins s σ H _ I h) fun v s1 ⟨x,H1,I1,r1,q1⟩=>?_;refine i6 (hb pins s1 σ H1 _ I1 q1) fun u s2 ⟨y,H2,I2,r2,q2⟩=>?_;exact hf v u s2 x y H2 I2 r1 r2 q2
theorem Ki{op:Operator}(ho:m5 X (binaryOp op) r)(ha:PE X a ta)(hb:PE X b tb):PE X (.BinOp a op b pos) (u8 r ta tb):=by
 intro pins s σ H Q I h;exact wpAny_BinOp (Gj ha hb I h fun v u s2 x y H2 I2 rx ry q=>ho pins s2 σ H2 x y v u Q I2 rx ry q)
theorem Kj{op:UnaryOp}{r:V->Hp->VK->Prop}(ho:wM X (unaryOp op) r)(ha:PE X a ta):PE X (.UnaryOp op a pos) (zN r ta):=by
 intro pins s σ H Q I h;exact UnaryOp_ (i6 (ha pins s σ H _ I h) fun v s1 ⟨x,H1,I1,r1,q1⟩=>ho pins s1 σ H1 x v Q I1 r1 q1)
theorem vQ{f:aj->aj->Sem aj}{C:Int->Int->Prop}{g:Int->Int->Int}
  (rule:∀(i j:Int) (t u:Tok) (s:ak) (Q:OU) (E:OU),C i j->Q (.int (g i j) s.toks) {s with toks:=s.toks+1}->wpAny (model X.prog X.w) X.A (f (.int i t) (.int j u)) Q E s):
  m5 X f (rI C fun i j=>.int (g i j)):=by
 intro pins s σ H x y v u Q I rx ry h;obtain⟨i,j,rfl,rfl,hc,q⟩:=h;obtain⟨t,rfl⟩:=rx;obtain⟨t',rfl⟩:=ry;exact rule i j t t' s _ _ hc ⟨.int (g i j),H,I.tok _,⟨_,rfl⟩,q⟩
theorem Kk{f:aj->aj->Sem aj}{g:Int->Int->Int}
  (rule:∀(i j:Int) (t u:Tok) (s:ak) (Q:OU) (E:OU),Q (.int (g i j) s.toks) {s with toks:=s.toks+1}->wpAny (model X.prog X.w) X.A (f (.int i t) (.int j u)) Q E s):
  m5 X f (pZ fun i j=>.int (g i j)):=by
 intro pins s σ H x y v u Q I rx ry h;obtain⟨i,j,rfl,rfl,q⟩:=h;obtain⟨t,rfl⟩:=rx;obtain⟨t',rfl⟩:=ry;exact rule i j t t' s _ _ ⟨.int (g i j),H,I.tok _,⟨_,rfl⟩,q⟩
theorem Ep{f:aj->aj->Sem aj}{g:Int->Int->Bool}
  (rule:∀(i j:Int) (t u:Tok) (s:ak) (Q:OU) (E:OU),Q (.bool (g i j)) s->wpAny (model X.prog X.w) X.A (f (.int i t) (.int j u)) Q E s):
  m5 X f (pZ fun i j=>.bl (g i j)):=by
 intro pins s σ H x y v u Q I rx ry h;obtain⟨i,j,rfl,rfl,q⟩:=h;obtain⟨t,rfl⟩:=rx;obtain⟨t',rfl⟩:=ry;exact rule i j t t' s _ _ ⟨.bl (g i j),H,I,rfl,q⟩
def Gk(i j:Int):Prop:=0<j/\j<1073741824
def Gm(i j:Int):Prop:=0≤j/\j≤1000000/\i.natAbs<2^64
def DD(i j:Int):Prop:=(-(2^64)<i/\i<2^64)\/(-(2^64)<j/\j<2^64)
theorem DD.ok{i j:Int}(h:DD i j):IntMulOk i j:=by
 rcases h with⟨h1,h2⟩|⟨h1,h2⟩
 ·exact .of_left (intBits_le_64 h1 h2)
 ·exact .of_right (intBits_le_64 h1 h2)
theorem UE:m5 X (binaryOp .Add) (pZ fun i j=>.int (i+j)):=Kk fun _ _ _ _ _ _ _ q=>add_int q
theorem UG:m5 X (binaryOp .Sub) (pZ fun i j=>.int (i-j)):=Kk fun _ _ _ _ _ _ _ q=>sub_int q
theorem UH:m5 X (binaryOp .Mult) (rI DD fun i j=>.int (i * j)):=vQ fun _ _ _ _ _ _ _ hc q=>mul_int q hc.ok
theorem UI:m5 X (binaryOp .FloorDiv) (rI Gk fun i j=>.int (i/j)):=vQ fun i j _ _ _ _ _ hc q=>by
 have h1:(0:Int)<j:=hc.1;have h2:j<1073741824:=hc.2;exact floordiv_int (by omega) (by rw[Int.fdiv_eq_ediv_of_nonneg i (by omega)];exact q) (.inl (PyProof.noPylong_small (by omega)))
theorem UJ:m5 X (binaryOp .Mod) (rI (fun _ j=>0<j) fun i j=>.int (i%j)):=vQ fun i j _ _ _ _ _ hc q=>by
 have h1:(0:Int)<j:=hc;exact mod_int' (by omega) (by rw[Int.fmod_eq_emod_of_nonneg i (by omega)];exact q)
theorem UK:m5 X (binaryOp .Pow) (rI Gm fun i j=>.int (i^j.toNat)):=vQ fun _ _ _ _ _ _ _ hc q=>pow_int_small hc.1 hc.2.1 hc.2.2 q
theorem rQ{f:aj->Sem aj}{g:Int->Int}
  (rule:∀(i:Int) (t:Tok) (s:ak) (Q:OU) (E:OU),Q (.int (g i) s.toks) {s with toks:=s.toks+1}->wpAny (model X.prog X.w) X.A (f (.int i t)) Q E s):
  wM X f (rU fun i=>.int (g i)):=by
 intro pins s σ H x v Q I rx h;obtain⟨i,rfl,q⟩:=h;obtain⟨t,rfl⟩:=rx;exact rule i t s _ _ ⟨.int (g i),H,I.tok _,⟨_,rfl⟩,q⟩
theorem Kl:wM X (unaryOp .USub) (rU fun i=>.int (-i)):=rQ fun _ _ _ _ _ q=>neg_int q
end
section
variable{a b:Expr}{tc:TE}
theorem UL{Q:VK}{k k':Bool}(I:Inv X pins σ H s)(q:Q (.bl k) H)(e:k=k'):EP X pins σ Q (.bool k') s:=by
 subst e;exact⟨.bl k,H,I,rfl,q⟩
theorem UM:m5 X (compareOp .Lt) (pZ fun i j=>.bl (decide (i<j))):=Ep fun _ _ _ _ _ _ _ q=>lt_int q
theorem UN:m5 X (compareOp .LtE) (pZ fun i j=>.bl (decide (i≤j))):=Ep fun _ _ _ _ _ _ _ q=>le_int q
theorem UO:m5 X (compareOp .Gt) (pZ fun i j=>.bl (decide (j<i))):=Ep fun _ _ _ _ _ _ _ q=>gt_int q
theorem UP:m5 X (compareOp .GtE) (pZ fun i j=>.bl (decide (j≤i))):=Ep fun _ _ _ _ _ _ _ q=>ge_int q
theorem UQ:m5 X (compareOp .Is) (fun x y H Q=>y=.non/\Q (.bl (decide (x=.non))) H):=by
 intro pins s σ H x y v u Q I rx ry h;obtain⟨rfl,q⟩:=h;cases ry;refine is_none_gen (UL I q ?_);cases x<;>first
  |(cases rx;rfl)
  |(obtain⟨t,rfl⟩:=rx;rfl)
theorem uA(b:Expr)(h:op≠.In:=by decide)(h2:op≠.NotIn:=by decide):behindInMarks op b=false:=by
 have e1:(op==CmpOp.In)=false:=by cases op<;>first|rfl|exact absurd rfl h
 have e2:(op==CmpOp.NotIn)=false:=by cases op<;>first|rfl|exact absurd rfl h2
 cases b<;>simp[behindInMarks,e1,e2]
theorem UR(ho:m5 X (compareOp op) r)(ha:PE X a ta)(hb:PE X b tb)(hm:behindInMarks op b=false):PE X (.Compare a [op] [b] pos) (u8 r ta tb):=by
 intro pins s σ H Q I h;exact wpAny_Compare1 (Gj ha hb I h fun v u s2 x y H2 I2 rx ry q=>ho pins s2 σ H2 x y v u Q I2 rx ry q) hm
def Km(t:TE):TT:=fun σ H Q=>t σ H fun x H'=>∃k,x=.bl k/\Q k H'
theorem US(ho:m5 X (compareOp op) r)(ha:PE X a ta)(hb:PE X b tb)(hm:behindInMarks op b=false):PT X (.Compare a [op] [b] pos) (Km (u8 r ta tb)):=by
 intro pins s σ H Q I h;refine wpAny_isTrue_Compare1 (i6 (ha pins s σ H _ I h) fun v s1 ⟨x,H1,I1,r1,q1⟩=>i6 (hb pins s1 σ H1 _ I1 q1) fun u s2 ⟨y,H2,I2,r2,q2⟩=>
  i6 (ho pins s2 σ H2 x y v u _ I2 r1 r2 q2) fun c s3 ⟨z,H3,I3,r3,k,e,q3⟩=>?_) hm
 subst e;cases r3;exact Jk ⟨H3,I3,q3⟩
def Gn(r r':R2)(ta tb tc:TE):TE:=fun σ H Q=>ta σ H fun x H1=>tb σ H1 fun y H2=>r x y H2 fun z H3=>∃k,z=.bl k/\
 (if k=true then tc σ H3 fun w' H4=>r' y w' H4 Q else Q (.bl false) H3)
theorem UT(ho:m5 X (compareOp op) r)(ho':m5 X (compareOp op') r')(ha:PE X a ta)(hb:PE X b tb)(hc:PE X c tc)
  (hm:lastMarks [op,op'] [b,c]=false:=by with_unfolding_all rfl):PE X (.Compare a [op,op'] [b,c] pos) (Gn r r' ta tb tc):=by
 intro pins s σ H Q I h;refine Compare_chain (i6 (ha pins s σ H _ I h) fun v s1 ⟨x,H1,I1,r1,q1⟩=>chain_link (i6 (hb pins s1 σ H1 _ I1 q1) fun u s2 ⟨y,H2,I2,r2,q2⟩=>
  i6 (ho pins s2 σ H2 x y v u _ I2 r1 r2 q2) fun d s3 ⟨z,H3,I3,r3,k,e,q3⟩=>?_)) hm
 subst e;cases r3;refine Jk ?_;cases k with
 |false=>exact ite_ff ⟨.bl false,H3,I3,rfl,q3⟩
 |true=>exact ite_tt (chain_last (i6 (hc pins s3 σ H3 _ I3 q3) fun w' s4 ⟨z',H4,I4,r4,q4⟩=>ho' pins s4 σ H4 y z' u w' Q I4 r2 r4 q4))
theorem UU(ho:m5 X (compareOp op) r)(ho':m5 X (compareOp op') r')(ha:PE X a ta)(hb:PE X b tb)(hc:PE X c tc)
  (hm:lastMarks [op,op'] [b,c]=false:=by with_unfolding_all rfl):PT X (.Compare a [op,op'] [b,c] pos) (Km (Gn r r' ta tb tc)):=by
 intro pins s σ H Q I h;refine isTrue_chain (i6 (ha pins s σ H _ I h) fun v s1 ⟨x,H1,I1,r1,q1⟩=>test_link (i6 (hb pins s1 σ H1 _ I1 q1) fun u s2 ⟨y,H2,I2,r2,q2⟩=>
  i6 (ho pins s2 σ H2 x y v u _ I2 r1 r2 q2) fun d s3 ⟨z,H3,I3,r3,k,e,q3⟩=>?_)) hm
 subst e;cases r3;refine Jk ?_;cases k with
 |false=>
  obtain⟨k',e',q'⟩:=q3;cases e';exact ite_ff ⟨H3,I3,q'⟩
 |true=>
  refine ite_tt (test_last (i6 (hc pins s3 σ H3 _ I3 q3) fun w' s4 ⟨z',H4,I4,r4,q4⟩=>i6 (ho' pins s4 σ H4 y z' u w' _ I4 r2 r4 q4) fun d' s5 ⟨z2,H5,I5,r5,k2,e2,q5⟩=>?_));subst e2;cases r5;exact Jk ⟨H5,I5,q5⟩
theorem DE:(sizeLine:Nat)<2^63:=by rw[Jr];decide
theorem Q5{x:V}(r:C7 [x] us):∃u,us=[u]/\D1 x u:=by
 cases r with
 |cons r1 r2=>cases r2;exact⟨_,rfl,r1⟩
theorem AN{x:V}(r:C7 [x,y] us):∃u w',us=[u,w']/\D1 x u/\D1 y w':=by
 cases r with
 |cons r1 r2=>
  cases r2 with
  |cons r3 r4=>cases r4;exact⟨_,_,rfl,r1,r3⟩
theorem Kn(hc:X.calm=true):J3 X (.builtin "max") (fun xs H Q=>∃i j,xs=[.int i,.int j]/\Q (.int (if j>i then j else i)) H):=by
 intro pins s σ H xs us Q I r h;obtain⟨i,j,rfl,q⟩:=h;obtain⟨u,w',rfl,⟨t,rfl⟩,⟨t',rfl⟩⟩:=AN r;refine max_two_ints (I.ok.hd hc) fun h' tk k=>⟨_,H,I.kept k,?_,q⟩
 by_cases hj:j>i
 ·rw[Qg hj,Qg hj];exact⟨_,rfl⟩
 ·rw[Qb hj,Qb hj];exact⟨_,rfl⟩
theorem Ko(hc:X.calm=true):J3 X (.builtin "min") (fun xs H Q=>∃i j,xs=[.int i,.int j]/\Q (.int (if j<i then j else i)) H):=by
 intro pins s σ H xs us Q I r h;obtain⟨i,j,rfl,q⟩:=h;obtain⟨u,w',rfl,⟨t,rfl⟩,⟨t',rfl⟩⟩:=AN r;refine min_two_ints (I.ok.hd hc) fun h' tk k=>⟨_,H,I.kept k,?_,q⟩
 by_cases hj:j<i
 ·rw[Qg hj,Qg hj];exact⟨_,rfl⟩
 ·rw[Qb hj,Qb hj];exact⟨_,rfl⟩
theorem Go:J3 X (.type "int") (fun xs H Q=>(∃i,xs=[.int i]/\Q (.int i) H)\/ ∃k,xs=[.bl k]/\Q (.int (if k then 1 else 0)) H):=by
 intro pins s σ H xs us Q I r h;rcases h with⟨i,rfl,q⟩|⟨k,rfl,q⟩
 ·obtain⟨u,rfl,t,rfl⟩:=Q5 r;exact call_int_int ⟨.int i,H,I,⟨_,rfl⟩,q⟩
 ·obtain⟨u,rfl,r1⟩:=Q5 r;cases r1;exact call_int_bool ⟨.int (if k then 1 else 0),H,I.tok _,⟨_,rfl⟩,q⟩
end
structure uB(h:Heap)(x dx C:ah)(mA:OI):Prop where
 obj:h.get? x=some (PySem.W.instObj C dx)
 ns:h.Ns1 dx mA
 ne:dx≠x
theorem UW(n:h.Ns1 dx mA):∃od,h.get? dx=some od/\∀name,PySem.W.lookIn name od=some (mA name):=by
 obtain⟨o,es,ep,ho,hd,hk,_,hm⟩:=n;refine⟨o,ho,fun name=>?_⟩;have e:=hm name;unfold nsFind findBy at e;rw[←Array.find?_toList]at e;unfold PySem.W.lookIn;rw[hd];dsimp only;split
 ·rename_i y q;rw[q]at e;exact Yz some e
 ·rename_i q;rw[q]at e;have a:es.toList.any (·.refKey)=false:=by
   rw[List.any_eq_false];intro y hy;obtain⟨z,t,hkey⟩:=hk y (Array.mem_toList_iff.mp hy);simp[DictEntry.refKey,hkey]
  have a':¬ es.toList.any (·.refKey)=true:=by rw[a];exact Qa
  rw[Qb a'];exact Yz some e
theorem uB.look{x:ah}(I:uB h x dx C mA):∃od,PySem.W.InstAt h x (PySem.W.instObj C dx) C (some od)/\∀name,PySem.W.lookIn name od=some (mA name):=
 let ⟨od,ho,hl⟩:=UW I.ns
 ⟨od,⟨I.obj,rfl,rfl,ho⟩,hl⟩
section
variable{prog:af}{x f:ah}{name:Str}{v:aj}
end
section
variable{fs fs':List (Str×V)}
theorem UX(hok:nX P w H h)(e:H a=some (.ins C dx fs)):∃mA,uB h a dx C mA/\(∀f,Ej (fs.lookup f) (mA f))/\PySem.Within mA (fs.map (·.1))/\fs.length≤1000/\H dx=some (.own a):=by
 obtain⟨d,z,ne,ob,mA,n,r,q⟩:=(show F3 P w H h a (.ins C dx fs)from hok a _ e);exact⟨mA,⟨ob,n,ne⟩,r,q,z,d⟩
end
structure wN(K:Qj)(C:ah):Prop where
 pg:PySem.W.plainGet K C Str.empty=true
 hd:PySem.W.hasDictIn K C=true
 po:PySem.W.plainOver K C=true
 sa:PySem.W.findIn K (.ref C) "__setattr__"=some (some (.builtin "object.__setattr__"))
theorem wN.get(c:wN K C)(f:Str):PySem.W.plainGet K C f=true:=c.pg
structure Con(K:Qj)(C:ah)(f:Str)(v:V)(u:aj):Prop where
 at_:PySem.W.findIn K (.ref C) f=some (some u)
 rel:D1 v u
 get:PySem.W.specialIn K u "__get__"=some none
 cp:PySem.W.copiedNames.contains f=false
structure zO(K:Qj)(C:ah)(m:Str)(f:ah):Prop where
 at_:PySem.W.findIn K (.ref C) m=some (some (.ref f))
 fn:PySem.W.isFn K (.ref f)=true
 kp:PySem.W.keepIn K (.ref f)=true
section
variable{fs:List (Str×V)}{f:Str}
end
section
variable{o value:Expr}{f:Str}{pos' tpos:Pos}{tv:TE}
end
section
variable{c:aj}{b:Bool}
inductive oF (K:Qj) (H:Hp):V->Value->Prop where
 |non:oF K H .non (.type "NoneType")
 |bl (x:Bool):oF K H (.bl x) (.type "bool")
 |int (i:Int):oF K H (.int i) (.type "int")
 |str (x:Str):oF K H (.str x) (.type "str")
 |flt (x:UInt64):oF K H (.flt x) (.type "float")
 |lst {a:Addr}{xs:List V}(e:H a=some (.lst xs)):oF K H (.ref a) (.type "list")
 |frz {a:Addr}{o:Obj}{xs:List V}(e:H a=some (.frz o (.lst xs))):oF K H (.ref a) (.type "list")
 |tup {a:Addr}{xs:List V}(e:H a=some (.tup xs)):oF K H (.ref a) (.type "tuple")
 |dK {a:Addr}{kvs:List (Key×V)}(e:H a=some (.dK kvs)):oF K H (.ref a) (.type "dict")
 |dT {a:Addr}{C:Addr->List Key->Prop}{kvs:List (List Key×V)}(e:H a=some (.dT C kvs)):oF K H (.ref a) (.type "dict")
 |dX {a:Addr}{es:Array DictEntry}{ep:Nat}(e:H a=some (.dX es ep)):oF K H (.ref a) (.type "dict")
 |ins {a C dx:Addr}{fs:List (Str×V)}(e:H a=some (.ins C dx fs)) (cl:wN K C) (ha:PySem.W.findIn K (.ref C) "__class__"=some (some (.builtin "object.__class__")))
   (hn:PySem.W.specialIn K (.builtin "object.__class__") "__get__"=some (some (.builtin "getset_descriptor.__get__"))) (htk:PySem.W.takesIn K (.builtin "object.__class__")=some true)
   (hm:PySem.W.mroIn K C (.type "object")=some true):oF K H (.ref a) (.ref C)
theorem BQ{x:V}{t:aj}(I:Inv X pins σ H s)(rx:D1 x u)(ty:oF X.K H x t)(e:PySem.W.kitOne X.K t c=some b)(h:∀tk,Q (.bool b) {s with toks:=tk}):
  wpAny (model X.prog X.w) A (call (.builtin "isinstance") [u,c]) Q E s:=by
 cases ty with
 |non=>cases (show u=Value.none from rx);exact Zf PySem.W.kitx_none I.kIn True.intro e (fun z=>nomatch z) h
 |bl y=>cases (show u=Value.bool y from rx);exact Zf PySem.W.kitx_bool I.kIn True.intro e (fun z=>nomatch z) h
 |int i=>obtain⟨t,q⟩:=(show∃t,u=Value.int i t from rx);cases q;exact Zf PySem.W.kitx_int I.kIn True.intro e (fun z=>nomatch z) h
 |str y=>obtain⟨t,q⟩:=(show∃t,u=Value.str y t from rx);cases q;exact Zf PySem.W.kitx_str I.kIn True.intro e (fun z=>nomatch z) h
 |flt y=>obtain⟨t,q⟩:=(show∃t,u=Value.float y t from rx);cases q;exact Zf PySem.W.kitx_float I.kIn True.intro e (fun z=>nomatch z) h
 |@lst a xs ea=>
  cases (show u=Value.ref a from rx);obtain⟨_,_,n,_,h1⟩:=(show F3 X.prog X.w H s.heap a (.lst xs)from I.hok a _ ea);exact Zf Tg I.kIn ⟨_,h1,rfl⟩ e (fun z=>nomatch z) h
 |@frz a ob xs ea=>
  cases (show u=Value.ref a from rx);obtain⟨_,_,_,n,_,h1⟩:=(show F3 X.prog X.w H s.heap a (.frz ob (.lst xs))from I.hok a _ ea);exact Zf Tg I.kIn ⟨_,h1,rfl⟩ e (fun z=>nomatch z) h
 |@tup a xs ea=>
  cases (show u=Value.ref a from rx);obtain⟨_,_,_,p⟩:=(show F3 X.prog X.w H s.heap a (.tup xs)from I.hok a _ ea);obtain⟨o,h1,h2,_⟩:=p;exact Zf Rv I.kIn ⟨o,h1,h2⟩ e (fun z=>nomatch z) h
 |@dK a kvs ea=>
  cases (show u=Value.ref a from rx);obtain⟨_,_,vs,_,p⟩:=(show F3 X.prog X.w H s.heap a (.dK kvs)from I.hok a _ ea);obtain⟨o,es,ep,h1,h2,_⟩:=p;exact Zf Jq I.kIn ⟨o,h1,h2.1⟩ e (fun z=>nomatch z) h
 |@dT a C kvs ea=>
  cases (show u=Value.ref a from rx);obtain⟨_,_,xs,_,o,es,ep,h1,h2,_⟩:=(show F3 X.prog X.w H s.heap a (.dT C kvs)from I.hok a _ ea);exact Zf Jq I.kIn ⟨o,h1,h2.1⟩ e (fun z=>nomatch z) h
 |@dX a es ep ea=>
  cases (show u=Value.ref a from rx);obtain⟨_,_,o,h1,h2,_⟩:=(show F3 X.prog X.w H s.heap a (.dX es ep)from I.hok a _ ea);exact Zf Jq I.kIn ⟨o,h1,h2.1⟩ e (fun z=>nomatch z) h
 |@ins a C dx fs ea cl ha hn htk hm=>
  cases (show u=Value.ref a from rx);obtain⟨mA,O,_⟩:=UX I.hok ea;obtain⟨od,J,_⟩:=O.look;exact Zf (PySem.W.kitx_own (cl.get _) cl.hd ha hn htk hm) I.kIn J e (fun z=>nomatch z) h
end
structure g9(k:Nat)(A:Around):Prop where
 hd:A.handled=none
 dp:A.depth+3 * k+5<recursionLimit
 un:A.units+16 * k+200<cLine
theorem g9.mono(r:g9 k A)(h:j≤k):g9 j A:=⟨r.hd,by have:=r.dp;omega,by have:=r.un;omega⟩
theorem g9.deeper(r:g9 (k+1) A)(env:Env):g9 k (A.deeper env):=
 ⟨r.hd,by have:=r.dp;show A.depth+1+3 * k+5<_;omega,by have:=r.un;show A.units+3+16 * k+200<_;omega⟩
theorem g9.depth(r:g9 k A):A.depth<recursionLimit:=by have:=r.dp;omega
theorem g9.units(r:g9 k A):A.units+64<cLine:=by have:=r.un;omega
def Kq:TA:=fun _ H Q=>Q [] H
def Gp(ta:TE)(tr:TA):TA:=fun σ H Q=>ta σ H fun x H1=>tr σ H1 fun xs H2=>Q (x::xs) H2
section
variable{t:TA}
theorem Q6:PA X [] Kq:=fun _ _ _ _ H Q I h=>Calls.spliced_nil ⟨[],H,I,.nil,h⟩
theorem M3(ha:PE X e te)(hr:PA X es t)(hs:starEach (e::es) X.env=(false,eval e X.env)::starEach es X.env:=by rfl):PA X (e::es) (Gp te t):=by
 intro pos pins s σ H Q I h;rw[hs];show wpAny _ _ (spliced ((false,eval e X.env)::backTo pos (starEach es X.env))) _ _ s;refine Calls.spliced_cons (i6 (ha pins s σ H _ I h) fun u s1 ⟨x,H1,I1,r1,q1⟩=>?_);exact i6 (hr pos pins s1 σ H1 _ I1 q1) fun us s2 ⟨xs,H2,I2,r2,q2⟩=>⟨x::xs,H2,I2,.cons r1 r2,q2⟩
def Kr(t:TA):TE:=fun σ H Q=>t σ H fun xs H1=>xs.length≤sizeLine/\∀p,H1 p=none->Q (.ref p) (upd H1 p (.tup xs))
def UY(t:TA):TE:=fun σ H Q=>t σ H fun xs H1=>xs.length≤sizeLine/\∀p,H1 p=none->Q (.ref p) (upd H1 p (.lst xs))
theorem Ks{x1}(h:PA X es t):PE X (.Tuple es x1 pos) (Kr t):=by
 intro pins s σ H Q I hq;refine wpAny_Tuple_spliced (i6 (h pos pins s σ H _ I hq) fun us s1 ⟨xs,H1,I1,r,z,q⟩=>⟨by rw[←r.length];exact z,?_⟩);have hf:H1 s1.heap.objs.size=none:=I1.hok.fresh (Qy _);refine⟨.ref s1.heap.objs.size,upd H1 s1.heap.objs.size (.tup xs),I1.laid (t':=s1.toks) (fun b u e=>Qx _ e) (Qy _) ?_,rfl,q _ hf⟩;exact⟨z,us,r,⟨_,Qw _ rfl,rfl,rfl,_,rfl⟩⟩
theorem UZ(h:PA X es t):PE X (.List es pos) (UY t):=by
 intro pins s σ H Q I hq;refine wpAny_List_spliced (i6 (h pos pins s σ H _ I hq) fun us s1 ⟨xs,H1,I1,r,z,q⟩=>⟨by rw[←r.length];exact z,?_⟩);have hf:H1 s1.heap.objs.size=none:=I1.hok.fresh (Qy _);refine⟨.ref s1.heap.objs.size,upd H1 s1.heap.objs.size (.lst xs),I1.laid (t':=s1.toks) (fun b u e=>Qx _ e) (Qy _) ?_,rfl,q _ hf⟩;exact⟨z,us,0,r,Qw _ rfl⟩
end
abbrev Sp:=ba->Hp->VK->XK->Prop
variable{sp:Sp}
abbrev tM:=List Env->Hp->ak->XK->OU
variable{CX:tM}
structure p0(P:af)(w:ag)(K:Qj)(mg:OI)(base:Heap)(A:Around)(outer:List Env)(s:ak)(H:Hp):Prop where
 frames:A.frames=some outer
 mod:Mod K mg base
 bs:∀b o,base.get? b=some o->s.heap.get? b=some o/\H b=none
 bsz:base.objs.size≤s.heap.objs.size
 funs:s.heap.FunFrames base outer
 frf:∀b∈nI outer,H b=none
 hok:nX P w H s.heap
 bare:AllBare s.gens
def CE(outer:List Env)(P:af)(w:ag)(H:Hp)(s:ak)(Q:VK)(u:aj)(s':ak):Prop:=
 ∃v H',s'.os=s.os/\AllBare s'.gens/\Un (nI outer) [] H H' s.heap s'.heap/\nX P w H' s'.heap/\D1 v u/\Q v H'
def CR(CX:tM)(outer:List Env)(P:af)(w:ag)(H:Hp)(s:ak)(Q:VK)(E:XK)(r:Result)(s':ak):Prop:=
 match r with
 |.ok (.ret u)=>CE outer P w H s Q u s'
 |.ok _=>False
 |.error e=>CX outer H s E e s'
structure i4(P:af)(w:ag)(K:Qj)(mg:OI)(base:Heap)(CX:tM)(k:Nat)(f:ah)(fd:FuncData)(ps:ar)(sp:Sp):Prop where
 len:∀vs H Q E,sp vs H Q E->vs.length=ps.length
 run:∀(A:Around) (outer:List Env) (s:ak) (H:Hp) (args:Args) (us:ao) (vs:ba) (Q:VK) (E:XK),g9 k A->p0 P w K mg base A outer s H->BindsTo s fd args (ps.zip us)->C7 vs us->sp vs H Q E->
  codeAny (model P w) A (.call (.ref f) args) (CR CX outer P w H s Q E) s
theorem Inv.pL(I:Inv X pins σ H s):p0 X.prog X.w X.K X.mg X.base X.A X.stack s H:=
 ⟨I.ok.frames,I.ok.mod,I.bs,Qn I.ok.bsz I.sz,I.stack,I.stkFree,I.hok,I.bare⟩
theorem Inv.after{Q:VK}(I:Inv X pins σ H s)(h:CE X.stack X.prog X.w H s Q u s'):EP X pins σ Q u s':=by
 obtain⟨v,H',os,bare,un,hok,r,q⟩:=h;obtain⟨hh,g,d,t,os'⟩:=s';obtain rfl:os'=s.os:=os;exact⟨v,H',I.call (h':=hh) (g':=g) (d':=d) (t':=t) (ch:=[]) un hok bare (fun b z=>absurd z (by simp)),r,q⟩
def Kt(sp:Sp)(dvs:ba)(E:XK)(t:TA):TE:=fun σ H Q=>t σ H fun vs H1=>sp (vs++dvs) H1 Q E
def Q7(K:Qj)(fd:FuncData)(ps:ar)(ds:ao):Prop:=
 ∀(s:ak) (us:ao),K.In s.heap->(us++ds).length=ps.length->BindsTo s fd ⟨us,[]⟩ (ps.zip (us++ds))
theorem Q7.all(h:∀us:ao,us.length=ps.length->bindArgs fd ⟨us,[]⟩=pure (ps.zip us)):Q7 K fd ps []:=fun s us _ hl=>by
 rw[Jo]at hl ⊢;exact .of_eq (h us hl)
def Er(CX:tM)(X:Cx)(E:XK):Prop:=∀(pins:OA) (σ:St) (H:Hp) (s:ak) (e:aj) (s':ak),Inv X pins σ H s->CX X.stack H s E e s'->X.xe e s'
section
variable{f:ah}{dvs:ba}{ds:ao}{E:XK}{m:Str}{apos:Pos}{o:Expr}{t:TA}
theorem VA{Q:VK}(F:i4 X.prog X.w X.K X.mg X.base CX k f fd ps sp)(hr:g9 k X.A)(hb:Q7 X.K fd ps ds)(hd:C7 dvs ds)(hx:Er CX X E)
  (I:Inv X pins σ H s)(r:C7 vs us)(h:sp (vs++dvs) H Q E):wpAny (model X.prog X.w) X.A (call (.ref f) us) (EP X pins σ Q) X.xe s:=by
 have r2:C7 (vs++dvs) (us++ds):=r.append hd;have hl:(us++ds).length=ps.length:=by rw[←r2.length];exact F.len _ _ _ _ h
 refine wpAny_call (Vx (F.run X.A X.stack s H ⟨us,[]⟩ (us++ds) (vs++dvs) Q E hr I.pL (hb s us I.kIn hl) r2 h) fun r s' hq=>?_);cases r with
 |error e=>exact hx pins σ H s e s' I hq
 |ok fl=>
  cases fl with
  |ret u=>exact I.after hq
  |next=>exact False.elim hq
  |brk=>exact False.elim hq
  |cont=>exact False.elim hq
theorem Es(F:i4 X.prog X.w X.K X.mg X.base CX k f fd ps sp)(hr:g9 k X.A)(hg:Gl X x)(hm:X.mg x=some (.ref f))(hk:PySem.W.keepIn X.K (.ref f)=true)(hb:Q7 X.K fd ps ds)(hd:C7 dvs ds)(hx:Er CX X E)
  (ha:PA X (e::es) t)(hdb:(x==("__debug__":Str))=false:=by decide)(he:starEach (e::es) X.env=(false,eval e X.env)::starEach es X.env:=by rfl)(hpl:(backTo pos (starEach es X.env)).any (·.1)=false:=by rfl):
  PE X (.Call (.Name x p) (e::es) [] pos) (Kt sp dvs E t):=by
 intro pins s σ H Q I h;refine Vh (DB I hg hm ?_ hdb);refine PySem.W.callWith_K (h₀:=X.base) I.ok.mod.kin hk (i6 (ha pos pins s σ H _ I h) fun us s1 ⟨vs,H1,I1,r,q⟩=>⟨I1.kIn,?_⟩) he hpl;exact VA F hr hb hd hx I1 r q
structure Mk(K:Qj)(C f:ah):Prop where
 makes:PySem.W.makesIn K C=true
 init:PySem.W.findIn K (.ref C) "__init__"=some (some (.ref f))
 fn:PySem.W.isFn K (.ref f)=true
 kp:PySem.W.keepIn K (.ref C)=true
end
section
variable{f:ah}{ks:ar}{E:XK}{m:Str}{apos kpos:Pos}{o:Expr}{kws:List Keyword}{t tk:TA}{nm:Option Str}
structure wO(K:Qj)(fd:FuncData)(ps ks:ar)(g:ao->ao->ao)(gV:ba->ba->ba):Prop where
 to:∀(s:ak) (us ws:ao),K.In s.heap->(g us ws).length=ps.length->BindsTo s fd ⟨us,ks.zip ws⟩ (ps.zip (g us ws))
 rel:∀{vs:ba}{us:ao}{zs:ba}{ws:ao},C7 vs us->C7 zs ws->C7 (gV vs zs) (g us ws)
variable{g:ao->ao->ao}{gV:ba->ba->ba}
end
structure c8(N P:ar)(sc:Scope):Prop where
 kind:sc.kind=.function
 co:sc.isCoroutine=false
 gen:sc.isGenerator=false
 nd:N.Nodup
 pre:N.take P.length=P
 par:∀x∈P,sc.names.lookup x=some .local\/sc.names.lookup x=some .cell
 nofree:∀y∈sc.names,y.2≠.free
theorem Ku{kindOf:Str->Option NameKind}{x:Str}:∀{binds:List (Str×aj)}{m:OI},(∀v,(x,v)∉binds)->bindL kindOf binds m x=m x
 |[],_,_=>rfl
 |(n,v)::r,m,h=>by
  unfold bindL;rw[Ku fun w hw=>h w (Qo _ hw)];split
  ·have:x≠n:=by rintro rfl;exact h v Zv
   simp[this]
  ·rfl
theorem Kv{kindOf:Str->Option NameKind}{x:Str}:∀{binds:List (Str×aj)}{m:OI},(∀v,(x,v)∉binds)->bindC kindOf binds m x=m x
 |[],_,_=>rfl
 |(n,v)::r,m,h=>by
  unfold bindC;rw[Kv fun w hw=>h w (Qo _ hw)];split
  ·rfl
  ·have:x≠n:=by rintro rfl;exact h v Zv
   simp[this]
theorem Kw{kindOf:Str->Option NameKind}{x:Str}{v:aj}:∀{P:ar}{vs:ao}{i:Nat}{m:OI},P.Nodup->P[i]? =some x->vs[i]? =some v->kindOf x=some .local->
  bindL kindOf (P.zip vs) m x=some v
 |[],_,_,_,_,h,_,_=>by simp at h
 |_::_,[],_,_,_,_,h,_=>by simp at h
 |p::P,w::vs,0,m,nd,h1,h2,hk=>by
  simp at h1 h2;subst h1;subst h2;show bindL kindOf ((p,w)::P.zip vs) m p=_;unfold bindL;rw[Ku fun v hv=>(Ud.mp nd).1 (Pb hv).1,Qg hk];simp
 |p::P,w::vs,i+1,m,nd,h1,h2,hk=>by
  show bindL kindOf ((p,w)::P.zip vs) m x=_;unfold bindL;exact Kw (i:=i) (Ud.mp nd).2 (by simpa using h1) (by simpa using h2) hk
theorem Kx{kindOf:Str->Option NameKind}{x:Str}{v:aj}:∀{P:ar}{vs:ao}{i:Nat}{m:OI},P.Nodup->P[i]? =some x->vs[i]? =some v->kindOf x≠some .local->
  bindC kindOf (P.zip vs) m x=some v
 |[],_,_,_,_,h,_,_=>by simp at h
 |_::_,[],_,_,_,_,h,_=>by simp at h
 |p::P,w::vs,0,m,nd,h1,h2,hk=>by
  simp at h1 h2;subst h1;subst h2;show bindC kindOf ((p,w)::P.zip vs) m p=_;unfold bindC;rw[Kv fun v hv=>(Ud.mp nd).1 (Pb hv).1,Qb hk];simp
 |p::P,w::vs,i+1,m,nd,h1,h2,hk=>by
  show bindC kindOf ((p,w)::P.zip vs) m x=_;unfold bindC;exact Kx (i:=i) (Ud.mp nd).2 (by simpa using h1) (by simpa using h2) hk
def start(N:ar)(vs:ba):St:=vs.map some++List.replicate (N.length-vs.length) none
def M4(CX:tM)(P:af)(w:ag)(K:Qj)(mg:OI)(base:Heap)(N:ar)(qual:Str)(scope:Scope)(f:ah)(cd:aj)(A:Around)(outer:List Env)(s:ak)(H:Hp)(E:XK):Cx where
 prog:=P
 w:=w
 K:=K
 mg:=mg
 base:=base
 A:=A.deeper (envOfC qual scope s.heap.objs.size f cd)
 N:=N
 s₀:=s
 H₀:=H
 env:=envOfC qual scope s.heap.objs.size f cd
 outer:=outer
 stack:=envOfC qual scope s.heap.objs.size f cd::outer
 ex:=[]
 calm:=true
 fn:=fun _=>true
 pn:=[]
 xe:=fun e s'=>wpAny (model P w) (A.deeper (envOfC qual scope s.heap.objs.size f cd)) (leaving (envOfC qual scope s.heap.objs.size f cd) e) (fun _ s''=>CX outer H s E e s'') (fun e' s''=>CX outer H s E e' s'') s'
theorem Ky{sc:Scope}(h:sc.names.lookup x=some .cell):∃c,(cellsFrom n sc.names []).lookup x=some c:=by
 have q:=Vs sc.names n [] (.inl h);exact Yy.mp q
theorem Kz{f:ah}{cd:aj}{outer:List Env}{s1:ak}{E:XK}
  (S:c8 N ps scope)(hd:A.handled=none)(e0:p0 P w K mg base A outer s H)(hl:vs.length=ps.length)(r:C7 vs us)
  (x:InCallC s s.heap.objs.size (bindL (envOfC qual scope s.heap.objs.size f cd).kindOf (ps.zip us) fun _=>none) (cellsFrom (s.heap.objs.size+1) scope.names []) (bindC (envOfC qual scope s.heap.objs.size f cd).kindOf (ps.zip us) fun _=>none) s1):
  Inv (M4 CX P w K mg base N qual scope f cd A outer s H E) [] (start N vs) H s1:=by
 have hpl:ps.length≤N.length:=by have:=Yz List.length S.pre;rw[Yr]at this;omega
 obtain⟨h1,tk,rfl,hk⟩:=x.done;have noA:∀b:ah,b∉(M4 CX P w K mg base N qual scope f cd A outer s H E).ex:=fun b z=>absurd (show b∈([]:List ah)from z) (by simp);refine⟨⟨e0.mod,S.kind,rfl,rfl,Qy _,fun y z c h1 h2=>?_,fun y hy=>?_,fun y c _ h=>?_,fun _=>hd,Around.frames_deeper e0.frames,.inr ⟨rfl,rfl⟩,fun b z=>absurd z (noA b),e0.bs,e0.bsz,fun b _ _=>noA b,fun b z=>absurd z (noA b),e0.funs,e0.frf⟩,
  rfl,e0.bare,Un.kept hk,⟨_,x.toInCall.ns,fun i y v h1 h2 h3=>?_⟩,fun y c h=>⟨_,x.cell y c h⟩,e0.hok.fresh (Qy _),fun y c h=>?_,fun p hp=>absurd (show p∈([]:OA)from hp) (by simp),e0.hok.kept hk,?_⟩
 ·exact name_of_addr x.apart (Zp h1) (Zp h2)
 ·have hy:scope.names.lookup y=some .cell\/scope.names.lookup y=some .free:=hy;rcases hy with hy|hy
  ·exact Ky hy
  ·exact absurd rfl (S.nofree _ (Zp hy))
 ·exact Zy (x.above y c (Zp h))
 ·have hi:i<vs.length:=by
   unfold start at h2
   by_cases hi:i<vs.length
   ·exact hi
   ·rw[List.getElem?_append_right (by simpa using hi)]at h2;rw[Vg]at h2;split at h2<;>cases h2
  have ha:vs[i]? =some v:=by
   unfold start at h2;rw[Je (by simpa using hi),Zw]at h2;cases e:vs[i]? with
   |none=>rw[e]at h2;cases h2
   |some a=>rw[e]at h2;cases h2;rfl
  obtain⟨u,hu,rv⟩:=r.get ha;have hp:ps[i]? =some y:=by
   rw[←S.pre,List.getElem?_take_of_lt (by omega)];exact h1
  have ndP:ps.Nodup:=by rw[←S.pre];exact S.nd.sublist (Rb _ _)
  refine⟨u,rv,?_⟩;rcases S.par y (Vz hp)with k|k
  ·exact .inl ⟨k,Kw ndP hp hu k⟩
  ·obtain⟨c,e⟩:=Ky (n:=s.heap.objs.size+1) k;refine .inr ⟨.inl k,c,e,?_⟩;have q:=x.cell y c e;rw[Kx ndP hp hu (by show scope.names.lookup y≠_;rw[k];decide)]at q;exact q
 ·exact e0.hok.fresh (Zy (x.above y c (Zp h)))
 ·unfold start;show _=N.length;rw[Zx,Qv,Yi];omega
theorem Gq{f:ah}{name:Str}{params:Arguments}{dV kV doc pm cdv ct oc:aj}{an od:Option ah}
  {osl:Array (Option aj)}(lk:K.lookup f=some ⟨oc,od,.func (PySem.W.fnOf name qual params body scope dV kV doc pm an cdv ct),osl⟩)(hcd:PySem.W.codeIn K cdv qual=true)(S:c8 N ps scope)
  (len:∀vs H Q E,sp vs H Q E->vs.length=ps.length)
  (hbody:∀(A:Around) (outer:List Env) (s:ak) (H:Hp) (vs:ba) (Q:VK) (E:XK),g9 k (A.deeper (envOfC qual scope s.heap.objs.size f cdv))->sp vs H Q E->
   ∃t,o8 (M4 CX P w K mg base N qual scope f cdv A outer s H E) body t/\t {nx:=fun _ H'=>Q .non H',rt:=Q} (start N vs) H):
  i4 P w K mg base CX (k+1) f (PySem.W.fnOf name qual params body scope dV kV doc pm an cdv ct) ps sp:=by
 refine⟨len,fun A outer s H args us vs Q E hr e0 hb r hsp=>?_⟩;have hl:=len _ _ _ _ hsp;have KX:K.In s.heap:=e0.mod.kin.keeps fun b o e=>(e0.bs b o e).1;have lim:s.heap.NoLimit:=e0.mod.nolimit.keeps fun b o e=>(e0.bs b o e).1;have hkind:∀y∈ps.zip us,scope.names.lookup y.1=some .local\/(scope.names.lookup y.1=some .cell/\((cellsFrom (s.heap.objs.size+1) scope.names []).lookup y.1).isSome=true):=fun⟨n,v⟩ hy=>by
  rcases S.par n (Pb hy).1 with q|q
  ·exact .inl q
  ·exact .inr ⟨q,Vs _ _ _ (.inl q)⟩
 refine codeAny_call_function hr.depth (KX _ _ lk) rfl S.co S.gen rfl (PySem.W.codeRec_of KX hcd) (hb _ _ _ _ ?_);refine wpAny_newFunctionEnv_cells S.kind hkind fun env he s1 x=>?_;subst he;refine⟨lim.keeps x.toInCall.keep,codeAny_func ?_⟩;obtain⟨t,ht,hq⟩:=hbody A outer s H vs Q E (hr.deeper _) hsp;have I:Inv (M4 CX P w K mg base N qual scope f cdv A outer s H E) [] (start N vs) H s1:=Kz S hr.hd e0 hl r x;refine Zj (ht [] s1 (start N vs) H _ I hq) (fun fl s' hs=>?_) fun e s' hs=>hs;have fin:∀{σ':St}{H':Hp}{v:V}{u:aj},Inv (M4 CX P w K mg base N qual scope f cdv A outer s H E) [] σ' H' s'->D1 v u->Q v H'->CE outer P w H s Q u s':=
  fun{σ' H' v u} J rv q=>⟨v,H',J.os,J.bare,J.base,J.hok,rv,q⟩
 cases fl with
 |ret u=>
  obtain⟨v,σ',H',J,rv,q⟩:=hs;exact fin J rv q
 |next=>
  obtain⟨σ',H',J,q⟩:=hs;exact fin (v:=V.non) (u:=Value.none) J rfl q
 |brk=>
  obtain⟨_,_,_,q⟩:=hs;exact False.elim q
 |cont=>
  obtain⟨_,_,_,q⟩:=hs;exact False.elim q
section
variable{t:TA}{id T:String}{r:ba->Hp->VK->Prop}
def vR(r:ba->Hp->VK->Prop)(t:TA):TE:=fun σ H Q=>t σ H fun vs H1=>r vs H1 Q
theorem AO(hc:J3 X (.builtin id) r)(hg:Gl X x)(hm:X.mg x=none)(hv:bootBuiltins x=some (.builtin id))(ha:PA X (e::es) t)(hn:x≠"__name__":=by decide)(hdb:(x==("__debug__":Str))=false:=by decide)
  (he:starEach (e::es) X.env=(false,eval e X.env)::starEach es X.env:=by rfl)(hpl:(backTo pos (starEach es X.env)).any (·.1)=false:=by rfl):PE X (.Call (.Name x p) (e::es) [] pos) (vR r t):=by
 intro pins s σ H Q I h;refine Vh (Bu I hg hm hv ?_ hn hdb);exact PyProof.Rows.callWith_builtin1 (i6 (ha pos pins s σ H _ I h) fun us s1 ⟨vs,H1,I1,r1,q1⟩=>hc pins s1 σ H1 vs us Q I1 r1 q1) he hpl
theorem BR(hc:J3 X (.type T) r)(hg:Gl X x)(hm:X.mg x=none)(hv:bootBuiltins x=some (.type T))(ha:PA X (e::es) t)(hn:x≠"__name__":=by decide)(hdb:(x==("__debug__":Str))=false:=by decide)
  (he:starEach (e::es) X.env=(false,eval e X.env)::starEach es X.env:=by rfl)(hpl:(backTo pos (starEach es X.env)).any (·.1)=false:=by rfl):PE X (.Call (.Name x p) (e::es) [] pos) (vR r t):=by
 intro pins s σ H Q I h;refine Vh (Bu I hg hm hv ?_ hn hdb);exact Uh (i6 (ha pos pins s σ H _ I h) fun us s1 ⟨vs,H1,I1,r1,q1⟩=>hc pins s1 σ H1 vs us Q I1 r1 q1) he hpl
end
end L2
namespace HT
open PySem PyProof.Rows
variable{Q:OU}{hi lo:Option Int}{vl vu:aj}
def lexLt:aq->aq->Bool
 |[],[]=>false
 |[],_::_=>true
 |_::_,[]=>false
 |x::xs,y::ys=>if x=y then lexLt xs ys else decide (x<y)
theorem qH(x y:Int)(xs ys:aq):lexLt (x::xs) (y::ys)=if x=y then lexLt xs ys else decide (x<y):=rfl
theorem o9:lexLt [] []=false:=rfl
theorem oW(y:Int)(ys:aq):lexLt [] (y::ys)=true:=rfl
theorem oX(x:Int)(xs:aq):lexLt (x::xs) []=false:=rfl
theorem rR(A:Around)(s:ak)(a:Int)(t:Tok)(c:Int)(u:Tok):∃e,SeqAt.EqAt A s (.int a t) (.int c u) e/\(e=true↔a=c):=
 ⟨(a==c),SeqAt.EqAt.int_int a t c u,by simp⟩
theorem rS(A:Around)(s:ak)(a:Int)(t:Tok)(c:Int)(u:Tok)(prog:af)(w:ag)(E:OU)(Q:OU)(h:Q (.bool (decide (a<c))) s):
  wpAny (model prog w) A (richCompare .Lt (.int a t) (.int c u)) Q E s:=
 (PyProof.Rows.lt_int h:wpAny (model prog w) A (compareOp .Lt (.int a t) (.int c u)) Q E s)
section
open PySem.SeqAt
open PySem.AutoSeq1 (wpAny_loadPart')
open PySem.MeetsSeq PySem.MeetsSeq2 PySem.MeetsSeq3
theorem pA(l b:ah)(items items2:az)(n n2:Nat)(dd dd2:Option ah)(sl sl2:Array (Option aj))(ns ms:aq)(hi:IntsAre items.toList ns)(hj:IntsAre items2.toList ms):
  Meets (Builtin.«tuple.__lt__» ⟨[.ref l,.ref b],[]⟩)
   (fun _ R s=>s.heap.get? l=some {cls:=.type "tuple",dict:=dd,data:=.seq items n,slots:=sl}/\s.heap.get? b=some {cls:=.type "tuple",dict:=dd2,data:=.seq items2 n2,slots:=sl2}/\
    R (.ok (.ret (.bool (lexLt ns ms)))) s):=
 .of_wp fun prog w A R s h=>by
  obtain⟨hp,g,d,tk,os⟩:=s;obtain⟨hl,hb,h⟩:=h;have f2:=AutoSeq1.sub_tuple_tuple;have z1:items.size=ns.length:=by rw[←hi.length];simp
  have z2:items2.size=ms.length:=by rw[←hj.length];simp
  wp_walk using wpAny_loadPart' hl,wpAny_loadPart' hb,wpAny_forIn_list _ (fun rest b s'=>b.1=none/\s'=⟨hp,g,d,tk,os⟩/\∃(vs ws:ao) (ns' ms':aq),rest=vs.zip ws/\
   IntsAre vs ns'/\IntsAre ws ms'/\ns'.length+items2.size=ms'.length+items.size/\R (.ok (.ret (.bool (lexLt ns' ms')))) ⟨hp,g,d,tk,os⟩) _
  case turn=>
   rintro⟨y,x⟩ rest b s' ⟨hb',rfl,vs,ws,ns',ms',hz,hvi,hwi,hlen,hR⟩;cases hvi with
   |nil=>rw[List.zip_nil_left]at hz;cases hz
   |cons a t hvi'=>
    cases hwi with
    |nil=>rw[List.zip_nil_right]at hz;cases hz
    |cons c u hwi'=>
     rw[Rw]at hz;injection hz with hyx hrest
     injection hyx with hy hx
     subst hy hx;rw[qH]at hR;simp only[Zd]at hlen;obtain⟨e,he,hiff⟩:=rR A.in1 ⟨hp,g,d,tk,os⟩ a t c u;refine Qq (he prog w _ _ ?_);cases e with
     |true=>
      rw[Qg (hiff.mp rfl)]at hR
      wp_walk
      exact⟨rfl,rfl,_,_,_,_,hrest,hvi',hwi',by omega,hR⟩
     |false=>
      rw[Qb (fun q=>absurd (hiff.mpr q) Qa)]at hR;have hri:=rS A.in1 ⟨hp,g,d,tk,os⟩ a t c u prog w
      wp_walk using hri
      exact⟨_,rfl,by simpa using hR⟩
  case fin=>
   rintro⟨b1,b2⟩ s' ⟨hb',rfl,vs,ws,ns',ms',hz,hvi,hwi,hlen,hR⟩;simp only at hb';subst hb';have hv:lexLt ns' ms'=decide (items.size<items2.size):=by
    cases hvi with
    |nil=>
     cases hwi with
     |nil=>
      simp only[Uq]at hlen;rw[o9];exact(Zg (by omega)).symm
     |cons c u hw=>
      simp only[Uq,Zd]at hlen;rw[oW];exact(Yb (by omega)).symm
    |cons a t hv=>
     cases hwi with
     |nil=>
      simp only[Uq,Zd]at hlen;rw[oX];exact(Zg (by omega)).symm
     |cons c u hw=>
      rw[Rw]at hz;cases hz
   rw[hv]at hR
   wp_walk
   exact⟨_,rfl,by simpa [Builtin.Tuple.tupleCompareSizes]using hR⟩
  case h=>
   exact⟨rfl,rfl,items.toList,items2.toList,ns,ms,rfl,hi,hj,by omega,h⟩
end
section
variable{prog:af}{w:ag}{A:Around}{E:OU}{s:ak}
theorem qI{l b:ah}{items items2:az}{ns ms:aq}(hl:IsTup s.heap l items)(hb:IsTup s.heap b items2)(hi:IntsAre items.toList ns)(hj:IntsAre items2.toList ms)
  (hu:A.units<cLine)(h:Q (.bool (lexLt ns ms)) s):wpAny (model prog w) A (compareOp .Lt (.ref l) (.ref b)) Q E s:=by
 obtain⟨⟨cls,dd,data,sl⟩,ho,hc,n,hd⟩:=id hl;obtain⟨⟨cls2,dd2,data2,sl2⟩,ho2,hc2,n2,hd2⟩:=id hb;simp only at hc hd hc2 hd2;subst hc hd hc2 hd2;exact richCompare_meets_room (op:=.Lt) ⟨_,ho,rfl⟩ ⟨_,ho2,rfl⟩ PySem.F.slot_tuple_lt PySem.F.entry_tuple_lt (PySem.F.args_tuple_lt_2 _ _) (pA l b items items2 n n2 dd dd2 sl sl2 ns ms hi hj)
  ⟨ho,ho2,show Value.bool (lexLt ns ms)≠Value.notImplemented/\Q (.bool (lexLt ns ms)) s from⟨(fun x=>nomatch x),h⟩⟩ hu
def j6(n d:Nat):Option Int->Nat
 |none=>d
 |some v=>if v<0 then(v+(n:Int)).toNat else min v.toNat n
theorem rT(n d:Nat):j6 n d none=d:=rfl
theorem sW(n d k:Nat):j6 n d (some (k:Int))=min k n:=by
 show(if(k:Int)<0 then((k:Int)+(n:Int)).toNat else min (k:Int).toNat n)=min k n;rw[Qb (by omega),Yj]
theorem uC(n d:Nat)(hd:d≤n)(o:Option Int):j6 n d o≤n:=by
 cases o with
 |none=>exact hd
 |some v=>
  show(if v<0 then(v+(n:Int)).toNat else min v.toNat n)≤n
  by_cases hv:v<0
  ·rw[Qg hv];omega
  ·rw[Qb hv];exact Nat.min_le_right _ _
theorem qS(v:Int)(n d:Nat):(if v<0 then max (v+(n:Int)) 0 else min v (n:Int))=((j6 n d (some v):Nat):Int):=by
 show(if v<0 then max (v+(n:Int)) 0 else min v (n:Int))=(((if v<0 then(v+(n:Int)).toNat else min v.toNat n):Nat):Int)
 by_cases hv:v<0
 ·simp only[Qg hv];omega
 ·simp only[Qb hv];omega
theorem qJ(lo hi:Option Int)(n:Nat):Builtin.Slice.sliceAdjust lo hi 1 (n:Int)=(((j6 n 0 lo:Nat):Int),((j6 n n hi:Nat):Int)):=by
 have h1:¬ ((1:Int)<0):=by omega
 unfold Builtin.Slice.sliceAdjust;simp only[h1,Zo];refine Ut ?_ ?_
 ·cases lo with
  |none=>rfl
  |some v=>exact qS v n 0
 ·cases hi with
  |none=>rfl
  |some v=>exact qS v n n
theorem qK(i j:Nat):Builtin.Slice.slicePlaces (i:Int) (j:Int) 1=j-i:=by
 unfold Builtin.Slice.slicePlaces;have h1:(1:Int)>0:=by omega
 simp only[h1,Yw,Int.ediv_one];split<;>omega
theorem oY{v:aj}{o:Option Int}{Q:Option Int->ak->Prop}(p:IsPart v o)(h:Q o s):wpAny (model prog w) A (Builtin.Slice.slicePartIndex v) Q E s:=by
 cases p with
 |none=>exact slicePart_none h
 |int i t=>exact slicePart_int h
theorem m7{sl:ah}{n:Nat}{Q:Int×Int×Nat->ak->Prop}(hs:s.heap.IsSliceOf sl vl vu .none)(pl:IsPart vl lo)(pu:IsPart vu hi)
  (h:Q (((j6 n 0 lo:Nat):Int),1,j6 n n hi-j6 n 0 lo) s):wpAny (model prog w) A (Builtin.Slice.sliceApplied (.ref sl) (pure (n:Int))) Q E s:=by
 obtain⟨os,hos,hcs,hds⟩:=id hs;unfold Builtin.Slice.sliceApplied Builtin.Slice.sliceFields;refine Qq (Qq (Zt hos hds (x:=vl) rfl (Qq (Zt hos hds (x:=vu) rfl (Qq (Zt hos hds (x:=.none) rfl (Qz ?_)))))));refine Qq (slicePart_none ?_);show wpAny _ _ (if((1:Int)==0)=true then _ else _) _ _ s;rw[Qb (by decide)];refine Qq (oY pl (Qq (oY pu (Qq (Qz ?_)))));show wpAny _ _ (match Builtin.Slice.sliceAdjust lo hi 1 (n:Int)with|(lo,hi)=>pure (lo,(1:Int),Builtin.Slice.slicePlaces lo hi 1)) _ _ s;rw[qJ lo hi n];show wpAny _ _ (pure (((j6 n 0 lo:Nat):Int),(1:Int),Builtin.Slice.slicePlaces ((j6 n 0 lo:Nat):Int) ((j6 n n hi:Nat):Int) 1)) _ _ s;rw[qK];exact Qz h
theorem rV(xs:az)(i k:Nat):((List.range k).filterMap fun(m:Nat)=>xs[((i:Int)+(m:Int) * 1).toNat]?).toArray=((xs.toList.drop i).take k).toArray:=by
 have e:(fun(m:Nat)=>xs[((i:Int)+(m:Int) * 1).toNat]?)=fun m=>xs[i+m]?:=by
  funext m
  have:((i:Int)+(m:Int) * 1).toNat=i+m:=by omega
  rw[this]
 rw[e];have:=pick_run xs i k;rw[List.filterMap_map]at this;have e2:((fun x=>xs[x]?)∘fun x=>i+x)=fun m=>xs[i+m]?:=rfl;rw[e2]at this;rw[this]
theorem n6{t sl:ah}{items:az}(ht:IsTup s.heap t items)(hs:s.heap.IsSliceOf sl vl vu .none)(pl:IsPart vl lo)(pu:IsPart vu hi)
  (hw:¬ (j6 items.size 0 lo=0/\j6 items.size items.size hi=items.size))
  (h:Q (.ref s.heap.objs.size) {s with heap:=s.heap.push {cls:=.type "tuple",data:=.seq ((items.toList.drop (j6 items.size 0 lo)).take (j6 items.size items.size hi-j6 items.size 0 lo)).toArray}})
  (hsz:items.size≤sizeLine):wpAny (model prog w) A (getItem (.ref t) (.ref sl)) Q E s:=by
 have htake:sizeOk (.seq ((items.toList.drop (j6 items.size 0 lo)).take (j6 items.size items.size hi-j6 items.size 0 lo)).toArray):=by
  show((items.toList.drop (j6 items.size 0 lo)).take (j6 items.size items.size hi-j6 items.size 0 lo)).toArray.size≤sizeLine;rw[Qh,Yr,Rl,Yq];omega
 have hj:j6 items.size items.size hi≤items.size:=uC _ _ (Qy _) hi;obtain⟨os,hos,hcs,hds⟩:=id hs;have hTs:s.TypeIs (.ref sl) "slice":=⟨os,hos,hcs⟩;unfold getItem
 try with_reducible refine Ze ?_
 first|refine Qq (Qz ?_)|skip
 refine Qq (wpAny_sequenceKey ht.typeIs (by decide) ?_);refine Qq (Zk (name:=Str.ofString "__getitem__") ht.typeIs Zh
  (Zz Zh ht.typeIs entry_tuple_getitem ?_ (args_tuple_getitem _ _)))
 show wpAny _ _ (Builtin.Tuple.tupleItemsOf (.ref t)>>=_) _ _ s;refine Qq (tupleItemsOf_ ht ?_);refine Qq (Xd hTs ?_);rw[Qg (by decide)];refine Qq (m7 hs pl pu ?_);have hno:¬ ((((j6 items.size 0 lo:Nat):Int)==0&&(1:Int)==1&&(j6 items.size items.size hi-j6 items.size 0 lo)==items.size)=true):=by
  intro q;rw[Qr,Qr]at q;have q1:((j6 items.size 0 lo:Nat):Int)=0:=Pk q.1.1;have q2:j6 items.size items.size hi-j6 items.size 0 lo=items.size:=Pk q.2;exact hw ⟨by omega,by omega⟩
 show wpAny _ _ (if(((j6 items.size 0 lo:Nat):Int)==0&&(1:Int)==1&&(j6 items.size items.size hi-j6 items.size 0 lo)==items.size)=true then _ else _) _ _ s;rw[Qb hno,rV]
 first
  |exact Qq (m:=Builtin.Tuple.tupleExact _) (Qi (Qz ⟨_,rfl,Qz h⟩) htake)
  |exact Qq (m:=Builtin.Tuple.tupleExact _) (Qi (Qq (Qz (Qz ⟨_,rfl,Qz h⟩))) htake)
  |exact Qq (Qq (m:=Builtin.Tuple.tupleExact _) (Qi (Qz (Qz ⟨_,rfl,Qz h⟩)) htake))
  |exact Qq (Qq (m:=Builtin.Tuple.tupleExact _) (Qi (Qz ⟨_,rfl,Qz h⟩) htake))
end
end HT
namespace L2
open PySem PySem.Spec PyProof.Rows
variable{H:Hp}{X:Cx}{i:Int}{its its' us:ao}{n t':Nat}{p:ah}{pins:OA}{r:R2}{s:ak}{u v:aj}{x y:V}{xs:ba}{σ:St}
abbrev TO:=St->Hp->(Option Int->Hp->Prop)->Prop
def PO(X:Cx)(e:Option Expr)(t:TO):Prop:=
 ∀(pins:OA) (s:ak) (σ:St) (H:Hp) (Q:Option Int->Hp->Prop),Inv X pins σ H s->t σ H Q->
  wpAny (model X.prog X.w) X.A (evalPart e X.env) (fun u s'=>∃o H',Inv X pins σ H' s'/\IsPart u o/\Q o H') X.xe s
def VB:TO:=fun _ H Q=>Q none H
def VC(t:TE):TO:=fun σ H Q=>t σ H fun x H1=>∃i,x=.int i/\Q (some i) H1
theorem Et{ns:aq}:∀{us:ao},C7 (ns.map V.int) us->IntsAre us ns:=by
 induction ns with
 |nil=>intro us r;rw[Ri]at r;cases r;exact .nil
 |cons n ns ih=>
  intro us r;rw[Qm]at r;cases r with
  |cons r1 r2=>
   obtain⟨t,e⟩:=r1;subst e;exact .cons n t (ih r2)
section
variable{e:Expr}{te:TE}{lo hi:Option Expr}{tl th:TO}{pos p2:Pos}
theorem VD:PO X none VB:=by
 intro pins s σ H Q I h;rw[evalPart_none];exact Qz ⟨none,H,I,.none,h⟩
theorem VE(h:PE X e te):PO X (some e) (VC te):=by
 intro pins s σ H Q I hw;rw[evalPart_some];refine i6 (h pins s σ H _ I hw) fun u s1 ⟨x,H1,I1,r1,q1⟩=>?_;obtain⟨i,rfl,q⟩:=q1;obtain⟨t,rfl⟩:=r1;exact⟨some i,H1,I1,.int i t,q⟩
def wQ(X:Cx)(r:V->Option Int->Option Int->Hp->VK->Prop):Prop:=
 ∀(pins:OA) (s:ak) (σ:St) (H:Hp) (x:V) (v vl vu:aj) (lo hi:Option Int) (sl:ah) (Q:VK),Inv X pins σ H s->D1 x v->s.heap.IsSliceOf sl vl vu .none->IsPart vl lo->IsPart vu hi->r x lo hi H Q->
  ∃T id,typeLookup (.type T) "__getitem__"=pure (some (.builtin id))/\s.TypeIs v T/\wpAny (model X.prog X.w) X.A (getItem v (.ref sl)) (EP X pins σ Q) X.xe s
def zP(r:V->Option Int->Option Int->Hp->VK->Prop)(te:TE)(tl th:TO):TE:=fun σ H Q=>te σ H fun x H1=>tl σ H1 fun l H2=>th σ H2 fun u H3=>r x l u H3 Q
theorem VF{r:V->Option Int->Option Int->Hp->VK->Prop}(hr:wQ X r)(he:PE X e te)(hl:PO X lo tl)(hu:PO X hi th):PE X (.Subscript e (.Slice lo hi none p2) pos) (zP r te tl th):=by
 intro pins s σ H Q I h;refine Subscript_ (i6 (he pins s σ H _ I h) fun v s1 ⟨x,H1,I1,r1,q1⟩=>?_);refine wpAny_Slice (i6 (hl pins s1 σ H1 _ I1 q1) fun vl s2 ⟨l,H2,I2,pl,q2⟩=>i6 (hu pins s2 σ H2 _ I2 q2) fun vu s3 ⟨u,H3,I3,pu,q3⟩=>?_);rw[evalPart_none];refine Qz ?_;have I4:Inv X pins σ H3 {s3 with heap:=s3.heap.push {cls:=.type "slice",data:=.fields #[vl,vu,.none]}}:=I3.kept (t':=s3.toks) fun b ob q=>Qx _ q;obtain⟨T,id,hT,ht,hg⟩:=hr pins {s3 with heap:=s3.heap.push {cls:=.type "slice",data:=.fields #[vl,vu,.none]}} σ H3 x v vl vu l u s3.heap.objs.size Q I4 r1 (Heap.IsSliceOf.new ..) pl pu q3;show wpAny (model X.prog X.w) X.A (subscriptTail e (.Slice lo hi none p2) v (.ref s3.heap.objs.size)) (EP X pins σ Q) X.xe {s3 with heap:=s3.heap.push {cls:=.type "slice",data:=.fields #[vl,vu,.none]}};exact tail_any (ops:=[.ref s3.heap.objs.size,v]) ht hT hg (by with_unfolding_all rfl)
def BS(xs:ba)(lo hi:Option Int):ba:=(xs.drop (HT.j6 xs.length 0 lo)).take (HT.j6 xs.length xs.length hi-HT.j6 xs.length 0 lo)
theorem VG(xs:ba)(lo hi:Option Int):(BS xs lo hi).length≤xs.length:=by
 unfold BS;rw[Yr,Rl];omega
def VH(K:Qj):V->Option Int->Option Int->Hp->VK->Prop:=fun x lo hi H Q=>∃a xs,x=.ref a/\n5 K H a xs/\
 ¬ (HT.j6 xs.length 0 lo=0/\HT.j6 xs.length xs.length hi=xs.length)/\∀p,H p=none->Q (.ref p) (upd H p (.tup (BS xs lo hi)))
theorem LA:wQ X (VH X.K):=by
 intro pins s σ H x v vl vu lo hi sl Q I rx hs pl pu h;obtain⟨a,xs,rfl,hx,hw,q⟩:=h;cases rx;obtain⟨its,r,ht,hz⟩:=I.tuple hx;have hlen:its.toArray.size=xs.length:=by rw[Qh];exact r.length.symm
 refine⟨"tuple",_,Zh.lookup,ht.typeIs,?_⟩;refine HT.n6 ht hs pl pu (by rw[hlen];exact hw) ?_ (by rw[hlen];exact hz);rw[hlen];refine⟨.ref s.heap.objs.size,_,I.laid (t':=s.toks) (o:=.tup (BS xs lo hi)) (fun b ob q=>Qx _ q) (Qy _) ?_,rfl,q _ (I.hok.fresh (Qy _))⟩;exact⟨Qn (VG xs lo hi) hz,_,(r.drop (HT.j6 xs.length 0 lo)).take (HT.j6 xs.length xs.length hi-HT.j6 xs.length 0 lo),W0.new _ _⟩
theorem C7.nil_iff(r:C7 xs us):us=[]↔xs=[]:=by
 cases r with
 |nil=>simp
 |cons _ _=>simp
end
def sM(n:Nat)(i:Int):Option Nat:=if 0≤i then(if i<n then some i.toNat else none)else if-(n:Int)≤i then some (i+n).toNat else none
def qE{α:Type}(xs:List α)(i:Int):Option α:=(sM xs.length i).bind fun j=>xs[j]?
theorem Gr{j:Nat}(h:sM n i=some j):seqIndex? i n=some j/\j<n/\ -(n:Int)≤i/\i<n:=by
 unfold sM at h
 by_cases h0:0≤i
 ·rw[Qg h0]at h
  by_cases h1:i<n
  ·rw[Qg h1]at h;have e:i.toNat=j:=Yl h;exact⟨by rw[seqIndex_of h0 h1,e],by omega,by omega,h1⟩
  ·rw[Qb h1]at h;cases h
 ·rw[Qb h0]at h
  by_cases h1: -(n:Int)≤i
  ·rw[Qg h1]at h;have e:(i+n).toNat=j:=Yl h;exact⟨by rw[seqIndex_neg (by omega) h1,e],by omega,h1,by omega⟩
  ·rw[Qb h1]at h;cases h
theorem Gs{α:Type}{xs:List α}{v:α}(h:qE xs i=some v):∃j,seqIndex? i xs.length=some j/\xs[j]? =some v/\j<xs.length/\ -(xs.length:Int)≤i/\i<xs.length:=by
 unfold qE at h;cases e:sM xs.length i with
 |none=>rw[e]at h;cases h
 |some j=>
  rw[e]at h;obtain⟨h1,h2,h3,h4⟩:=Gr e;exact⟨j,h1,h,h2,h3,h4⟩
def Eu(b:Expr):Prop:=∀o i,subscripted b false o i=operate [o,i] (getItem o i)
def sX(X:Cx)(r:R2):Prop:=
 ∀(value slice:Expr) (pins:OA) (s:ak) (σ:St) (H:Hp) (x y:V) (v u:aj) (Q:VK),Inv X pins σ H s->D1 x v->D1 y u->r x y H Q->
  subscripted slice false v u=operate [v,u] (getItem v u)->wpAny (model X.prog X.w) X.A (subscriptTail value slice v u) (EP X pins σ Q) X.xe s
def xY(X:Cx)(id:String)(r:V->ba->Hp->VK->Prop):Prop:=
 ∀(pins:OA) (s:ak) (σ:St) (H:Hp) (x:V) (xs:ba) (v:aj) (us:ao) (Q:VK),Inv X pins σ H s->D1 x v->C7 xs us->r x xs H Q->
  wpAny (model X.prog X.w) X.A (call (.builtin id) (v::us)) (EP X pins σ Q) X.xe s
section
variable{a b:Expr}{ta tb:TE}{pos:Pos}
theorem sX.or{r':R2}(h:sX X r)(h':sX X r'):sX X (fun x y H Q=>r x y H Q\/r' x y H Q):=by
 intro value slice pins s σ H x y v u Q I rx ry q hs;rcases q with q|q
 ·exact h value slice pins s σ H x y v u Q I rx ry q hs
 ·exact h' value slice pins s σ H x y v u Q I rx ry q hs
theorem LB(hr:sX X r)(ha:PE X a ta)(hb:PE X b tb)(hs:Eu b):PE X (.Subscript a b pos) (u8 r ta tb):=by
 intro pins s σ H Q I h;exact Subscript_ (Gj ha hb I h fun v u s2 x y H2 I2 rx ry q=>hr a b pins s2 σ H2 x y v u Q I2 rx ry q (hs _ _))
def LC(K:Qj):R2:=fun x y H Q=>∃p xs i v,x=.ref p/\y=.int i/\nT K H p xs/\qE xs i=some v/\Q v H
def LD(K:Qj):R2:=fun x y H Q=>∃p xs i v,x=.ref p/\y=.int i/\n5 K H p xs/\qE xs i=some v/\Q v H
def LF:R2:=fun x y H Q=>∃z i c,x=.str z/\y=.int i/\z.length≤sizeLine/\qE z.cps.toList i=some c/\Q (.str ⟨#[c]⟩) H
theorem LG:sX X (LC X.K):=by
 intro value slice pins s σ H x y v u Q I rx ry h hs;obtain⟨p,xs,i,z,rfl,rfl,hq,he,q⟩:=h;cases rx;obtain⟨t,rfl⟩:=ry;obtain⟨its,r,pl,hz⟩:=I.list hq;obtain⟨j,h1,h2,h3,h4,h5⟩:=Gs he;obtain⟨w,ew,rw'⟩:=r.get h2;have hl:=r.length;have hn:=DE;have fin:EP X pins σ Q w s:=⟨z,H,I,rw',q⟩
 by_cases h0:0≤i
 ·have hj:i.toNat=j:=by
   rw[seqIndex_of h0 h5]at h1;exact Yl h1
  exact item_listR pl.isList h0 (by omega) (by rw[hj];simpa using ew) fin hs
 ·have hj:(i+(its.toArray.size:Int)).toNat=j:=by
   rw[seqIndex_neg (by omega) h4]at h1;rw[Qh,←hl];exact Yl h1
  exact subscriptTail_builtinR (x:=w) pl.isList.typeIs slot_list_getitem.lookup
   (wpAny_getItem_list_neg (Q:=fun r s'=>r=w/\EP X pins σ Q r s') pl.isList (by omega) (by rw[Qh]<;>omega) (by omega) (by rw[hj];simpa using ew) ⟨rfl,fin⟩) hs
theorem VI:sX X (LD X.K):=by
 intro value slice pins s σ H x y v u Q I rx ry h hs;obtain⟨p,xs,i,z,rfl,rfl,hq,he,q⟩:=h;cases rx;obtain⟨t,rfl⟩:=ry;obtain⟨its,r,pl,hz⟩:=I.tuple hq;obtain⟨j,h1,h2,h3,h4,h5⟩:=Gs he;obtain⟨w,ew,rw'⟩:=r.get h2;have hl:=r.length;have hn:=DE;have fin:EP X pins σ Q w s:=⟨z,H,I,rw',q⟩;exact subscriptTail_builtinR (x:=w) pl.typeIs slot_tuple_getitem.lookup
  (getItem_tuple (j:=j) (Q:=fun r s'=>r=w/\EP X pins σ Q r s') pl (by omega) (by omega) (by rw[Qh,←hl];exact h1) (by simpa using ew) ⟨rfl,fin⟩) hs
theorem VJ:sX X LF:=by
 intro value slice pins s σ H x y v u Q I rx ry h hs;obtain⟨z,i,c,rfl,rfl,hz,he,q⟩:=h;obtain⟨t,rfl⟩:=rx;obtain⟨t',rfl⟩:=ry;obtain⟨j,h1,h2,h3,h4,h5⟩:=Gs he;have hl:z.cps.toList.length=z.length:=by simp[Str.length]
 rw[hl]at h1 h4 h5;have hn:=DE;exact tail_any (typeIs_str s z t) slot_str_getitem.lookup (getItem_str (c:=c) (by
  have e1:decide (i< -(2^63:Int))=false:=Zg (by omega);have e2:decide (i ≥ 2^63)=false:=Zg (by omega);rw[e1,e2,Bool.or_false]) (by rw[h1];simpa using h2) ⟨.str ⟨#[c]⟩,H,I.tok _,⟨_,rfl⟩,q⟩) hs
def xZ(K:Qj):R2:=fun x y H Q=>LC K x y H Q\/LD K x y H Q\/LF x y H Q
theorem VL:sX X (xZ X.K):=LG.or (VI.or VJ)
theorem VM(its:ao)(n j:Nat)(u:aj):Obj.mapSeq (·.setIfInBounds j u) {cls:=.type "list",data:=.seq its.toArray n}={cls:=.type "list",data:=.seq (its.set j u).toArray n}:=by
 simp[Obj.mapSeq]
theorem Inv.lst(I:Inv X pins σ H s)(h:H p=some (.lst xs)):
  ∃(its:ao) (n:Nat),C7 xs its/\s.heap.get? p=some {cls:=.type "list",data:=.seq its.toArray n}/\xs.length≤sizeLine:=by
 obtain⟨z,its,n,r,e⟩:=I.hok p _ h;exact⟨its,n,r,e,z⟩
theorem Inv.lstUpd{ys:ba}{n':Nat}{f:Obj->Obj}(I:Inv X pins σ H s)(h:H p=some (.lst xs))
  (ho:s.heap.get? p=some {cls:=.type "list",data:=.seq its.toArray n})(hf:f {cls:=.type "list",data:=.seq its.toArray n}={cls:=.type "list",data:=.seq its'.toArray n'})(r:C7 ys its')(hz:ys.length≤sizeLine)(t:Nat):
  Inv X pins σ (upd H p (.lst ys)) {s with heap:=s.heap.update p f,toks:=t}:=by
 have e:(s.heap.update p f).get? p=some {cls:=.type "list",data:=.seq its'.toArray n'}:=by
  rw[Jp f ho (by rw[hf]<;>rfl),hf]
 refine I.write (x:=p) (e:=p) (by rw[h];trivial) (.inl rfl) (fun b u hb q=>(Heap.get?_update_other _ _ (Za hb)).trans q) ⟨_,e⟩ ?_;exact⟨hz,its',n',r,e⟩
def VN:V->V->V->Hp->(Hp->Prop)->Prop:=fun o i v H Q=>∃p xs k j,o=.ref p/\i=.int k/\H p=some (.lst xs)/\sM xs.length k=some j/\Q (upd H p (.lst (xs.set j v)))
theorem VO:Gg X VN:=by
 intro pins s σ H o i v ov iv u Q I ro ri rv h;obtain⟨p,xs,k,j,rfl,rfl,hp,hj,q⟩:=h;cases ro;obtain⟨t,rfl⟩:=ri;obtain⟨its,n,r,ho,hz⟩:=I.lst hp;obtain⟨h1,h2,h3,h4⟩:=Gr hj;have hl:=r.length;have hn:=DE;have I':Inv X pins σ (upd H p (.lst (xs.set j v))) {s with heap:=s.heap.update p (Obj.mapSeq (·.setIfInBounds j u))}:=
  I.lstUpd hp ho (VM its n j u) (r.set rv j) (by rw[Yg];exact hz) s.toks
 by_cases h0:0≤k
 ·have hk:k.toNat=j:=by
   rw[seqIndex_of h0 h4]at h1;exact Yl h1
  exact PySem.W.ki_setAt ho h0 (by omega) (by rw[Qh,←hl];exact h4) (by rw[hk];exact⟨_,I',q⟩)
 ·have hk:(k+(its.toArray.size:Int)).toNat=j:=by
   rw[seqIndex_neg (by omega) h3]at h1;rw[Qh,←hl];exact Yl h1
  exact PySem.W.ki_setBack ho (by omega) (by rw[Qh,←hl];exact h3) (by omega) (by rw[hk];exact⟨_,I',q⟩)
def W8:V->Bool
 |.non=>true
 |.bl _=>true
 |.int _=>true
 |.str _=>true
 |_=>false
def tN:V->V->Bool
 |.non,.non=>true
 |.bl a,.bl b=>a==b
 |.bl a,.int b=>(if a then 1 else 0)==b
 |.int a,.bl b=>a==(if b then 1 else 0)
 |.int a,.int b=>a==b
 |.str a,.str b=>a==b
 |_,_=>false
theorem VP{A:Around}(ry:D1 y u)(rx:D1 x v)(fy:W8 y=true)(fx:W8 x=true):SeqAt.EqAt A s u v (tN y x):=by
 cases y with
 |non=>
  cases ry;cases x with
  |non=>cases rx;exact SeqAt.EqAt.same _
  |bl b=>cases rx;exact SeqAt.EqAt.none_bool b
  |int b=>obtain⟨t,rfl⟩:=rx;exact SeqAt.EqAt.none_int b t
  |str b=>obtain⟨t,rfl⟩:=rx;exact SeqAt.EqAt.none_str b t
  |_=>exact absurd (show false=true from fx) Qa
 |bl a=>
  cases ry;cases x with
  |non=>cases rx;exact SeqAt.EqAt.bool_none a
  |bl b=>cases rx;exact SeqAt.EqAt.bool_bool a b
  |int b=>obtain⟨t,rfl⟩:=rx;exact SeqAt.EqAt.bool_int a b t
  |str b=>obtain⟨t,rfl⟩:=rx;exact SeqAt.EqAt.bool_str a b t
  |_=>exact absurd (show false=true from fx) Qa
 |int a=>
  obtain⟨t',rfl⟩:=ry;cases x with
  |non=>cases rx;exact SeqAt.EqAt.int_none a t'
  |bl b=>cases rx;exact SeqAt.EqAt.int_bool a t' b
  |int b=>obtain⟨t,rfl⟩:=rx;exact SeqAt.EqAt.int_int a t' b t
  |str b=>obtain⟨t,rfl⟩:=rx;exact SeqAt.EqAt.int_str a t' b t
  |_=>exact absurd (show false=true from fx) Qa
 |str a=>
  obtain⟨t',rfl⟩:=ry;cases x with
  |non=>cases rx;exact SeqAt.EqAt.str_none a t'
  |bl b=>cases rx;exact SeqAt.EqAt.str_bool a t' b
  |int b=>obtain⟨t,rfl⟩:=rx;exact SeqAt.EqAt.str_int a t' b t
  |str b=>obtain⟨t,rfl⟩:=rx;exact SeqAt.EqAt.str_str a t' b t
  |_=>exact absurd (show false=true from fx) Qa
 |_=>exact absurd (show false=true from fy) Qa
def sN(x:V)(u:aj):Bool:=match u with
 |.none=>tN .non x
 |.bool b=>tN (.bl b) x
 |.int i _=>tN (.int i) x
 |.str z _=>tN (.str z) x
 |_=>false
theorem LH(r:D1 y u)(f:W8 y=true):sN x u=tN y x:=by
 cases y with
 |non=>cases r;rfl
 |bl b=>cases r;rfl
 |int i=>obtain⟨t,rfl⟩:=r;rfl
 |str z=>obtain⟨t,rfl⟩:=r;rfl
 |_=>exact absurd (show false=true from f) Qa
theorem Gu{x:V}:∀{xs:ba}{us:ao},C7 xs us->xs.all W8=true->us.any (sN x)=xs.any fun y=>tN y x
 |_,_,.nil,_=>rfl
 |y::xs,u::us,.cons r t,f=>by
  rw[Uk,Qr]at f;rw[List.any_cons,List.any_cons,LH r f.1,Gu t f.2]
theorem Ew{A:Around}{s:ak}{x:V}{v:aj}(rx:D1 x v)(fx:W8 x=true):∀{xs:ba}{us:ao},C7 xs us->xs.all W8=true->∀u∈us,SeqAt.EqAt A s u v (sN x u)
 |_,_,.nil,_=>fun u hu=>by cases hu
 |y::xs,u::us,.cons r t,f=>fun u' hu=>by
  rw[Uk,Qr]at f;rcases Qp.mp hu with rfl|hu
  ·rw[LH r f.1];exact VP r rx f.1 fx
  ·exact Ew rx fx t f.2 u' hu
def vT(x:V)(xs:ba):Bool:=xs.any fun y=>tN y x
def x5(K:Qj)(neg:Bool):R2:=fun x y H Q=>∃p xs,y=.ref p/\(nT K H p xs\/n5 K H p xs)/\W8 x=true/\xs.all W8=true/\Q (.bl (if neg then !vT x xs else vT x xs)) H
theorem VQ:m5 X (compareOp .NotIn) (x5 X.K true):=by
 intro pins s σ H x y v u Q I rx ry h;obtain⟨p,xs,rfl,hq,fx,fs,q⟩:=h;cases ry;rcases hq with hq|hq
 ·obtain⟨its,r,pl,hz⟩:=I.list hq;refine SeqAt.notIn_listAt (sN x) pl.isList (fun w hw=>Ew rx fx r fs w (by simpa using hw)) ⟨.bl _,H,I,rfl,?_⟩;rw[show its.toArray.any (sN x)=its.any (sN x) by simp,Gu r fs];exact q
 ·obtain⟨its,r,pl,hz⟩:=I.tuple hq;refine SeqAt.notIn_tupleAt (sN x) pl (fun w hw=>Ew rx fx r fs w (by simpa using hw)) ⟨.bl _,H,I,rfl,?_⟩;rw[show its.toArray.any (sN x)=its.any (sN x) by simp,Gu r fs];exact q
theorem J4:J3 X (.builtin "len") (fun xs H Q=>∃p ys,xs=[.ref p]/\(nT X.K H p ys\/n5 X.K H p ys)/\Q (.int ys.length) H):=by
 intro pins s σ H xs us Q I r h;obtain⟨p,ys,rfl,hq,q⟩:=h;obtain⟨u,rfl,rx⟩:=Q5 r;cases rx;have hn:=DE;rcases hq with hq|hq
 ·obtain⟨its,r',pl,hz⟩:=I.list hq;have hlen:=r'.length;exact Calls.call_len_list pl.isList (by simp only[Qh]<;>omega) ⟨.int ys.length,H,I.tok _,⟨s.toks+1,by rw[Qh,hlen]⟩,q⟩
 ·obtain⟨its,r',pl,hz⟩:=I.tuple hq;have hlen:=r'.length;exact len_tuple pl (by simp only[Qh]<;>omega) ⟨.int ys.length,H,I.tok _,⟨s.toks+1,by rw[Qh,hlen]⟩,q⟩
theorem Ex:J3 X (.type "list") (fun xs H Q=>∃p ys,xs=[.ref p]/\(nT X.K H p ys\/n5 X.K H p ys)/\∀l,H l=none->Q (.ref l) (upd H l (.lst ys))):=by
 intro pins s σ H xs us Q I r h;obtain⟨p,ys,rfl,hq,q⟩:=h;obtain⟨u,rfl,rx⟩:=Q5 r;cases rx;have fin:∀(its:ao),C7 ys its->ys.length≤sizeLine->∀(h':Heap) (c':Nat),(∀b o',s.heap.get? b=some o'->h'.get? b=some o')->
   h'.get? s.heap.objs.size=some {cls:=.type "list",dict:=none,data:=.seq its.toArray c',slots:=#[]}->EP X pins σ Q (.ref s.heap.objs.size) {s with heap:=h'}:=fun its r' hz h' c' kp e=>
  ⟨.ref s.heap.objs.size,_,I.laid (t':=s.toks) kp (Qy _) (show F3 X.prog X.w _ h' _ (.lst ys)from⟨hz,its,c',r',e⟩),rfl,q _ (I.hok.fresh (Qy _))⟩
 rcases hq with hq|hq
 ·obtain⟨its,r',pl,hz⟩:=I.list hq;have hlen:=r'.length;obtain⟨o,ho,hc,n,hd⟩:=pl.isList;exact call_list_seq p (.inl rfl) ho hc hd (fun h' c' kp e=>fin its r' hz h' c' kp e) (by simp only[Qh]<;>omega)
 ·obtain⟨its,r',pl,hz⟩:=I.tuple hq;have hlen:=r'.length;obtain⟨o,ho,hc,n,hd⟩:=pl;exact call_list_seq p (.inr rfl) ho hc hd (fun h' c' kp e=>fin its r' hz h' c' kp e) (by simp only[Qh]<;>omega)
theorem Gv:J3 X (.type "tuple") (fun xs H Q=>∃p ys,xs=[.ref p]/\((nT X.K H p ys/\∀l,H l=none->Q (.ref l) (upd H l (.tup ys)))\/(n5 X.K H p ys/\Q (.ref p) H))):=by
 intro pins s σ H xs us Q I r h;obtain⟨p,ys,rfl,h⟩:=h;obtain⟨u,rfl,rx⟩:=Q5 r;cases rx;rcases h with⟨hq,q⟩|⟨hq,q⟩
 ·obtain⟨its,r',pl,hz⟩:=I.list hq;have hlen:=r'.length;refine call_tuple_list pl.isList (fun h' kp=>?_) (by simp only[Qh]<;>omega);have I1:Inv X pins σ H {s with heap:=h'}:=I.kept (t':=s.toks) kp;have I2:Inv X pins σ (upd H h'.objs.size (.tup ys)) {s with heap:=h'.push {cls:=.type "tuple",data:=.seq its.toArray}}:=
   I1.laid (t':=s.toks) (fun b o e=>Qx _ e) (Qy _) (show F3 X.prog X.w _ _ _ (.tup ys)from⟨hz,its,r',W0.new _ _⟩)
  exact⟨.ref h'.objs.size,_,I2,rfl,q _ (I1.hok.fresh (Qy _))⟩
 ·obtain⟨its,r',pl,hz⟩:=I.tuple hq;exact call_tuple_same pl ⟨.ref p,H,I,rfl,q⟩
def wR(K:Qj)(T:String)(x:V)(H:Hp):Prop:=match x with
 |.str _=>T="str"
 |.int _=>T="int"
 |.ref p=>(T="list"/\ ∃xs,nT K H p xs)\/(T="tuple"/\ ∃o,K.lookup p=some o/\o.cls=.type "tuple"/\o.dict=none)\/
   (T="dict"/\((∃kvs,H p=some (.dK kvs))\/ ∃C kvs,H p=some (.dT C kvs)))\/(T="set"/\ ∃S n,H p=some (.set S n))\/(T="dict"/\ ∃es ep,H p=some (.dX es ep))
 |_=>False
theorem LI{T:String}(I:Inv X pins σ H s)(r:D1 x v)(ty:wR X.K T x H):
  s.TypeIs v T/\∀a,v=.ref a->∃ob,s.heap.get? a=some ob/\ob.dict=none:=by
 cases x with
 |str z=>
  obtain⟨t,rfl⟩:=r;cases (show T="str" from ty);exact⟨typeIs_str s z t,fun _ e=>nomatch e⟩
 |int i=>
  obtain⟨t,rfl⟩:=r;cases (show T="int" from ty);exact⟨typeIs_int s i t,fun _ e=>nomatch e⟩
 |ref p=>
  cases r;rcases ty with⟨rfl,xs,hq⟩|⟨rfl,o,hk,hc,hd⟩|⟨rfl,hk⟩|⟨rfl,S,n,hk⟩|⟨rfl,es,ep,hk⟩
  ·obtain⟨its,_,pl,_⟩:=I.list hq;refine⟨pl.isList.typeIs,fun a e=>?_⟩;cases e;obtain⟨o,n,e,c,hd,_⟩:=pl;exact⟨o,e,hd⟩
  ·refine⟨⟨o,I.kIn p o hk,hc⟩,fun a e=>?_⟩;cases e;exact⟨o,I.kIn _ o hk,hd⟩
  ·have z:∃o,s.heap.get? p=some o/\o.ExactDict:=by
    rcases hk with⟨kvs,hk⟩|⟨C,kvs,hk⟩
    ·obtain⟨_,_,_,_,o,_,_,e,ex,_⟩:=I.hok p _ hk;exact⟨o,e,ex⟩
    ·obtain⟨_,_,_,_,o,_,_,e,ex,_⟩:=I.hok p _ hk;exact⟨o,e,ex⟩
   obtain⟨o,e,ex⟩:=z;refine⟨⟨o,e,ex.1⟩,fun a e2=>?_⟩;cases e2;exact⟨o,e,ex.2.1⟩
  ·obtain⟨o,_,_,_,e,ex,_⟩:=I.hok p _ hk;refine⟨⟨o,e,ex.1⟩,fun a e2=>?_⟩;cases e2;exact⟨o,e,ex.2.1⟩
  ·obtain⟨_,_,o,e,ex,_⟩:=I.hok p _ hk;refine⟨⟨o,e,ex.1⟩,fun a e2=>?_⟩;cases e2;exact⟨o,e,ex.2.1⟩
 |_=>exact False.elim ty
def VR(K:Qj)(T:String)(r:V->ba->Hp->VK->Prop)(to:TE):TE:=fun σ H Q=>to σ H fun x H1=>wR K T x H1/\r x [] H1 Q
def zQ(K:Qj)(T:String)(r:V->ba->Hp->VK->Prop)(to:TE)(t:TA):TE:=fun σ H Q=>to σ H fun x H1=>wR K T x H1/\t σ H1 fun xs H2=>r x xs H2 Q
variable{o e:Expr}{es:au}{to:TE}{t:TA}{name:Str}{apos cpos:Pos}{T id:String}{r:V->ba->Hp->VK->Prop}
theorem LJ(pa:PlainAttrs T)(slot:Slot T name id)(hty:typeOf (.builtin id)=pure (.type "method_descriptor"))(hm:xY X id r)(ho:PE X o to)
  (hbase:attributeBase o name X.env (eval o X.env)=eval o X.env:=by rfl)(hline:(apos.endLine==cpos.line)=true:=by rfl):PE X (.Call (.Attribute o name apos) [] [] cpos) (VR X.K T r to):=by
 intro pins s σ H Q I h;refine wpAny_Call_method0_late hbase hline (i6 (ho pins s σ H _ I h) fun v s1 ⟨x,H1,I1,r1,ty,q1⟩=>?_);obtain⟨h1,h2⟩:=LI I1 r1 ty;exact⟨T,id,pa,slot,hty,h1,h2,Calls.callWith_builtin rfl (PySem.evalArgs_none (hm pins s1 σ H1 x [] v [] Q I1 r1 .nil q1))⟩
theorem DF(pa:PlainAttrs T)(slot:Slot T name id)(hty:typeOf (.builtin id)=pure (.type "method_descriptor"))(hm:xY X id r)(ho:PE X o to)(ha:PA X (e::es) t)
  (hbase:attributeBase o name X.env (eval o X.env)=eval o X.env:=by rfl)
  (hfew:((backTo cpos (starEach (e::es) X.env)).all (fun x=>!x.1)&&(backToKw cpos (keywordEach [] X.env)).all (fun x=>x.1.isSome)
   &&decide ((e::es).length+([]:List Keyword).length+(if([]:List Keyword).isEmpty then 0 else 1)<30))=true:=by rfl)
  (hline:(apos.endLine==cpos.line)=true:=by rfl)(hs:starEach (e::es) X.env=(false,eval e X.env)::starEach es X.env:=by rfl)(hplain:(backTo cpos (starEach es X.env)).any (·.1)=false:=by rfl):
  PE X (.Call (.Attribute o name apos) (e::es) [] cpos) (zQ X.K T r to t):=by
 intro pins s σ H Q I h;refine wpAny_Call_method_late hbase hfew hline rfl (i6 (ho pins s σ H _ I h) fun v s1 ⟨x,H1,I1,r1,ty,q1⟩=>?_);obtain⟨h1,h2⟩:=LI I1 r1 ty;refine⟨T,id,pa,slot,hty,h1,h2,?_⟩;have hA:=ha cpos pins s1 σ H1 _ I1 q1;rw[hs]at hA ⊢;refine Calls.callWith_builtin (by show(false||(backTo cpos (starEach es X.env)).any (·.1))=false;rw[hplain]<;>rfl) (Calls.evalArgs_plain ?_);exact i6 hA fun us s2 ⟨vs,H2,I2,r2,q2⟩=>hm pins s2 σ H2 x vs v us Q I2 r1 r2 q2
end
def uD(X:Cx)(id:String)(r:V->ba->Hp->VK->Prop):Prop:=
 ∀(pins:OA) (s:ak) (σ:St) (H:Hp) (x:V) (xs:ba) (v:aj) (us:ao) (Q:VK),Inv X pins σ H s->D1 x v->C7 xs us->r x xs H Q->
  wpAny (model X.prog X.w) X.A (call (.builtin id) (v::us)) (EP X pins σ Q) X.xe s
theorem C7.one(h:C7 [x] us):∃u,us=[u]/\D1 x u:=by
 cases h with
 |cons r t=>cases t;exact⟨_,rfl,r⟩
theorem C7.two(h:C7 [x,y] us):∃u v,us=[u,v]/\D1 x u/\D1 y v:=by
 cases h with
 |cons r t=>cases t with
  |cons q t=>cases t;exact⟨_,_,rfl,r,q⟩
theorem C7.eraseIdx:∀{xs:ba}{us:ao}(i:Nat),C7 xs us->C7 (xs.eraseIdx i) (us.eraseIdx i)
 |_,_,_,.nil=>.nil
 |_,_,0,.cons _ t=>t
 |_,_,i+1,.cons r t=>.cons r (C7.eraseIdx i t)
theorem C7.reverse(h:C7 xs us):C7 xs.reverse us.reverse:=by
 induction h with
 |nil=>exact .nil
 |cons r t ih=>rw[Rg,Rg];exact C7.append ih (.cons r .nil)
theorem LK{α:Type}:∀(l:List α) (i:Nat),(l.eraseIdx i).length≤l.length
 |[],_=>Qy _
 |_::_,0=>Xu _
 |_::r,i+1=>Rt (LK r i)
section
variable{l b:ah}{ys zs:ba}
theorem Inv.lset{f:az->az}(I:Inv X pins σ H s)(hH:H l=some (.lst xs))
  (e:s.heap.get? l=some {cls:=.type "list",data:=.seq its.toArray n})(hf:f its.toArray=its'.toArray)(hv:C7 ys its')(hz:ys.length≤sizeLine):
  Inv X pins σ (upd H l (.lst ys)) {s with heap:=s.heap.update l (Obj.mapSeq f),toks:=t'}:=by
 have q:=PySem.IsL.update e f;rw[hf]at q;refine I.write (x:=l) (e:=l) (by rw[hH];exact trivial) (.inl rfl) (fun b' u hb hu=>(Heap.get?_update_other s.heap (Obj.mapSeq f) (Za hb)).trans hu) ⟨_,q⟩ ?_;exact⟨hz,its',_,hv,q⟩
theorem Inv.lnew(I:Inv X pins σ H s)(hv:C7 ys its)(hz:ys.length≤sizeLine):
  Inv X pins σ (upd H s.heap.objs.size (.lst ys)) {s with heap:=s.heap.push {cls:=.type "list",data:=.seq its.toArray},toks:=t'}:=
 I.laid (fun _ _ q=>Qx _ q) (Qy _) ⟨hz,its,0,hv,Qw _ rfl⟩
theorem Inv.fresh(I:Inv X pins σ H s):H s.heap.objs.size=none:=I.hok.fresh (Qy _)
theorem Inv.lstM(I:Inv X pins σ H s)(hH:H l=some (.lst xs)):xs.length≤sizeLine/\∃(its:ao) (n:Nat),C7 xs its/\xs.length=its.length/\s.heap.get? l=some {cls:=.type "list",data:=.seq its.toArray n}:=by
 obtain⟨z,its,n,r,e⟩:=I.hok l _ hH;exact⟨z,its,n,r,r.length,e⟩
theorem VS(h:n≤sizeLine):Builtin.List.listTooLong n=false:=by
 unfold Builtin.List.listTooLong;exact Zg (by omega)
end
def VT:V->ba->Hp->VK->Prop:=fun x vs H Q=>∃l xs y,x=.ref l/\vs=[y]/\H l=some (.lst xs)/\xs.length<sizeLine/\Q .non (upd H l (.lst (xs++[y])))
theorem LL:uD X "list.append" VT:=by
 intro pins s σ H x vs v us Q I rx rv h;obtain⟨l,xs,y,rfl,rfl,hH,hz,q⟩:=h;cases rx;obtain⟨u,rfl,ru⟩:=rv.one;obtain⟨z,its,n,r,hl,e⟩:=I.lstM hH;refine call_meets F.slot_list_append ⟨_,e,rfl⟩ F.entry_list_append (F.args_list_append_2 _ _) (PySem.list_append l its.toArray n u (by rw[Qh];omega)) ⟨e,?_⟩;refine⟨.non,_,I.lset (its':=its++[u]) hH e (by simp) (r.append (.cons ru .nil)) ?_,rfl,q⟩;rw[Zx,List.length_singleton];omega
def VU:V->ba->Hp->VK->Prop:=fun x vs H Q=>∃l b xs zs,x=.ref l/\vs=[.ref b]/\H l=some (.lst xs)/\H b=some (.lst zs)/\xs.length+zs.length≤sizeLine/\Q .non (upd H l (.lst (xs++zs)))
theorem VV:uD X "list.extend" VU:=by
 intro pins s σ H x vs v us Q I rx rv h;obtain⟨l,b,xs,zs,rfl,rfl,hH,hB,hz,q⟩:=h;cases rx;obtain⟨u,rfl,ru⟩:=rv.one;cases ru;obtain⟨z,its,n,r,hl,e⟩:=I.lstM hH;obtain⟨z2,its2,n2,r2,hl2,e2⟩:=I.lstM hB;have hsz:its.toArray.size+its2.toArray.size≤sizeLine:=by rw[Qh,Qh];omega
 have hlong:¬ (!its.toArray.isEmpty&&Builtin.List.listTooLong (its.toArray.size+its2.toArray.size))=true:=by
  rw[VS hsz,Bool.and_false];exact Qa
 refine call_meets F.slot_list_extend ⟨_,e,rfl⟩ F.entry_list_extend (F.args_list_extend_2 _ _)
  (AutoSeq1.list_extend_list_list_0 l its.toArray n b its2.toArray n2 hlong (by rw[Qh];omega) (by omega)) ⟨e,e2,?_⟩
 refine⟨.non,_,I.lset (its':=its++its2) hH e (by simp) (r.append r2) ?_,rfl,q⟩;rw[Zx];omega
def VW:V->ba->Hp->VK->Prop:=fun x vs H Q=>∃l xs i k y,x=.ref l/\vs=[.int i]/\H l=some (.lst xs)/\ -(2^63)≤i/\i<2^63/\seqIndex? i xs.length=some k/\xs[k]? =some y/\Q y (upd H l (.lst (xs.eraseIdx k)))
theorem VX:uD X "list.pop" VW:=by
 intro pins s σ H x vs v us Q I rx rv h;obtain⟨l,xs,i,k,y,rfl,rfl,hH,h1,h2,hk,hy,q⟩:=h;cases rx;obtain⟨u,rfl,ru⟩:=rv.one;obtain⟨t,rfl⟩:=ru;obtain⟨z,its,n,r,hl,e⟩:=I.lstM hH;obtain⟨w,hw,rw'⟩:=r.get hy;refine call_meets F.slot_list_pop ⟨_,e,rfl⟩ F.entry_list_pop (F.args_list_pop_2 _ _)
  (MeetsSeq.list_pop_at l its.toArray n i t k w (fitsIndex_both h1 h2) (by rw[Qh,←hl];exact hk) (by rw[←Jt];exact hw) (by rw[Qh];omega)) ⟨e,?_⟩
 refine⟨y,_,I.lset (its':=its.eraseIdx k) hH e ?_ (r.eraseIdx k) ?_,rw',q⟩
 ·show its.toArray.eraseIdxIfInBounds k=(its.eraseIdx k).toArray;rw[List.eraseIdxIfInBounds_toArray]
 ·have:=LK xs k;omega
section
variable{prog:af}{w:ag}{A:Around}{E:OU}
set_option maxRecDepth 100000 in
end
end L2
namespace Att
open PySem PySem.W PySem.Calls PyProof.Rows
variable{P:Params}{h:Heap}{l:OpenLaw}{n:Nat}
theorem oP:∀(ns:aq) (vs:ao),WellAll P h vs (ns.map WData.int)->IntsAre vs ns:=by
 intro ns
 induction ns with
 |nil=>
  intro vs w;rw[Ri]at w;cases w;exact .nil
 |cons n ns ih=>
  intro vs w;rw[Qm]at w;cases w with
  |cons a b=>
   cases a;exact .cons _ _ (ih _ b)
theorem rB(hn:l.most=some n){args:List WData}{vals:ao}
  (hpre:l.row.toRowW.claim.pre args=true)(hwl:WellAll P h vals args):
  ∃a vs ns,vals=[Value.ref a]/\args=[WData.list (ns.map WData.int)]/\h.get? a=some {cls:=.type "list",data:=.seq vs.toArray}/\IntsAre vs ns/\ns.length≤n:=by
 have hsh:WShape.hasAll [] args [.list .int]=true:=(pre_splitW hpre).1;have hc:l.pre.holds [] {args:=args}=true:=(pre_splitW hpre).2;obtain⟨d,r,rfl,h1,h2⟩:=hasAllW_cons hsh;obtain rfl:=hasAllW_nil h2;obtain⟨xs,rfl,h3⟩:=hasW_list h1;obtain⟨ns,rfl⟩:=items_int h3;have hlen:ns.length≤n:=by
  unfold OpenLaw.pre at hc;have h4:(WTm.not (.lt (.lit (.int (n:Int))) (.len (.arg 0)))).holds [] {args:=[.list (ns.map .int)]}=true:=by
   have h4:=(holds_andW hc).1;rw[hn]at h4;exact h4
  have h5:=condW_of h4 (w_not (w_lt w_lit (w_len_list (w_arg rfl))));rw[Qv]at h5;refine Nat.le_of_not_lt fun q=>?_;have q':(n:Int)<((ns.length:Nat):Int):=by omega
  first
   |(rw[Yb q']at h5;exact absurd h5 (by decide))
   |(simp at h5;omega)
 cases hwl with
 |cons w1 w2=>
  cases w2;cases w1 with
  |list ho hall=>exact⟨_,_,ns,rfl,rfl,ho,oP ns _ hall,hlen⟩
theorem rC(l:OpenLaw)(args:List WData):l.row.toRowW.claim.post args (.bool true) args=true:=
 postW_of (r:=l.row.toRowW) (X:=(true==true))
  (show WShape.has [] (.bool true) .bool=true by first|rfl|decide|simp[WShape.has,WShape.arms,WShape.armsAll])
  (show(WTm.eq .res (.lit (.bool true))).value [] {args:=args,res:=some (.bool true),after:=args}=some (.bool (true==true))from w_eq_bool (w_res rfl) w_lit) rfl
theorem p6{q:af}{loose:ar}{XP:(OI)->Heap->Prop}{YP:ag->Heap->Prop}{d:DefRec}
  (hn:l.most=some n)(hdf:d.params.defaults=[])
  (call:∀(w:ag) (s₀ s₁:ak) (mg mb:OI) (fa:ah) (o:Obj) (pm cd doc:aj) (a:ah) (vs:ao) (ns:aq),
   Ground q loose [] XP w s₀ mg mb s₁.heap->YP w s₁.heap->
   s₁.heap.get? fa=some o->o.data=.func (docDef d.name d.params d.body d.scope pm cd doc)->s₁.heap.CodeRec cd d.name->mg d.name=some (.ref fa)->
   s₁.heap.get? a=some {cls:=.type "list",data:=.seq vs.toArray}->IntsAre vs ns->ns.length≤n->s₁.gens= #[]->
   codeAny (model l.prog w) callerA (.call (.ref fa) ⟨[.ref a],[]⟩) (fun r s'=>r=.ok (.ret (.bool true))/\OldK s₁.heap s'.heap/\s'.os=s₁.os/\AllBare s'.gens) s₁):
  WalkO q loose XP YP l.row.toRowW d [] (fun f vs=>PySem.call f vs):=by
 intro w s₀ s₁ mg mb G Y fa o pm cd doc dV kV ho hd hcd hD hmg hg args vals as hpre hlay hrd hwl hlo;obtain rfl:dV=.none:=Dflts.none hD hdf;obtain rfl:kV=.none:=Dflts.noKw hD;obtain⟨a,vs,ns,rfl,rfl,hobj,hints,hlen⟩:=rB hn hpre hwl;refine enter_call (Vx (call w s₀ s₁ mg mb fa o pm cd doc a vs ns G Y ho (fd_plain hd) hcd hmg hobj hints hlen hg) fun r s' hq=>?_);obtain⟨rfl,h2,h3,h4⟩:=hq;exact⟨.inl ⟨.bool true,.bool true,[],rfl,fun _=>rfl,.bool true,rC l _,fun _=>⟨List.Pairwise.nil,fun _ hm=>(nomatch hm)⟩⟩,h2,h3,h4⟩
section
variable{prog:af}{w:ag}{A:Around}{E:OU}{s:ak}{K:Frag}
end
end Att
namespace L2
open PySem PySem.Spec PyProof.Rows
variable{P:af}{X:Cx}{fd:FuncData}{pos:Pos}{ps:ar}{qual x:Str}{w:ag}
theorem LM:∀{vs:ao}{ns:aq},IntsAre vs ns->C7 (ns.map V.int) vs
 |_,_,.nil=>.nil
 |_,_,.cons n t h=>.cons ⟨t,rfl⟩ (LM h)
def BU(s:Stmt):Arguments:=match s with
 |.FunctionDef _ a _ _ _ _ _ _ _ _=>a
 |_=>{posonlyargs:=[],args:=[],vararg:=none,kwonlyargs:=[],kw_defaults:=[],kwarg:=none,defaults:=[]}
def W9(s:Stmt):List Stmt:=match s with
 |.FunctionDef _ _ b _ _ _ _ _ _ _=>b
 |_=>[]
def E5(s:Stmt):Scope:=match s with
 |.FunctionDef _ _ _ _ _ _ sc _ _ _=>sc
 |_=>{kind:=.function,names:=[],isGenerator:=false,isCoroutine:=false}
abbrev mZ:tM:=fun _ _ _ _ _ _=>False
abbrev E0:XK:=fun _ _ _=>False
theorem Gw:Er mZ X E0:=fun _ _ _ _ _ _ _ h=>h.elim
structure nJ(K:Qj)(x qual:Str)(st:Stmt)(f:ah)(fd:FuncData):Prop where
 ex:∃(oc:aj) (od:Option ah) (kV doc pm:aj) (an:Option ah) (cdv ct:aj) (osl:Array (Option aj)),
  fd=PySem.W.fnOf x qual (BU st) (W9 st) (E5 st) .none kV doc pm an cdv ct/\K.lookup f=some ⟨oc,od,.func fd,osl⟩/\PySem.W.codeIn K cdv qual=true
 kp:PySem.W.keepIn K (.ref f)=true
section
variable{K:Qj}{mg:OI}{base:Heap}
theorem nJ.ok{st:Stmt}{f:ah}{N:ar}{k:Nat}{sp:Sp}(F:nJ K x qual st f fd)(S:c8 N ps (E5 st))(len:∀vs H Q E,sp vs H Q E->vs.length=ps.length)
  (hbody:∀(cdv:aj) (A:Around) (outer:List Env) (s:ak) (H:Hp) (vs:ba) (Q:VK) (E:XK),g9 k (A.deeper (envOfC qual (E5 st) s.heap.objs.size f cdv))->sp vs H Q E->
   ∃t,o8 (M4 mZ P w K mg base N qual (E5 st) f cdv A outer s H E).nox (W9 st) t/\t {nx:=fun _ H'=>Q .non H',rt:=Q} (start N vs) H):i4 P w K mg base mZ (k+1) f fd ps sp:=by
 obtain⟨oc,od,kV,doc,pm,an,cdv,ct,osl,rfl,lk,hcd⟩:=F.ex;refine Gq lk hcd S len fun A outer s H vs Q E hr hsp=>?_;obtain⟨t,h,q⟩:=hbody cdv A outer s H vs Q E hr hsp;exact⟨t,h.nox,q⟩
theorem nJ.binds{st:Stmt}{f:ah}(F:nJ K x qual st f fd)
  (h:∀(kV doc pm:aj) (an:Option ah) (cdv ct:aj) (us:ao),us.length=ps.length->bindArgs (PySem.W.fnOf x qual (BU st) (W9 st) (E5 st) .none kV doc pm an cdv ct) ⟨us,[]⟩=pure (ps.zip us)):Q7 K fd ps []:=by
 obtain⟨oc,od,kV,doc,pm,an,cdv,ct,osl,rfl,lk,hcd⟩:=F.ex;exact .all (h kV doc pm an cdv ct)
theorem VY{st:Stmt}{f:ah}{oc:aj}{od an:Option ah}{osl:Array (Option aj)}{kV doc pm cdv ct:aj}(l:K.lookup f=some ⟨oc,od,.func (PySem.W.fnOf x qual (BU st) (W9 st) (E5 st) .none kV doc pm an cdv ct),osl⟩)
  (c:PySem.W.codeIn K cdv qual=true)(k:PySem.W.keepIn K (.ref f)=true):nJ K x qual st f (PySem.W.fnOf x qual (BU st) (W9 st) (E5 st) .none kV doc pm an cdv ct):=⟨⟨oc,od,kV,doc,pm,an,cdv,ct,osl,rfl,l,c⟩,k⟩
end
theorem By{n:Nat}(h:n≤1000):n<sizeLine:=Vm h (by decide)
theorem pv(i:Nat)(hN:X.N[i]? =some x:=by rfl)(hv:tK X.env.scope x:=by first|exact Or.inl rfl|exact Or.inr (Or.inl rfl)|exact Or.inr (Or.inr rfl))(hd:(x==("__debug__":Str))=false:=by decide)
  (hcd:(x==("__classdict__":Str))=false:=by decide):PE X (.Name x pos) (T0 i):=Gf hN hv hd hcd
section
variable{κ:Type}[DecidableEq κ]
end
theorem VZ{k:Key}{u:aj}(r:D1 (kV k) u):(L5 P w).is k u=true:=by
 cases k with
 |inl i=>obtain⟨t,e⟩:=(show∃t,u=Value.int i t from r);subst e;exact SM P w i t
 |inr x=>obtain⟨t,e⟩:=(show∃t,u=Value.str x t from r);subst e;exact SN P w x t
theorem Gx{P:af}{w:ag}:∀{ks:List Key}{us:ao},C7 (ks.map kV) us->ItemsAre (L5 P w) ks us
 |[],_,r=>by rw[Ri]at r;cases r;exact .nil
 |k::ks,_,r=>by
  rw[Qm]at r;cases r with
  |cons h t=>exact .cons (VZ h) (Gx t)
section
variable{H:Hp}{h:Heap}{a:ah}
theorem WA{ks:List Key}(ok:nX P w H h)(e:H a=some (.tup (ks.map kV))):(tupleKind (L5 P w)).is h ks a:=by
 obtain⟨_,its,r,o,h1,h2,_,n,h3⟩:=(show F3 P w H h a (.tup (ks.map kV))from ok a _ e);exact⟨o,its.toArray,n,h1,h2,h3,by simpa using Gx r⟩
end
section
variable{pins:OA}{σ:St}{H:Hp}{s:ak}{a:ah}{y v:V}{u r:aj}{o:Option V}{A:Around}{E:OU}
theorem LN{h':Heap}{t':Nat}{ob:HO}(I:Inv X pins σ H s)(mu:u6 (H a))(hs:Heap.SameBut a s.heap h')(he:∃q,h'.get? a=some q)(new:F3 X.prog X.w (upd H a ob) h' a ob):
  Inv X pins σ (upd H a ob) {s with heap:=h',toks:=t'}:=
 I.write (x:=a) (e:=a) mu (.inl rfl) (fun b q hb z=>(hs.2 b hb).trans z) he new
end
def WB(i:Expr):Prop:=∀ov iv,subscripted i false ov iv=operate [ov,iv] (getItem ov iv)
theorem WC{prog:af}{A:Around}{E:OU}{s:ak}{env:Env}{value slice:Expr}{T id:String}{Q:OU}
  (hl:typeLookup (.type T) "__getitem__"=pure (some (.builtin id)))(hs:WB slice)
  (h:wpAny (model prog w) A (eval value env) (fun o s₁=>wpAny (model prog w) A (eval slice env) (fun i s₂=>s₂.TypeIs o T/\wpAny (model prog w) A (getItem o i) Q E s₂) E s₁) E s):
  wpAny (model prog w) A (eval (.Subscript value slice pos) env) Q E s:=by
 refine Subscript_ (Zj h (fun o s₁ h₁=>Zj h₁ (fun i s₂ h₂=>?_) fun _ _ x=>x) fun _ _ x=>x);obtain⟨hT,h₂⟩:=h₂;unfold subscriptTail;refine Qq ?_;rw[getitemInPython_of_ne hT.not_modules];refine Qq (wpAny_specialOf hT hl ?_);have fin:wpAny (model prog w) A (subscripted slice false o i) (fun r s₃=>wpAny (model prog w) A (letTemporaryGo value o r>>=fun _=>pure r) Q E s₃) E s₂:=by
  rw[hs o i];exact wpAny_operating (Zj h₂ (fun r s₃ h₃=>Qq (wpAny_letTemporaryGo (Qz h₃))) fun _ _ x=>x)
 first
  |exact Qz (Qq fin)
  |exact Qq (Qz (Qq fin))
  |exact Qq fin
theorem Inv.big(I:Inv X pins σ H s):sysModules<s.heap.objs.size:=by
 have h:mainGlobals<s.heap.objs.size:=(I.mod.glob.keeps I.bk).lt;exact Vk (by decide) h
end L2
namespace L2.Mir
open PySem PySem.Spec PyProof.Rows
variable{B:OE}{E:OU}{G G' G1 G2 H H' H1 H2:Hp}{N N':ar}{Q:VK}{T:String}{X:Cx}{a p:ah}{b c e iter tg:Expr}{es:au}{i j k more n:Nat}{neg:Bool}{o:HO}{op op':CmpOp}{pins:OA}{pos:Pos}{r:ba->Hp->VK->Prop}{r':R2}{s:ak}{scope:Scope}{t':TT}{v:V}{x:Str}{xs:ba}{α β:Type}{σ σ' σ1:St}
inductive KX where
 |t (ns:List Int)
 deriving Inhabited,DecidableEq
variable{ks:List KX}
def KX.kind:KX->Bool
 |.t _=>false
def Gy(ns:aq):Int:=reduceHash (Builtin.Tuple.tupleHashOf (ns.map hashInt))
def Gz:KX->Int
 |.t ns=>Gy ns
inductive Ob where
 |exc (n:Str)|fn (n:Str)|dk (kvs:List (Key×Key))|dt (kvs:List (Str×List Int))
 deriving Inhabited
inductive D where
 |non|bl (b:Bool)|int (i:Int)|str (x:Str)|tup (ds:List D)|lst (ds:List D)|emp|obj (o:Ob)|dct (ks:OO) (vs:List D)|dcx (ks:List KX) (vs:List D)
 deriving Inhabited
abbrev bb:=List D
variable{d:D}{ds vs:bb}{g':Int->Int->D}
def LO(K:Qj)(t:aj):Prop:=∀T∈(["tuple","list","int","bool","str"]:List String),PySem.W.kitOne K t (.type T)=some false
def qT(K:Qj)(G:Hp)(a:ah)(xs:ba):Prop:=G a=some (.tup xs)\/ ∃(o:Obj) (its:az) (n:Nat),K.lookup a=some o/\o.cls=.type "tuple"/\o.dict=none/\o.data=.seq its n/\its.size≤sizeLine/\C7 xs its.toList
theorem qT.t{K:Qj}(h:qT K G a xs):n5 K G a xs:=h.imp (fun e=>.inl e) id
def Bz(K:Qj)(G:Hp):List (Key×V)->List (Str×aq)->Prop
 |[],[]=>True
 |p::ps,q::qs=>p.1=.inr q.1/\(∃a,p.2=.ref a/\qT K G a (q.2.map V.int))/\Bz K G ps qs
 |_,_=>False
def Ey(K:Qj)(G:Hp)(v:V):Ob->Prop
 |.exc n=>∃a C HP,v=.ref a/\PySem.W.nsIn K mainGlobals n=some (some (.ref C))/\G a=some (.ext HP)/\PySem.W.KitX K (.ref a) (.ref C) HP/\LO K (.ref C)
 |.fn n=>∃f,v=.ref f/\PySem.W.nsIn K mainGlobals n=some (some (.ref f))/\PySem.W.KitX K (.ref f) (.type "function") (fun _=>True)
 |.dk kvs=>∃a,v=.ref a/\G a=some (.dK (kvs.map fun p=>(p.1,kV p.2)))
 |.dt kvs=>∃a ps,v=.ref a/\G a=some (.dK ps)/\Bz K G ps kvs
abbrev K2(k:aq):List Key:=k.map Sum.inl
def Ez(K:Qj):ah->List Key->Prop:=fun b k=>qT K (fun _=>none) b (k.map kV)
def O4(K:Qj)(G:Hp)(v:aj):KX->Prop
 |.t ns=>∃b,v=.ref b/\qT K G b (ns.map V.int)
inductive oD (K:Qj) (G:Hp):List DictEntry->List KX->List V->Prop
 |nil:oD K G [] [] []
 |cons {e:DictEntry}{es:List DictEntry}{k:KX}{ks:List KX}{x:V}{xs:List V}(h1:e.hash=Gz k) (h2:O4 K G e.key k) (h3:D1 x e.val) (t:oD K G es ks xs):oD K G (e::es) (k::ks) (x::xs)
def T4(ks:List KX):Prop:=(∃n,∀k∈ks,k.kind=n)/\ks.Nodup
mutual
def b0(K:Qj)(G:Hp):V->D->Prop
 |v,.non=>v=.non
 |v,.bl b=>v=.bl b
 |v,.int i=>v=.int i
 |v,.str x=>v=.str x/\x.length≤sizeLine
 |v,.tup ds=>∃a xs,v=.ref a/\qT K G a xs/\B4 K G xs ds
 |v,.lst ds=>∃a xs,v=.ref a/\nT K G a xs/\B4 K G xs ds
 |v,.emp=>∃a kvs,v=.ref a/\G a=some (.dK kvs)
 |v,.obj o=>Ey K G v o
 |v,.dct ks vs=>∃a kvs,v=.ref a/\G a=some (.dT (Ez K) kvs)/\kvs.map (·.1)=ks.map K2/\B4 K G (kvs.map (·.2)) vs
 |v,.dcx ks vs=>∃a es ep xs,v=.ref a/\G a=some (.dX es ep)/\oD K G es.toList ks xs/\T4 ks/\B4 K G xs vs
def B4(K:Qj)(G:Hp):ba->bb->Prop
 |xs,[]=>xs=[]
 |xs,d::ds=>∃x r,xs=x::r/\b0 K G x d/\B4 K G r ds
end
def Le(G G':Hp):Prop:=∀b o,G b=some o->G' b=some o
theorem Le.refl:Le G G:=fun _ _ e=>e
theorem Le.trans(a:Le G G1)(b:Le G1 G2):Le G G2:=fun x o e=>b x o (a x o e)
theorem Le.upd(h:G a=none):Le G (upd G a o):=fun b u e=>by rw[C6 (L6 e h)];exact e
theorem Le.sqU{K:Qj}(l:Le G G')(h:qT K G a xs):qT K G' a xs:=h.imp (fun e=>l _ _ e) id
theorem Le.sqT{K:Qj}(l:Le G G')(h:qT K G a xs):n5 K G' a xs:=(l.sqU h).t
theorem Le.sqT'{K:Qj}(l:Le G G')(h:n5 K G a xs):n5 K G' a xs:=by
 rcases h with h|h
 ·rcases h with h|⟨o,h⟩
  ·exact .inl (.inl (l _ _ h))
  ·exact .inl (.inr ⟨o,l _ _ h⟩)
 ·exact .inr h
theorem Le.sqL{K:Qj}(l:Le G G')(h:nT K G a xs):nT K G' a xs:=by
 rcases h with h|h
 ·rcases h with h|⟨o,h⟩
  ·exact .inl (.inl (l _ _ h))
  ·exact .inl (.inr ⟨o,l _ _ h⟩)
 ·exact .inr h
theorem Bz.mono{K:Qj}{G G':Hp}(l:Le G G'):∀{ps:List (Key×V)}{qs:List (Str×aq)},Bz K G ps qs->Bz K G' ps qs
 |[],[],_=>trivial
 |_::_,_::_,⟨h1,⟨a,h2,h3⟩,h4⟩=>⟨h1,⟨a,h2,l.sqU h3⟩,Bz.mono l h4⟩
theorem Ey.mono{K:Qj}(l:Le G G'):∀{o:Ob},Ey K G v o->Ey K G' v o
 |.exc n,⟨a,C,HP,h1,h2,h3,h4⟩=>⟨a,C,HP,h1,h2,l _ _ h3,h4⟩
 |.fn n,h=>h
 |.dk kvs,⟨a,h1,h2⟩=>⟨a,h1,l _ _ h2⟩
 |.dt kvs,⟨a,ps,h1,h2,h3⟩=>⟨a,ps,h1,l _ _ h2,h3.mono l⟩
theorem O4.mono{K:Qj}(l:Le G G'){v:aj}:∀{k:KX},O4 K G v k->O4 K G' v k
 |.t ns,⟨b,e,h⟩=>⟨b,e,l.sqU h⟩
theorem oD.mono{K:Qj}(l:Le G G'){es:List ae}(h:oD K G es ks xs):oD K G' es ks xs:=by
 induction h with
 |nil=>exact .nil
 |cons h1 h2 h3 _ ih=>exact .cons h1 (h2.mono l) h3 ih
mutual
theorem b0.mono{K:Qj}{G G':Hp}(l:Le G G'):∀(d:D) {v:V},b0 K G v d->b0 K G' v d
 |.non,_,h=>by simpa only[b0]using h
 |.bl b,_,h=>by simpa only[b0]using h
 |.int i,_,h=>by simpa only[b0]using h
 |.str x,_,h=>by simpa only[b0]using h
 |.tup ds,_,h=>by
  simp only[b0]at h ⊢;obtain⟨a,xs,e,q,r⟩:=h;exact⟨a,xs,e,l.sqU q,B4.mono l ds r⟩
 |.lst ds,_,h=>by
  simp only[b0]at h ⊢;obtain⟨a,xs,e,q,r⟩:=h;exact⟨a,xs,e,l.sqL q,B4.mono l ds r⟩
 |.emp,_,h=>by
  simp only[b0]at h ⊢;obtain⟨a,kvs,e,q⟩:=h;exact⟨a,kvs,e,l _ _ q⟩
 |.obj o,_,h=>by
  simp only[b0]at h ⊢;exact h.mono l
 |.dct ks vs,_,h=>by
  simp only[b0]at h ⊢;obtain⟨a,kvs,e,q,k,r⟩:=h;exact⟨a,kvs,e,l _ _ q,k,B4.mono l vs r⟩
 |.dcx ks vs,_,h=>by
  simp only[b0]at h ⊢;obtain⟨a,es,ep,xs,e,q,k,o,r⟩:=h;exact⟨a,es,ep,xs,e,l _ _ q,k.mono l,o,B4.mono l vs r⟩
theorem B4.mono{K:Qj}{G G':Hp}(l:Le G G'):∀(ds:bb) {xs:ba},B4 K G xs ds->B4 K G' xs ds
 |[],_,h=>by simpa only[B4]using h
 |d::ds,_,h=>by
  simp only[B4]at h ⊢;obtain⟨x,r,e,q,t⟩:=h;exact⟨x,r,e,b0.mono l d q,B4.mono l ds t⟩
end
theorem f7{K:Qj}:B4 K G [] []:=by simp only[B4]
theorem f6{K:Qj}{x:V}(h:b0 K G x d)(t:B4 K G xs ds):B4 K G (x::xs) (d::ds):=by
 simp only[B4];exact⟨x,xs,rfl,h,t⟩
theorem B4.length{K:Qj}{G:Hp}:∀{ds:bb}{xs:ba},B4 K G xs ds->xs.length=ds.length
 |[],_,h=>by simp only[B4]at h;subst h;rfl
 |d::ds,_,h=>by
  simp only[B4]at h;obtain⟨x,r,e,q,t⟩:=h;subst e;simp[B4.length t]
theorem B4.append{K:Qj}{G:Hp}:∀{ds es:bb}{xs ys:ba},B4 K G xs ds->B4 K G ys es->B4 K G (xs++ys) (ds++es)
 |[],_,_,_,h,t=>by simp only[B4]at h;subst h;exact t
 |d::ds,_,_,_,h,t=>by
  simp only[B4]at h;obtain⟨x,r,e,q,u⟩:=h;subst e;exact f6 q (B4.append u t)
theorem B4.get{K:Qj}{G:Hp}:∀{ds:bb}{xs:ba}{i:Nat}{d:D},B4 K G xs ds->ds[i]? =some d->∃x,xs[i]? =some x/\b0 K G x d
 |[],_,i,d,h,e=>by simp at e
 |d::ds,_,i,d',h,e=>by
  simp only[B4]at h;obtain⟨x,r,e1,q,t⟩:=h;subst e1;cases i with
  |zero=>simp at e;subst e;exact⟨x,rfl,q⟩
  |succ i=>simpa using B4.get (i:=i) t (by simpa using e)
theorem B4.get'{K:Qj}{x:V}(h:B4 K G xs ds)(e:xs[i]? =some x):∃d,ds[i]? =some d/\b0 K G x d:=by
 have hl:=h.length;have hi:i<xs.length:=(Qc.mp e).1;obtain⟨x',e',r⟩:=h.get (i:=i) (d:=ds[i]'(by omega)) (by simp);rw[e]at e';cases e';exact⟨_,by simp,r⟩
theorem B4.take{K:Qj}:∀{ds:bb}{xs:ba}(n:Nat),B4 K G xs ds->B4 K G (xs.take n) (ds.take n)
 |_,_,0,_=>by simp[f7]
 |[],_,n+1,h=>by simp only[B4]at h;subst h;simp[f7]
 |d::ds,_,n+1,h=>by
  simp only[B4]at h;obtain⟨x,r,e,q,t⟩:=h;subst e;exact f6 q (t.take n)
theorem B4.drop{K:Qj}:∀{ds:bb}{xs:ba}(n:Nat),B4 K G xs ds->B4 K G (xs.drop n) (ds.drop n)
 |_,_,0,h=>h
 |[],_,n+1,h=>by simp only[B4]at h;subst h;simp[f7]
 |d::ds,_,n+1,h=>by
  simp only[B4]at h;obtain⟨x,r,e,q,t⟩:=h;subst e;exact t.drop n
theorem B4.reverse{K:Qj}:∀{ds:bb}{xs:ba},B4 K G xs ds->B4 K G xs.reverse ds.reverse
 |[],_,h=>by simp only[B4]at h;subst h;simp[f7]
 |d::ds,_,h=>by
  simp only[B4]at h;obtain⟨x,r,e,q,t⟩:=h;subst e;simp only[Rg];exact t.reverse.append (f6 q f7)
theorem B4.set{K:Qj}:∀{ds:bb}{xs:ba}{x:V}{d:D}(n:Nat),B4 K G xs ds->b0 K G x d->B4 K G (xs.set n x) (ds.set n d)
 |[],_,_,_,n,h,_=>by simp only[B4]at h;subst h;simp[f7]
 |d::ds,_,_,_,0,h,q'=>by
  simp only[B4]at h;obtain⟨x,r,e,q,t⟩:=h;subst e;exact f6 q' t
 |d::ds,_,_,_,n+1,h,q'=>by
  simp only[B4]at h;obtain⟨x,r,e,q,t⟩:=h;subst e;exact f6 q (t.set n q')
inductive Mu where
 |l (ds:List D)|d (ks:OO) (vs:List D)|x (ks:List KX) (vs:List D)
 deriving Inhabited
variable{m:Mu}
inductive W where
 |nil|dat (d:D)|own (ds:List D)|par (ds:List D)|ownD (ks:OO) (vs:List D)|parD (ks:OO) (vs:List D)|ownX (ks:List KX) (vs:List D)|parX (ks:List KX) (vs:List D)
 deriving Inhabited
abbrev bf:=List W
variable{w w2:W}{ws':bf}
abbrev a9:=bf
abbrev OX:=D->a9->Option a9
variable{env env' a8:a9}
def W.mut:W->Option Mu
 |.own ds=>some (.l ds)
 |.par ds=>some (.l ds)
 |.ownD ks vs=>some (.d ks vs)
 |.parD ks vs=>some (.d ks vs)
 |.ownX ks vs=>some (.x ks vs)
 |.parX ks vs=>some (.x ks vs)
 |_=>none
def W.mutX:W->Option (List KX×bb)
 |.ownX ks vs=>some (ks,vs)
 |.parX ks vs=>some (ks,vs)
 |_=>none
def W.mutL:W->Option bb
 |.own ds=>some ds
 |.par ds=>some ds
 |_=>none
def W.put:W->bb->W
 |.own _,ds=>.own ds
 |.par _,ds=>.par ds
 |w,_=>w
def W.isOwn:W->Bool
 |.own _=>true
 |.ownD _ _=>true
 |.ownX _ _=>true
 |_=>false
def W.isPar:W->Bool
 |.par _=>true
 |.parD _ _=>true
 |.parX _ _=>true
 |_=>false
def W.putM(w:W):Mu->W
 |.l ds=>if w.isOwn then .own ds else if w.isPar then .par ds else w
 |.d ks vs=>if w.isOwn then .ownD ks vs else if w.isPar then .parD ks vs else w
 |.x ks vs=>if w.isOwn then .ownX ks vs else if w.isPar then .parX ks vs else w
theorem W.mutL_of(h:w.mutL=some ds):w.mut=some (.l ds):=by cases w<;>first|(cases h;rfl)|cases h
theorem W.mutX_of(h:w.mutX=some (ks,vs)):w.mut=some (.x ks vs):=by cases w<;>first|(cases h;rfl)|cases h
theorem W.put_eq(h:w.mutL=some ds)(ds':bb):w.put ds'=w.putM (.l ds'):=by cases w<;>first|rfl|cases h
theorem W.putM_mut(h:w.mut=some m)(m':Mu):(w.putM m').mut=some m':=by
 cases w<;>cases m'<;>first|rfl|cases h
theorem W.putM_own(h:w.mut=some m)(m':Mu):(w.putM m').isOwn=w.isOwn:=by
 cases w<;>cases m'<;>first|rfl|cases h
theorem W.putM_par(h:w.mut=some m)(m':Mu):(w.putM m').isPar=w.isPar:=by
 cases w<;>cases m'<;>first|rfl|cases h
def d9(σ:St)(env:a9)(a:ah):Prop:=∃(i:Nat) (w:W) (m:Mu),env[i]? =some w/\w.mut=some m/\σ[i]? =some (some (V.ref a))
theorem oR(h:w.isOwn=true):∃m,w.mut=some m:=by cases w<;>first|exact⟨_,rfl⟩|cases h
theorem n8(h:w.isPar=true):∃m,w.mut=some m:=by cases w<;>first|exact⟨_,rfl⟩|cases h
def NT(o:HO):Prop:=∀ps,o≠.tbl ps
theorem nC:NT (.lst xs):=fun _ z=>by cases z
theorem rW:NT (.tup xs):=fun _ z=>by cases z
def oG(q:Str):Str:=(q++".<locals>.")++"<lambda>"
def rX(K:Qj)(P:ah)(q:Str):Bool:=K.all fun p=>match p.2 with
 |⟨.type "code",_,.fields vs,_⟩=>(match (vs[11]? :Option aj)with|some (.ref P')=>P' !=P|_=>true)||(match vs.toList with|_::.str n _::_=>n==q|_=>false)
 |_=>true
def p7(K:Qj)(P a:ah):HO:=.ext fun h=>∀q,rX K P q=true->h.CodeRec (.ref a) (oG q)
def nD(K:Qj)(H:Hp):Prop:=∀P ps,H P=some (.tbl ps)->TriplesOk ps.toList/\∀pos v,codeAmong pos ps.toList=some v->∃a,v=.ref a/\H a=some (p7 K P a)
theorem nD.mono{K:Qj}(t:nD K H)(h1:∀P ps,H' P=some (.tbl ps)->H P=some (.tbl ps))(h2:∀a φ,H a=some (.ext φ)->H' a=some (.ext φ)):nD K H':=fun P ps e=>by
 obtain⟨q1,q2⟩:=t P ps (h1 P ps e);refine⟨q1,fun pos v e=>?_⟩;obtain⟨a,e1,e2⟩:=q2 pos v e;exact⟨a,e1,h2 _ _ e2⟩
theorem nD.upd{K:Qj}(t:nD K H)(no:NT o)(h:∀φ,H a≠some (.ext φ)):nD K (upd H a o):=
 t.mono (fun P ps e=>by
  by_cases hb:P=a
  ·subst hb;rw[D7]at e;cases e;exact absurd rfl (no ps)
  ·rw[C6 hb]at e;exact e) fun b φ e=>by
  by_cases hb:b=a
  ·subst hb;exact absurd e (h φ)
  ·rw[C6 hb];exact e
def nU(K:Qj)(G:Hp)(o:HO):Mu->Prop
 |.l ds=>∃xs,o=.lst xs/\B4 K G xs ds
 |.d ks vs=>∃kvs,o=.dT (Ez K) kvs/\kvs.map (·.1)=ks.map K2/\B4 K G (kvs.map (·.2)) vs
 |.x ks vs=>∃es ep xs,o=.dX es ep/\oD K G es.toList ks xs/\T4 ks/\B4 K G xs vs
theorem nU.mono{K:Qj}(l:Le G G'):∀{m:Mu},nU K G o m->nU K G' o m
 |.l ds,⟨xs,e,r⟩=>⟨xs,e,B4.mono l ds r⟩
 |.d ks vs,⟨kvs,e,k,r⟩=>⟨kvs,e,k,B4.mono l vs r⟩
 |.x ks vs,⟨es,ep,xs,e,k,o,r⟩=>⟨es,ep,xs,e,k.mono l,o,B4.mono l vs r⟩
theorem nU.nt{K:Qj}:∀{m:Mu},nU K G o m->NT o
 |.l ds,⟨xs,e,r⟩=>by subst e;exact nC
 |.d ks vs,⟨kvs,e,k,r⟩=>by subst e;exact fun _ z=>by cases z
 |.x ks vs,⟨es,ep,xs,e,k,r⟩=>by subst e;exact fun _ z=>by cases z
theorem nU.ne{K:Qj}(r:nU K G o m):∀φ,o≠.ext φ:=by
 cases m with
 |l ds=>obtain⟨xs,e,_⟩:=r;subst e;exact fun _ z=>by cases z
 |d ks vs=>obtain⟨xs,e,_⟩:=r;subst e;exact fun _ z=>by cases z
 |x ks vs=>obtain⟨es,ep,xs,e,_⟩:=r;subst e;exact fun _ z=>by cases z
structure Rel(K:Qj)(B:OE)(G:Hp)(σ:St)(env:a9)(H:Hp):Prop where
 sub:Le G H
 len:env.length=σ.length
 dat:∀(i:Nat) (d:D),env[i]? =some (.dat d)->∃v,σ[i]? =some (some v)/\b0 K G v d
 own:∀(i:Nat) (w:W) (m:Mu),env[i]? =some w->w.mut=some m->∃a o,σ[i]? =some (some (V.ref a))/\H a=some o/\nU K G o m/\G a=none
 inj:∀(i j:Nat) (w w':W) (ds es:Mu) (a:ah),env[i]? =some w->w.mut=some ds->env[j]? =some w'->w'.mut=some es->σ[i]? =some (some (V.ref a))->σ[j]? =some (some (V.ref a))->i=j
 fresh:∀(i:Nat) (w:W) (a:ah),env[i]? =some w->w.isOwn=true->σ[i]? =some (some (V.ref a))-> ¬ B a
 old:∀b,B b->H b≠none
 tabs:nD K H
 gnt:∀b o,G b=some o->NT o
structure Ev(K:Qj)(B:OE)(G:Hp)(σ:St)(env:a9)(H:Hp)(G':Hp)(σ':St)(env':a9)(H':Hp):Prop where
 rel:Rel K B G' σ' env' H'
 same:Le G G'
 keep:∀b o,¬ d9 σ env b->NT o->H b=some o->H' b=some o
 live:∀b,H b≠none->H' b≠none
 stay:∀b,H b≠none-> ¬ d9 σ env b->G b=none->G' b=none
 sub:∀a,d9 σ' env' a->d9 σ env a\/H a=none
 par:∀(i:Nat) (w:W),env'[i]? =some w->w.isPar=true->σ'[i]? =σ[i]? /\ ∃w0,env[i]? =some w0/\w0.isPar=true
 slen:σ'.length=σ.length
theorem Ev.refl{K:Qj}(r:Rel K B G σ env H):Ev K B G σ env H G σ env H:=
 ⟨r,Le.refl,fun _ _ _ _ e=>e,fun _ e=>e,fun _ _ _ e=>e,fun _ e=>.inl e,fun _ w e h=>⟨rfl,w,e,h⟩,rfl⟩
theorem Ev.trans{K:Qj}{σ2:St}{g0:a9}(a:Ev K B G σ env H G1 σ1 a8 H1)(b:Ev K B G1 σ1 a8 H1 G2 σ2 g0 H2):Ev K B G σ env H G2 σ2 g0 H2 where
 rel:=b.rel
 same:=a.same.trans b.same
 keep:=fun x o n t e=>b.keep x o (fun z=>(a.sub x z).elim n fun q=>by rw[e]at q;cases q) t (a.keep x o n t e)
 live:=fun x e=>b.live x (a.live x e)
 stay:=fun x e n g=>b.stay x (a.live x e) (fun z=>(a.sub x z).elim n fun q=>e q) (a.stay x e n g)
 sub:=fun x z=>(b.sub x z).elim (fun q=>a.sub x q) fun q=>.inr (by
  cases h:H x with
  |none=>rfl
  |some o=>exact absurd q (a.live x (by rw[h];simp)))
 par:=fun i w e h=>by
  obtain⟨h1,d1,e1,p1⟩:=b.par i w e h;obtain⟨h2,d2,e2,p2⟩:=a.par i d1 e1 p1;exact⟨h1.trans h2,d2,e2,p2⟩
 slen:=b.slen.trans a.slen
theorem Rel.ownL{K:Qj}(r:Rel K B G σ env H)(i:Nat)(w:W)(ds:bb)(e1:env[i]? =some w)(e2:w.mutL=some ds):∃a xs,σ[i]? =some (some (V.ref a))/\H a=some (.lst xs)/\B4 K G xs ds/\G a=none:=by
 obtain⟨a,o,h1,h2,⟨xs,rfl,h3⟩,h4⟩:=r.own i w (.l ds) e1 (W.mutL_of e2);exact⟨a,xs,h1,h2,h3,h4⟩
theorem Rel.ownX{K:Qj}(r:Rel K B G σ env H)(i:Nat)(w:W)(ks:List KX)(vs:bb)(e1:env[i]? =some w)(e2:w.mutX=some (ks,vs)):∃a es ep xs,σ[i]? =some (some (V.ref a))/\H a=some (.dX es ep)/\oD K G es.toList ks xs/\T4 ks/\B4 K G xs vs/\G a=none:=by
 obtain⟨a,o,h1,h2,⟨es,ep,xs,rfl,h3,h4,h5⟩,h6⟩:=r.own i w (.x ks vs) e1 (W.mutX_of e2);exact⟨a,es,ep,xs,h1,h2,h3,h4,h5,h6⟩
abbrev Mo(α:Type):=a9->Option (α×a9)
variable{ma mb mc:Mo D}{ms:Mo bb}
section
variable(K:Qj)(B:OE)
def TD(m:Mo D):TE:=fun σ H Q=>∃G env d env',Rel K B G σ env H/\m env=some (d,env')/\∀v G' H',Ev K B G σ env H G' σ env' H'->b0 K G' v d->Q v H'
def TL(m:Mo bb):TE:=fun σ H Q=>∃G env ds env',Rel K B G σ env H/\m env=some (ds,env')/\∀a xs G' H',Ev K B G σ env H G' σ env' H'->H a=none-> ¬ d9 σ env' a->H' a=some (.lst xs)->G' a=none->B4 K G' xs ds->Q (.ref a) H'
def pM(m:Mo Bool):TT:=fun σ H Q=>∃G env b env',Rel K B G σ env H/\m env=some (b,env')/\∀G' H',Ev K B G σ env H G' σ env' H'->Q b H'
inductive Ar where
 |d (d:D)|sl (i:Nat)
 deriving Inhabited
def j4(G:Hp)(σ:St):ba->List Ar->Prop
 |xs,[]=>xs=[]
 |xs,.d d::as=>∃x r,xs=x::r/\b0 K G x d/\j4 G σ r as
 |xs,.sl i::as=>∃x r,xs=x::r/\σ[i]? =some (some x)/\j4 G σ r as
def x6(m:Mo (List Ar)):TA:=fun σ H Q=>∃G env as env',Rel K B G σ env H/\m env=some (as,env')/\∀vs G' H',Ev K B G σ env H G' σ env' H'->j4 K G' σ vs as->Q vs H'
def wU(m:Mo bb):TA:=fun σ H Q=>∃G env ds env',Rel K B G σ env H/\m env=some (ds,env')/\∀vs G' H',Ev K B G σ env H G' σ env' H'->B4 K G' vs ds->Q vs H'
inductive Fl where
 |nx|bk|ct|ret (d:D)|retL (ds:List D)
def Post(G:Hp)(σ:St)(env:a9)(H:Hp)(env':a9)(D:Ends):Fl->Prop
 |.nx=>∀σ' G' H',Ev K B G σ env H G' σ' env' H'->D.nx σ' H'
 |.bk=>∀σ' G' H',Ev K B G σ env H G' σ' env' H'->D.bk σ' H'
 |.ct=>∀σ' G' H',Ev K B G σ env H G' σ' env' H'->D.ct σ' H'
 |.ret d=>∀v σ' G' H',Ev K B G σ env H G' σ' env' H'->b0 K G' v d->D.rt v H'
 |.retL ds=>∀a xs σ' G' H',Ev K B G σ env H G' σ' env' H'-> ¬ B a-> ¬ d9 σ' env' a->H' a=some (.lst xs)->G' a=none->B4 K G' xs ds->D.rt (.ref a) H'
def x8(m:Mo Fl):TS:=fun D σ H=>∃G env fl env',Rel K B G σ env H/\m env=some (fl,env')/\Post K B G σ env H env' D fl
theorem Post.after{D:Ends}{fl:Fl}(k:Post K B G σ env H env' D fl)(ev:Ev K B G σ env H G1 σ1 a8 H1):Post K B G1 σ1 a8 H1 env' D fl:=by
 cases fl with
 |nx=>exact fun σ2 G2 H2 f9=>k σ2 G2 H2 (ev.trans f9)
 |bk=>exact fun σ2 G2 H2 f9=>k σ2 G2 H2 (ev.trans f9)
 |ct=>exact fun σ2 G2 H2 f9=>k σ2 G2 H2 (ev.trans f9)
 |ret d=>exact fun v σ2 G2 H2 f9=>k v σ2 G2 H2 (ev.trans f9)
 |retL d=>exact fun a xs σ2 G2 H2 f9=>k a xs σ2 G2 H2 (ev.trans f9)
end
variable{as:Mo (List Ar)}
abbrev ED(X:Cx)(B:OE)(e:Expr)(m:Mo D):Prop:=PE X e (TD X.K B m)
abbrev EL(X:Cx)(B:OE)(e:Expr)(m:Mo bb):Prop:=PE X e (TL X.K B m)
abbrev ET(X:Cx)(B:OE)(e:Expr)(m:Mo Bool):Prop:=PT X e (pM X.K B m)
abbrev sO(X:Cx)(B:OE)(es:au)(m:Mo (List Ar)):Prop:=PA X es (x6 X.K B m)
abbrev pN(X:Cx)(B:OE)(es:au)(m:Mo bb):Prop:=PA X es (wU X.K B m)
abbrev ES(X:Cx)(B:OE)(s:Stmt)(m:Mo Fl):Prop:=PS X s (x8 X.K B m)
abbrev sP(X:Cx)(B:OE)(s:List Stmt)(m:Mo Fl):Prop:=o8 X s (x8 X.K B m)
theorem c9{t t':TE}(h:PE X e t)(i:∀σ H Q,t' σ H Q->t σ H Q):PE X e t':=fun pins s σ H Q I q=>h pins s σ H Q I (i σ H Q q)
theorem pO{t:TT}(h:PT X e t)(i:∀σ H Q,t' σ H Q->t σ H Q):PT X e t':=fun pins s σ H Q I q=>h pins s σ H Q I (i σ H Q q)
theorem pw_imp{t:TT}(h:PW X e t)(i:∀σ H Q,t' σ H Q->t σ H Q):PW X e t':=fun wh pins s σ H Q I q=>h wh pins s σ H Q I (i σ H Q q)
theorem nV{e:au}{t t':TA}(h:PA X e t)(i:∀σ H Q,t' σ H Q->t σ H Q):PA X e t':=fun pos pins s σ H Q I q=>h pos pins s σ H Q I (i σ H Q q)
theorem j8{e:Stmt}{t t':TS}(h:PS X e t)(i:∀D σ H,t' D σ H->t D σ H):PS X e t':=fun pins s σ H D I q=>h pins s σ H D I (i D σ H q)
theorem pP{e:List Stmt}{t t':TS}(h:o8 X e t)(i:∀D σ H,t' D σ H->t D σ H):o8 X e t':=fun pins s σ H D I q=>h pins s σ H D I (i D σ H q)
section
variable{K:Qj}
theorem Rel.gnone(r:Rel K B G σ env H)(h:H p=none):G p=none:=by
 cases e:G p with
 |none=>rfl
 |some o=>rw[r.sub p o e]at h;cases h
theorem Rel.unowned(r:Rel K B G σ env H)(h:H p=none):¬ d9 σ env p:=by
 rintro⟨i,w,ds,e1,e2,e3⟩;obtain⟨a,xs,e4,e5,_⟩:=r.own i w ds e1 e2;rw[e3]at e4;cases e4;rw[h]at e5;cases e5
theorem FA(h:∀b o,G b=some o->NT o)(no:NT o):∀b u,upd G p o b=some u->NT u:=fun b u e=>by
 by_cases hb:b=p
 ·subst hb;rw[D7]at e;cases e;exact no
 ·rw[C6 hb]at e;exact h b u e
theorem Rel.alloc(r:Rel K B G σ env H)(h:H p=none)(no:NT o:=by intro _ z;cases z):Ev K B G σ env H (upd G p o) σ env (upd H p o):=by
 have gp:=r.gnone h;refine⟨⟨fun b u e=>?_,r.len,fun i d e=>?_,fun i w ds e1 e2=>?_,r.inj,r.fresh,fun b e=>?_,r.tabs.upd no (fun φ z=>by rw[h]at z;cases z),FA r.gnt no⟩,Le.upd gp,fun b u _ _ e=>?_,fun b e=>?_,fun b e _ g=>?_,fun a z=>.inl z,fun i w e hp=>⟨rfl,w,e,hp⟩,rfl⟩
 ·by_cases hb:b=p
  ·subst hb;rw[D7]at e ⊢;exact e
  ·rw[C6 hb]at e ⊢;exact r.sub b u e
 ·obtain⟨v,e1,e2⟩:=r.dat i d e;exact⟨v,e1,b0.mono (Le.upd gp) d e2⟩
 ·obtain⟨a,xs,e3,e4,e5,e6⟩:=r.own i w ds e1 e2;have ha:a≠p:=L6 e4 h;exact⟨a,xs,e3,by rw[C6 ha];exact e4,e5.mono (Le.upd gp),by rw[C6 ha];exact e6⟩
 ·by_cases hb:b=p
  ·subst hb;rw[D7];simp
  ·rw[C6 hb];exact r.old b e
 ·rw[C6 (L6 e h)];exact e
 ·by_cases hb:b=p
  ·subst hb;rw[D7];simp
  ·rw[C6 hb];exact e
 ·have hb:b≠p:=fun z=>e (z ▸ h);rw[C6 hb];exact g
theorem Rel.allocM(r:Rel K B G σ env H)(h:H p=none)(no:NT o:=by intro _ z;cases z):Ev K B G σ env H G σ env (upd H p o):=by
 refine⟨⟨fun b u e=>?_,r.len,r.dat,fun i w ds e1 e2=>?_,r.inj,r.fresh,fun b e=>?_,r.tabs.upd no (fun φ z=>by rw[h]at z;cases z),r.gnt⟩,Le.refl,fun b u _ _ e=>?_,fun b e=>?_,fun b e _ g=>g,fun a z=>.inl z,fun i w e hp=>⟨rfl,w,e,hp⟩,rfl⟩
 ·rw[C6 (L6 (r.sub b u e) h)];exact r.sub b u e
 ·obtain⟨a,xs,e3,e4,e5,e6⟩:=r.own i w ds e1 e2;exact⟨a,xs,e3,by rw[C6 (L6 e4 h)];exact e4,e5,e6⟩
 ·by_cases hb:b=p
  ·subst hb;rw[D7];simp
  ·rw[C6 hb];exact r.old b e
 ·rw[C6 (L6 e h)];exact e
 ·by_cases hb:b=p
  ·subst hb;rw[D7];simp
  ·rw[C6 hb];exact e
theorem Ev.frz(v:Ev K B G σ env H G' σ' env' H')(ha:H a=none)(no:¬ d9 σ' env' a)(h':H' a=some (.lst xs))(g':G' a=none):
  Ev K B G σ env H (upd G' a (.lst xs)) σ' env' H':=by
 refine⟨⟨fun b u e=>?_,v.rel.len,fun i d e=>?_,fun i w ds e1 e2=>?_,v.rel.inj,v.rel.fresh,v.rel.old,v.rel.tabs,FA v.rel.gnt nC⟩,v.same.trans (Le.upd g'),v.keep,v.live,fun b e n g=>?_,v.sub,v.par,v.slen⟩
 ·by_cases hb:b=a
  ·subst hb;rw[D7]at e;cases e;exact h'
  ·rw[C6 hb]at e;exact v.rel.sub b u e
 ·obtain⟨x,e1,e2⟩:=v.rel.dat i d e;exact⟨x,e1,b0.mono (Le.upd g') d e2⟩
 ·obtain⟨p,ys,e3,e4,e5,e6⟩:=v.rel.own i w ds e1 e2;have hp:p≠a:=fun z=>no ⟨i,w,ds,e1,e2,by rw[←z];exact e3⟩;exact⟨p,ys,e3,e4,e5.mono (Le.upd g'),by rw[C6 hp];exact e6⟩
 ·have hb:b≠a:=fun z=>e (z ▸ ha);rw[C6 hb];exact v.stay b e n g
theorem HA(h:G a=some (.lst xs))(r:B4 K G xs ds):b0 K G (.ref a) (.lst ds):=by
 simp only[b0];exact⟨a,xs,rfl,.inl (.inl h),r⟩
theorem Aj(h:G a=some (.tup xs))(r:B4 K G xs ds):b0 K G (.ref a) (.tup ds):=by
 simp only[b0];exact⟨a,xs,rfl,.inl h,r⟩
theorem Rel.frzSlotM{w0:W}(r:Rel K B G σ env H)(e:env[i]? =some w0)(em:w0.mut=some m)(hrep:∀G1 a o,G1 a=some o->nU K G1 o m->b0 K G1 (.ref a) d):
  ∃a o,σ[i]? =some (some (.ref a))/\b0 K (upd G a o) (.ref a) d/\Ev K B G σ env H (upd G a o) σ (env.set i (.dat d)) H:=by
 obtain⟨a,o,e1,e2,e3,e4⟩:=r.own i _ m e em;have rp:b0 K (upd G a o) (.ref a) d:=hrep _ a o D7 (e3.mono (Le.upd e4));have ow:d9 σ env a:=⟨i,_,m,e,em,e1⟩;have hi:i<env.length:=(Qc.mp e).1;have ne:∀j w es,(env.set i (.dat d))[j]? =some w->w.mut=some es->j≠i/\env[j]? =some w:=fun j w es q1 q2=>by
  by_cases hj:j=i
  ·subst hj;rw[Ym hi]at q1;cases q1;cases q2
  ·rw[Qs (Za hj)]at q1;exact⟨hj,q1⟩
 refine⟨a,o,e1,rp,⟨⟨fun b u q=>?_,by rw[Yg];exact r.len,fun j d q=>?_,fun j w es q1 q2=>?_,fun j k w w' es fs b q1 q2 q3 q4 q5 q6=>?_,fun j w b q1 qo q2=>?_,r.old,r.tabs,FA r.gnt e3.nt⟩,Le.upd e4,fun b o _ _ q=>q,fun b q=>q,fun b q n g=>?_,fun b z=>?_,fun j w q qp=>?_,rfl⟩⟩
 ·by_cases hb:b=a
  ·subst hb;rw[D7]at q;cases q;exact e2
  ·rw[C6 hb]at q;exact r.sub b u q
 ·by_cases hj:j=i
  ·subst hj;rw[Ym hi]at q;cases q;exact⟨_,e1,rp⟩
  ·rw[Qs (Za hj)]at q;obtain⟨x,q1,q2⟩:=r.dat j d q;exact⟨x,q1,b0.mono (Le.upd e4) d q2⟩
 ·obtain⟨hj,q⟩:=ne j w es q1 q2;obtain⟨p,ys,e3',e4',e5',e6'⟩:=r.own j w es q q2;have hp:p≠a:=fun z=>hj (r.inj j i w _ es m a q q2 e em (by rw[e3',z]) e1);exact⟨p,ys,e3',e4',e5'.mono (Le.upd e4),by rw[C6 hp];exact e6'⟩
 ·exact r.inj j k w w' es fs b (ne j w es q1 q2).2 q2 (ne k w' fs q3 q4).2 q4 q5 q6
 ·obtain⟨es,hm⟩:=oR qo;exact r.fresh j w b (ne j _ es q1 hm).2 qo q2
 ·have hb:b≠a:=fun z=>n (z ▸ ow);rw[C6 hb];exact g
 ·obtain⟨j,w,es,q1,q2,q3⟩:=z;exact .inl ⟨j,w,es,(ne j w es q1 q2).2,q2,q3⟩
 ·obtain⟨es,hm⟩:=n8 qp;exact⟨rfl,w,(ne j _ es q hm).2,qp⟩
theorem Rel.frzSlot(r:Rel K B G σ env H)(e:env[i]? =some (.own ds)):
  ∃a o,σ[i]? =some (some (.ref a))/\b0 K (upd G a o) (.ref a) (.lst ds)/\Ev K B G σ env H (upd G a o) σ (env.set i (.dat (.lst ds))) H:=
 r.frzSlotM (m:=.l ds) e rfl fun G1 a o h ⟨xs,z,q⟩=>by subst z;exact HA h q
theorem Rel.frzSlotD{ks:OO}(r:Rel K B G σ env H)(e:env[i]? =some (.ownD ks vs)):
  ∃a o,σ[i]? =some (some (.ref a))/\b0 K (upd G a o) (.ref a) (.dct ks vs)/\Ev K B G σ env H (upd G a o) σ (env.set i (.dat (.dct ks vs))) H:=
 r.frzSlotM (m:=.d ks vs) e rfl fun G1 a o h ⟨kvs,z,q1,q2⟩=>by subst z;simp only[b0];exact⟨a,kvs,rfl,h,q1,q2⟩
theorem Rel.frzSlotX(r:Rel K B G σ env H)(e:env[i]? =some (.ownX ks vs)):
  ∃a o,σ[i]? =some (some (.ref a))/\b0 K (upd G a o) (.ref a) (.dcx ks vs)/\Ev K B G σ env H (upd G a o) σ (env.set i (.dat (.dcx ks vs))) H:=
 r.frzSlotM (m:=.x ks vs) e rfl fun G1 a o h ⟨es,ep,xs,z,q1,q2,q3⟩=>by subst z;simp only[b0];exact⟨a,es,ep,xs,rfl,h,q1,q2,q3⟩
end
def A0(i:Nat):Mo D:=fun env=>match env[i]? with
 |some (.dat d)=>some (d,env)
 |some (.own ds)=>some (.lst ds,env.set i (.dat (.lst ds)))
 |some (.ownD ks vs)=>some (.dct ks vs,env.set i (.dat (.dct ks vs)))
 |some (.ownX ks vs)=>some (.dcx ks vs,env.set i (.dat (.dcx ks vs)))
 |_=>none
def mC(d:D):Mo D:=fun env=>some (d,env)
theorem B3(h:PE X (.Name x pos) (T0 i)):ED X B (.Name x pos) (A0 i):=by
 refine c9 h fun σ H Q q=>?_;obtain⟨G,env,d,env',r,e,k⟩:=q;unfold A0 at e;split at e
 ·rename_i d' e1;cases e;obtain⟨v,e2,e3⟩:=r.dat i _ e1;exact⟨v,e2,k v G H (.refl r) e3⟩
 ·rename_i ds e1;cases e;obtain⟨a,xs,e2,e3,e4⟩:=r.frzSlot e1;exact⟨_,e2,k _ _ H e4 e3⟩
 ·rename_i ks vs e1;cases e;obtain⟨a,xs,e2,e3,e4⟩:=r.frzSlotD e1;exact⟨_,e2,k _ _ H e4 e3⟩
 ·rename_i ks vs e1;cases e;obtain⟨a,xs,e2,e3,e4⟩:=r.frzSlotX e1;exact⟨_,e2,k _ _ H e4 e3⟩
 ·cases e
theorem DG(h:PE X e (tC v))(hd:∀K G,b0 K G v d):ED X B e (mC d):=by
 refine c9 h fun σ H Q q=>?_;obtain⟨G,env,d',env',r,e,k⟩:=q;cases e;exact k v G H (.refl r) (hd _ _)
theorem C4{i:Int}:ED X B (.Constant (.int i) j pos) (mC (.int i)):=DG KW fun _ _=>by simp only[b0]
theorem P8{b:Bool}:ED X B (.Constant (.bool b) j pos) (mC (.bl b)):=DG SU fun _ _=>by simp only[b0]
theorem DH:ED X B (.Constant .none j pos) (mC .non):=DG KY fun _ _=>by simp only[b0]
theorem DI(hx:x.length≤1000):ED X B (.Constant (.str x) j pos) (mC (.str x)):=DG SV fun _ _=>by simp only[b0];exact⟨trivial,Zy (By hx)⟩
theorem WD{i:Int}{t:Tok}(hg:Gl X x)(hm:X.mg x=some (.int i t))(hd:(x==("__debug__":Str))=false:=by decide):ED X B (.Name x pos) (mC (.int i)):=
 DG (KZ (v:=.int i) hg hm ⟨t,rfl⟩ hd) fun _ _=>by simp only[b0]
def B5(f:D->D->Option D)(ma mb:Mo D):Mo D:=fun env=>(ma env).bind fun p=>(mb p.2).bind fun q=>(f p.1 q.1).map fun d=>(d,q.2)
def nS(X:Cx)(B:OE)(r:R2)(f:D->D->Option D):Prop:=
 ∀(G:Hp) (σ:St) (env:a9) (H:Hp) (x y:V) (a b c:D) (Q:VK),Rel X.K B G σ env H->b0 X.K G x a->b0 X.K G y b->f a b=some c->
  (∀v G' H',Ev X.K B G σ env H G' σ env H'->b0 X.K G' v c->Q v H')->r x y H Q
theorem FB{r:R2}{f:D->D->Option D}(o:nS X B r f):∀σ H Q,TD X.K B (B5 f ma mb) σ H Q->u8 r (TD X.K B ma) (TD X.K B mb) σ H Q:=by
 rintro σ H Q ⟨G,env,d,env',rl,e,k⟩;unfold B5 at e;cases ea:ma env with
 |none=>rw[ea]at e;cases e
 |some p=>
  obtain⟨d1,a8⟩:=p;rw[ea]at e;simp only[Qk]at e;cases eb:mb a8 with
  |none=>rw[eb]at e;cases e
  |some p=>
   obtain⟨d2,g0⟩:=p;rw[eb]at e;simp only[Qk]at e;cases ef:f d1 d2 with
   |none=>rw[ef]at e;cases e
   |some c=>
    rw[ef]at e;cases e;refine⟨G,env,d1,a8,rl,ea,fun v1 G1 H1 v r1=>⟨G1,a8,d2,_,v.rel,eb,fun v2 G2 H2 v' r2=>?_⟩⟩;exact o G2 σ _ H2 v1 v2 d1 d2 _ Q v'.rel (b0.mono v'.same _ r1) r2 ef fun v3 G3 H3 v3' r3=>k v3 G3 H3 ((v.trans v').trans v3') r3
theorem E9{op:Operator}{r:R2}{f:D->D->Option D}{a:Expr}(ho:m5 X (binaryOp op) r)(o:nS X B r f)(ha:ED X B a ma)(hb:ED X B b mb):ED X B (.BinOp a op b pos) (B5 f ma mb):=
 c9 (Ki ho ha hb) (FB o)
theorem AQ{r:R2}{f:D->D->Option D}{a:Expr}(ho:m5 X (compareOp op) r)(o:nS X B r f)(ha:ED X B a ma)(hb:ED X B b mb)(hm:behindInMarks op b=false):ED X B (.Compare a [op] [b] pos) (B5 f ma mb):=
 c9 (UR ho ha hb hm) (FB o)
def fI(C:Int->Int->Bool)(g:Int->Int->D):D->D->Option D
 |.int i,.int j=>if C i j then some (g i j)else none
 |_,_=>none
theorem FC{C:Int->Int->Prop}{c:Int->Int->Bool}{g:Int->Int->V}(hc:∀i j,c i j=true->C i j)(hg:∀K G i j,b0 K G (g i j) (g' i j)):nS X B (rI C g) (fI c g'):=by
 intro G σ env H x y a b d Q rl ra rb e k;cases a<;>cases b<;>first|(exact absurd (show(none:Option D)=some d from e) (by simp))|skip
 rename_i i j;simp only[b0]at ra rb;subst ra rb;simp only[fI]at e;split at e
 ·rename_i h;cases e;exact⟨i,j,rfl,rfl,hc i j h,k _ G H (.refl rl) (hg _ _ i j)⟩
 ·cases e
theorem CA{g:Int->Int->V}(hg:∀K G i j,b0 K G (g i j) (g' i j)):nS X B (pZ g) (fI (fun _ _=>true) g'):=by
 intro G σ env H x y a b d Q rl ra rb e k;cases a<;>cases b<;>first|(exact absurd (show(none:Option D)=some d from e) (by simp))|skip
 rename_i i j;simp only[b0]at ra rb;subst ra rb;simp only[fI,Yw]at e;cases e;exact⟨i,j,rfl,rfl,k _ G H (.refl rl) (hg _ _ i j)⟩
theorem m5.or{f:aj->aj->Sem aj}{r:R2}(h:m5 X f r)(h':m5 X f r'):m5 X f (fun x y H Q=>r x y H Q\/r' x y H Q):=by
 intro pins s σ H x y v u Q I rx ry q;rcases q with q|q
 ·exact h pins s σ H x y v u Q I rx ry q
 ·exact h' pins s σ H x y v u Q I rx ry q
def wV(f g:D->D->Option D):D->D->Option D:=fun a b=>match f a b with
 |some c=>some c
 |none=>g a b
theorem nS.or{r:R2}{f g:D->D->Option D}(h:nS X B r f)(h':nS X B r' g):nS X B (fun x y H Q=>r x y H Q\/r' x y H Q) (wV f g):=by
 intro G σ env H x y a b d Q rl ra rb e k;unfold wV at e;split at e
 ·rename_i c ec;cases e;exact .inl (h G σ env H x y a b _ Q rl ra rb ec k)
 ·exact .inr (h' G σ env H x y a b d Q rl ra rb e k)
def BV(i j:Int):Bool:=(decide (-(2^64)<i)&&decide (i<2^64))||(decide (-(2^64)<j)&&decide (j<2^64))
def FD(_ j:Int):Bool:=decide (0<j)&&decide (j<1073741824)
def FE(i j:Int):Bool:=decide (0≤j)&&decide (j≤1000000)&&decide (i.natAbs<2^64)
def Y2:=fI (fun _ _=>true) fun i j=>.int (i-j)
def T8:=fI BV fun i j=>.int (i * j)
def DJ:=fI FD fun i j=>.int (i/j)
def W2:=fI (fun _ j=>decide (0<j)) fun i j=>.int (i%j)
def Y3:=fI FE fun i j=>.int (i^j.toNat)
def LP:=fI (fun _ _=>true) fun i j=>.int (i+j)
def vU:=fI (fun _ _=>true) fun i j=>.bl (decide (i<j))
def oZ:=fI (fun _ _=>true) fun i j=>.bl (decide (i≤j))
def rY:=fI (fun _ _=>true) fun i j=>.bl (decide (j<i))
def wW:=fI (fun _ _=>true) fun i j=>.bl (decide (j≤i))
theorem WE:nS X B (pZ fun i j=>.int (i-j)) Y2:=CA fun _ _ _ _=>by simp only[b0]
theorem WG:nS X B (pZ fun i j=>.int (i+j)) LP:=CA fun _ _ _ _=>by simp only[b0]
theorem WH:nS X B (rI DD fun i j=>.int (i * j)) T8:=FC (fun i j h=>by simpa [DD,BV]using h) fun _ _ _ _=>by simp only[b0]
theorem WI:nS X B (rI Gk fun i j=>.int (i/j)) DJ:=FC (fun i j h=>by simpa [Gk,FD]using h) fun _ _ _ _=>by simp only[b0]
theorem WJ:nS X B (rI (fun _ j=>0<j) fun i j=>.int (i%j)) W2:=FC (fun i j h=>by simpa using h) fun _ _ _ _=>by simp only[b0]
theorem WK:nS X B (rI Gm fun i j=>.int (i^j.toNat)) Y3:=FC (fun i j h=>by simpa [Gm,FE,and_assoc]using h) fun _ _ _ _=>by simp only[b0]
theorem WL:nS X B (pZ fun i j=>.bl (decide (i<j))) vU:=CA fun _ _ _ _=>by simp only[b0]
theorem WM:nS X B (pZ fun i j=>.bl (decide (i≤j))) oZ:=CA fun _ _ _ _=>by simp only[b0]
theorem WN:nS X B (pZ fun i j=>.bl (decide (j<i))) rY:=CA fun _ _ _ _=>by simp only[b0]
theorem WO:nS X B (pZ fun i j=>.bl (decide (j≤i))) wW:=CA fun _ _ _ _=>by simp only[b0]
section
variable{a:Expr}{ta tb:Mo Bool}
theorem TD.bind{K:Qj}{m:Mo D}(r:Rel K B G σ env H)(e:m env=some (d,env'))
  (k:∀v G' H',Ev K B G σ env H G' σ env' H'->b0 K G' v d->Q v H'):TD K B m σ H Q:=⟨G,env,d,env',r,e,k⟩
def zR:D×a9->Option (Bool×a9)
 |(.bl b,e)=>some (b,e)
 |_=>none
def mT(m:Mo D):Mo Bool:=fun env=>(m env).bind zR
theorem HC{t:TE}{m:Mo D}(i:∀σ H Q,TD X.K B m σ H Q->t σ H Q)(mono:True):∀σ H Q,pM X.K B (mT m) σ H Q->(fun σ H (Q:Bool->Hp->Prop)=>t σ H fun x H'=>∃k,x=.bl k/\Q k H') σ H Q:=by
 rintro σ H Q ⟨G,env,b,env',rl,e,k⟩;unfold mT at e;cases em:m env with
 |none=>rw[em]at e;cases e
 |some p=>
  obtain⟨d,a8⟩:=p;rw[em]at e;simp only[Qk]at e;cases d<;>first|(exact absurd (show(none:Option (Bool×a9))=some (b,env')from e) (by simp))|skip
  cases e;refine i σ H _ (.bind rl em fun v G' H' ev r=>?_);simp only[b0]at r;exact⟨_,r,k G' H' ev⟩
theorem P0(h:ED X B e ma)(he:∀whole,isTrue e X.env whole=(do let v←whole;standAt e.pos;holding [v] (truthy v)):=by intro _;rfl):ET X B e (mT ma):=
 pO (SW h he) (HC (fun _ _ _ q=>q) trivial)
theorem N6{r:R2}{f:D->D->Option D}(ho:m5 X (compareOp op) r)(o:nS X B r f)(ha:ED X B a ma)(hb:ED X B b mb)(hm:behindInMarks op b=false):ET X B (.Compare a [op] [b] pos) (mT (B5 f ma mb)):=
 pO (US ho ha hb hm) (HC (FB o) trivial)
def F5(t:Mo Bool):Mo Bool:=fun env=>(t env).map fun p=>(!p.1,p.2)
theorem N7(h:ET X B a ta):ET X B (.UnaryOp .Not a pos) (F5 ta):=by
 refine pO (Se h) ?_;rintro σ H Q ⟨G,env,b,env',rl,e,k⟩;unfold F5 at e;cases em:ta env with
 |none=>rw[em]at e;cases e
 |some p=>rw[em]at e;cases e;exact⟨G,env,_,_,rl,em,k⟩
def Z3(t u:Mo Bool):Mo Bool:=fun env=>(t env).bind fun p=>if p.1 then u p.2 else some (false,p.2)
def O5(t u:Mo Bool):Mo Bool:=fun env=>(t env).bind fun p=>if p.1 then some (true,p.2)else u p.2
theorem WQ:∀σ H Q,pM X.K B (Z3 ta tb) σ H Q->Ka (pM X.K B ta) (pM X.K B tb) σ H Q:=by
 rintro σ H Q ⟨G,env,b,env',rl,e,k⟩;unfold Z3 at e;cases em:ta env with
 |none=>rw[em]at e;cases e
 |some p=>
  obtain⟨b1,a8⟩:=p;rw[em]at e;simp only[Qk]at e;refine⟨G,env,b1,a8,rl,em,fun G1 H1 ev=>?_⟩;cases b1 with
  |true=>
   simp only[Yw]at e ⊢;exact⟨G1,a8,b,env',ev.rel,e,fun G2 H2 f9=>k G2 H2 (ev.trans f9)⟩
  |false=>
   simp only[Zq,Zo]at e ⊢;cases e;exact k G1 H1 ev
theorem WR:∀σ H Q,pM X.K B (O5 ta tb) σ H Q->xW (pM X.K B ta) (pM X.K B tb) σ H Q:=by
 rintro σ H Q ⟨G,env,b,env',rl,e,k⟩;unfold O5 at e;cases em:ta env with
 |none=>rw[em]at e;cases e
 |some p=>
  obtain⟨b1,a8⟩:=p;rw[em]at e;simp only[Qk]at e;refine⟨G,env,b1,a8,rl,em,fun G1 H1 ev=>?_⟩;cases b1 with
  |false=>
   simp only[Zq,Zo]at e ⊢;exact⟨G1,a8,b,env',ev.rel,e,fun G2 H2 f9=>k G2 H2 (ev.trans f9)⟩
  |true=>
   simp only[Yw]at e ⊢;cases e;exact k G1 H1 ev
abbrev EW(X:Cx)(B:OE)(e:Expr)(m:Mo Bool):Prop:=PW X e (pM X.K B m)
variable{rest:au}
theorem LQ(h:ET X B a ta):EW X B (.BoolOp .And [a] pos) ta:=SY h
theorem AR(h:ET X B a ta):EW X B (.BoolOp .Or [a] pos) ta:=SZ h
theorem LR(h:ET X B a ta)(h2:EW X B (.BoolOp .And (b::rest) pos) tb):EW X B (.BoolOp .And (a::b::rest) pos) (Z3 ta tb):=pw_imp (Sa h h2) WQ
theorem AS(h:ET X B a ta)(h2:EW X B (.BoolOp .Or (b::rest) pos) tb):EW X B (.BoolOp .Or (a::b::rest) pos) (O5 ta tb):=pw_imp (Sb h h2) WR
theorem Z4(h:EW X B e ta):ET X B e ta:=h.pt
def X0(m n:Mo D):Mo D:=fun env=>(m env).bind fun p=>match p.1 with
 |.bl true=>n p.2
 |.bl false=>some (.bl false,p.2)
 |_=>none
theorem BW{op}(h:ED X B a ma):ED X B (.BoolOp op [a] pos) ma:=Sh h
theorem AU(ha:ED X B a ma)(hb:ED X B (.BoolOp .And (b::rest) pos) mb):ED X B (.BoolOp .And (a::b::rest) pos) (X0 ma mb):=by
 refine c9 (Si ha hb) ?_;rintro σ H Q ⟨G,env,d,env',rl,e,k⟩;unfold X0 at e;cases em:ma env with
 |none=>rw[em]at e;cases e
 |some p=>
  obtain⟨d1,a8⟩:=p;rw[em]at e;simp only[Qk]at e;refine .bind rl em fun v G1 H1 ev r1=>?_;split at e
  ·simp only[b0]at r1;exact⟨true,r1,by simp only[Yw];exact .bind ev.rel e fun v2 G2 H2 f9 r2=>k v2 G2 H2 (ev.trans f9) r2⟩
  ·simp only[b0]at r1;cases e;exact⟨false,r1,by simp only[Zq,Zo];exact k _ G1 H1 ev (by simp only[b0])⟩
  ·cases e
def FF(m:Mo D):Mo D:=fun env=>(m env).bind fun p=>match p.1 with
 |.bl b=>some (.bl (!b),p.2)
 |_=>none
theorem HD(ha:ED X B a ma):ED X B (.UnaryOp .Not a pos) (FF ma):=by
 refine c9 (Sk ha) ?_;rintro σ H Q ⟨G,env,d,env',rl,e,k⟩;unfold FF at e;cases em:ma env with
 |none=>rw[em]at e;cases e
 |some p=>
  obtain⟨d1,a8⟩:=p;rw[em]at e;simp only[Qk]at e;refine .bind rl em fun v G1 H1 ev r1=>?_;split at e
  ·rename_i b1;simp only[b0]at r1;cases e;exact⟨b1,r1,k _ G1 H1 ev (by simp only[b0])⟩
  ·cases e
def Ak(m:Mo D):Mo D:=fun env=>(m env).bind fun p=>match p.1 with
 |.int b=>some (.int (-b),p.2)
 |_=>none
theorem DK(ha:ED X B a ma):ED X B (.UnaryOp .USub a pos) (Ak ma):=by
 refine c9 (Kj Kl ha) ?_;rintro σ H Q ⟨G,env,d,env',rl,e,k⟩;unfold Ak at e;cases em:ma env with
 |none=>rw[em]at e;cases e
 |some p=>
  obtain⟨d1,a8⟩:=p;rw[em]at e;simp only[Qk]at e;refine .bind rl em fun v G1 H1 ev r1=>?_;split at e
  ·rename_i b1;simp only[b0]at r1;cases e;exact⟨b1,r1,k _ G1 H1 ev (by simp only[b0])⟩
  ·cases e
def Q8(f g:D->D->Option D)(ma mb mc:Mo D):Mo D:=fun env=>(ma env).bind fun p=>(mb p.2).bind fun q=>match f p.1 q.1 with
 |some (.bl true)=>(mc q.2).bind fun r=>(g q.1 r.1).map fun d=>(d,r.2)
 |some (.bl false)=>some (.bl false,q.2)
 |_=>none
theorem LS{r:R2}{f g:D->D->Option D}(o:nS X B r f)(o':nS X B r' g):∀σ H Q,TD X.K B (Q8 f g ma mb mc) σ H Q->Gn r r' (TD X.K B ma) (TD X.K B mb) (TD X.K B mc) σ H Q:=by
 rintro σ H Q ⟨G,env,d,env',rl,e,k⟩;unfold Q8 at e;cases ea:ma env with
 |none=>rw[ea]at e;cases e
 |some p=>
  obtain⟨d1,a8⟩:=p;rw[ea]at e;simp only[Qk]at e;cases eb:mb a8 with
  |none=>rw[eb]at e;cases e
  |some p=>
   obtain⟨d2,g0⟩:=p;rw[eb]at e;simp only[Qk]at e;refine .bind rl ea fun v1 G1 H1 j3 r1=>.bind j3.rel eb fun v2 G2 H2 f9 r2=>?_;split at e
   ·rename_i ef;refine o G2 σ _ H2 v1 v2 d1 d2 _ _ f9.rel (b0.mono f9.same _ r1) r2 ef fun v3 G3 H3 pG r3=>?_;simp only[b0]at r3;refine⟨true,r3,?_⟩;simp only[Yw];cases ec:mc g0 with
    |none=>rw[ec]at e;cases e
    |some p=>
     obtain⟨d3,rD⟩:=p;rw[ec]at e;simp only[Qk]at e;cases eg:g d2 d3 with
     |none=>rw[eg]at e;cases e
     |some d4=>
      rw[eg]at e;cases e;refine .bind pG.rel ec fun v4 G4 H4 rJ r4=>?_;exact o' G4 σ _ H4 v2 v4 d2 d3 _ Q rJ.rel (b0.mono rJ.same _ (b0.mono pG.same _ r2)) r4 eg fun v5 G5 H5 rZ r5=>k v5 G5 H5 ((((j3.trans f9).trans pG).trans rJ).trans rZ) r5
   ·rename_i ef;cases e;refine o G2 σ _ H2 v1 v2 d1 d2 _ _ f9.rel (b0.mono f9.same _ r1) r2 ef fun v3 G3 H3 pG r3=>?_;simp only[b0]at r3;refine⟨false,r3,?_⟩;simp only[Zq,Zo];exact k _ G3 H3 ((j3.trans f9).trans pG) (by simp only[b0])
   ·cases e
theorem HE{r:R2}{f g:D->D->Option D}(ho:m5 X (compareOp op) r)(ho':m5 X (compareOp op') r')(o:nS X B r f)(o':nS X B r' g)(ha:ED X B a ma)(hb:ED X B b mb)(hc:ED X B c mc)
  (hm:lastMarks [op,op'] [b,c]=false:=by with_unfolding_all rfl):ED X B (.Compare a [op,op'] [b,c] pos) (Q8 f g ma mb mc):=c9 (UT ho ho' ha hb hc hm) (LS o o')
theorem DL{r:R2}{f g:D->D->Option D}(ho:m5 X (compareOp op) r)(ho':m5 X (compareOp op') r')(o:nS X B r f)(o':nS X B r' g)(ha:ED X B a ma)(hb:ED X B b mb)(hc:ED X B c mc)
  (hm:lastMarks [op,op'] [b,c]=false:=by with_unfolding_all rfl):ET X B (.Compare a [op,op'] [b,c] pos) (mT (Q8 f g ma mb mc)):=pO (UU ho ho' ha hb hc hm) (HC (LS o o') trivial)
def B6:Mo bb:=fun env=>some ([],env)
def B0(m:Mo D)(ms:Mo bb):Mo bb:=fun env=>(m env).bind fun p=>(ms p.2).map fun q=>(p.1::q.1,q.2)
theorem C3:pN X B [] B6:=by
 refine nV Q6 ?_;rintro σ H Q ⟨G,env,d,env',rl,e,k⟩;cases e;exact k [] G H (.refl rl) f7
theorem B7(ha:ED X B e ma)(hr:pN X B es ms)(hs:starEach (e::es) X.env=(false,eval e X.env)::starEach es X.env:=by rfl):pN X B (e::es) (B0 ma ms):=by
 refine nV (M3 ha hr hs) ?_;rintro σ H Q ⟨G,env,d,env',rl,e,k⟩;unfold B0 at e;cases ea:ma env with
 |none=>rw[ea]at e;cases e
 |some p=>
  obtain⟨d1,a8⟩:=p;rw[ea]at e;simp only[Qk]at e;cases eb:ms a8 with
  |none=>rw[eb]at e;cases e
  |some p=>
   obtain⟨d2,g0⟩:=p;rw[eb]at e;cases e;exact .bind rl ea fun v1 G1 H1 j3 r1=>⟨G1,a8,d2,_,j3.rel,eb,fun vs G2 H2 f9 r2=>k _ G2 H2 (j3.trans f9) (f6 (b0.mono f9.same _ r1) r2)⟩
def C5:Mo (List Ar):=fun env=>some ([],env)
def B8(m:Mo D)(ms:Mo (List Ar)):Mo (List Ar):=fun env=>(m env).bind fun p=>(ms p.2).map fun q=>(.d p.1::q.1,q.2)
def Q9(i:Nat)(ms:Mo (List Ar)):Mo (List Ar):=fun env=>((env[i]?).bind W.mut).bind fun _=>(ms env).map fun q=>(.sl i::q.1,q.2)
theorem E6:sO X B [] C5:=by
 refine nV Q6 ?_;rintro σ H Q ⟨G,env,d,env',rl,e,k⟩;cases e;exact k [] G H (.refl rl) (by simp only[j4])
theorem D5(ha:ED X B e ma)(hr:sO X B es as)(hs:starEach (e::es) X.env=(false,eval e X.env)::starEach es X.env:=by rfl):sO X B (e::es) (B8 ma as):=by
 refine nV (M3 ha hr hs) ?_;rintro σ H Q ⟨G,env,d,env',rl,e,k⟩;unfold B8 at e;cases ea:ma env with
 |none=>rw[ea]at e;cases e
 |some p=>
  obtain⟨d1,a8⟩:=p;rw[ea]at e;simp only[Qk]at e;cases eb:as a8 with
  |none=>rw[eb]at e;cases e
  |some p=>
   obtain⟨d2,g0⟩:=p;rw[eb]at e;cases e;exact .bind rl ea fun v1 G1 H1 j3 r1=>⟨G1,a8,d2,_,j3.rel,eb,fun vs G2 H2 f9 r2=>k _ G2 H2 (j3.trans f9) (by simp only[j4];exact⟨_,_,rfl,b0.mono f9.same _ r1,r2⟩)⟩
theorem Al{p:Pos}(ha:PE X (.Name x p) (T0 i))(hr:sO X B es as)(hs:starEach (.Name x p::es) X.env=(false,eval (.Name x p) X.env)::starEach es X.env:=by rfl):sO X B (.Name x p::es) (Q9 i as):=by
 refine nV (M3 ha hr hs) ?_;rintro σ H Q ⟨G,env,d,env',rl,e,k⟩;unfold Q9 at e;cases ew:env[i]? with
 |none=>rw[ew]at e;cases e
 |some w=>
  rw[ew]at e;simp only[Qk]at e;cases em:w.mut with
  |none=>rw[em]at e;cases e
  |some ds=>
   rw[em]at e;simp only[Qk]at e;cases eb:as env with
   |none=>rw[eb]at e;cases e
   |some p=>
    obtain⟨d2,g0⟩:=p;rw[eb]at e;cases e;obtain⟨a',xs,hv,_⟩:=rl.own i w ds ew em;exact⟨_,hv,G,env,d2,_,rl,eb,fun vs G2 H2 f9 r2=>k _ G2 H2 f9 (by simp only[j4];exact⟨_,_,rfl,hv,r2⟩)⟩
end
section
variable{a:Expr}
theorem B9{o:Option α}{f:α->Option β}{y:β}(h:o.bind f=some y):∃x,o=some x/\f x=some y:=by
 cases o with
 |none=>cases h
 |some x=>exact⟨x,rfl,h⟩
theorem D9{o:Option α}{f:α->β}{y:β}(h:o.map f=some y):∃x,o=some x/\f x=y:=by
 cases o with
 |none=>cases h
 |some x=>exact⟨x,rfl,Yl h⟩
def G9(ms:Mo bb):Mo D:=fun env=>(ms env).bind fun p=>if p.1.length≤1000 then some (.tup p.1,p.2)else none
theorem M6{x1:Nat}(h:pN X B es ms):ED X B (.Tuple es x1 pos) (G9 ms):=by
 refine c9 (Ks h) ?_;rintro σ H Q ⟨G,env,d,env',rl,e,k⟩;obtain⟨⟨ds,a8⟩,e1,e2⟩:=B9 e;dsimp only at e2;split at e2
 ·rename_i hl;cases e2;refine⟨G,env,ds,_,rl,e1,fun vs G1 H1 ev r1=>⟨by rw[r1.length];exact Zy (By hl),fun p hp=>?_⟩⟩;exact k _ _ _ (ev.trans (ev.rel.alloc hp)) (Aj D7 (B4.mono (Le.upd (ev.rel.gnone hp)) _ r1))
 ·cases e2
def K3(ms:Mo bb):Mo bb:=fun env=>(ms env).bind fun p=>if p.1.length≤1000 then some p else none
theorem DM{K:Qj}(ev:Ev K B G σ env H G1 σ a8 H1)(hp:H1 p=none)(r:B4 K G1 xs ds)
  (k:∀a xs G' H',Ev K B G σ env H G' σ a8 H'->H a=none-> ¬ d9 σ a8 a->H' a=some (.lst xs)->G' a=none->B4 K G' xs ds->Q (.ref a) H'):Q (.ref p) (upd H1 p (.lst xs)):=by
 refine k p xs G1 _ (ev.trans (ev.rel.allocM hp)) ?_ (ev.rel.unowned hp) D7 (ev.rel.gnone hp) r;cases h:H p with
 |none=>rfl
 |some o=>exact absurd hp (ev.live p (by rw[h];simp))
theorem O6(h:pN X B es ms):EL X B (.List es pos) (K3 ms):=by
 refine c9 (UZ h) ?_;rintro σ H Q ⟨G,env,d,env',rl,e,k⟩;obtain⟨⟨ds,a8⟩,e1,e2⟩:=B9 e;dsimp only at e2;split at e2
 ·rename_i hl;cases e2;exact⟨G,env,_,_,rl,e1,fun vs G1 H1 ev r1=>⟨by rw[r1.length];exact Zy (By hl),fun p hp=>DM ev hp r1 k⟩⟩
 ·cases e2
def mF(m:Mo bb):Mo D:=fun env=>(m env).map fun p=>(.lst p.1,p.2)
theorem J5(h:EL X B e ms):ED X B e (mF ms):=by
 refine c9 h ?_;rintro σ H Q ⟨G,env,d,env',rl,e,k⟩;obtain⟨⟨ds,a8⟩,e1,e2⟩:=D9 e;cases e2;exact⟨G,env,ds,_,rl,e1,fun a xs G' H' ev ha no h' g' r=>k (.ref a) _ H' (ev.frz ha no h' g') (HA D7 (B4.mono (Le.upd g') ds r))⟩
theorem HF{K:Qj}{k:Int}(r:B4 K G xs ds)(h:qE ds k=some d):∃x,qE xs k=some x/\b0 K G x d:=by
 unfold qE at h ⊢;rw[r.length];obtain⟨j,e1,e2⟩:=B9 h;rw[e1];exact r.get e2
def oI:D->D->Option D
 |.lst ds,.int k=>qE ds k
 |.tup ds,.int k=>qE ds k
 |_,_=>none
theorem WS:nS X B (xZ X.K) oI:=by
 intro G σ env H x y a b d Q rl ra rb e k;cases a<;>cases b<;>first|(exact absurd (show(none:Option D)=some d from e) (by simp))|skip
 ·simp only[b0]at ra rb;obtain⟨p,xs,e1,q,r⟩:=ra;subst e1 rb;obtain⟨v,e3,e4⟩:=HF r e;exact .inr (.inl ⟨p,xs,_,v,rfl,rfl,rl.sub.sqT q,e3,k v G H (.refl rl) e4⟩)
 ·simp only[b0]at ra rb;obtain⟨p,xs,e1,q,r⟩:=ra;subst e1 rb;obtain⟨v,e3,e4⟩:=HF r e;exact .inl ⟨p,xs,_,v,rfl,rfl,rl.sub.sqL q,e3,k v G H (.refl rl) e4⟩
theorem T9(ha:ED X B a ma)(hb:ED X B b mb)(hs:Eu b):ED X B (.Subscript a b pos) (B5 oI ma mb):=c9 (LB VL ha hb hs) (FB WS)
def P9(i:Nat)(mb:Mo D):Mo D:=fun env=>(mb env).bind fun p=>((p.2[i]?).bind W.mutL).bind fun ds=>(oI (.lst ds) p.1).map fun d=>(d,p.2)
theorem Am{p:Pos}(ha:PE X (.Name x p) (T0 i))(hb:ED X B b mb)(hs:Eu b)(hr:∀env d env' w ds,mb env=some (d,env')->env'[i]? =some w->w.mut=some ds->∃w0 ds0,env[i]? =some w0/\w0.mut=some ds0):
  ED X B (.Subscript (.Name x p) b pos) (P9 i mb):=by
 refine c9 (LB LG ha hb hs) ?_;rintro σ H Q ⟨G,env,d,env',rl,e,k⟩;obtain⟨⟨d1,a8⟩,e1,e2⟩:=B9 e;obtain⟨ds,e3,e4⟩:=B9 e2;obtain⟨w,e5,e6⟩:=B9 e3;obtain⟨d2,e7,e8⟩:=D9 e4;cases e8;obtain⟨w0,ds0,e9,e10⟩:=hr env d1 _ w (.l ds) e1 e5 (W.mutL_of e6);obtain⟨q,xs,h1,_⟩:=rl.own i w0 ds0 e9 e10;refine⟨_,h1,.bind rl e1 fun v G1 H1 ev r1=>?_⟩;obtain⟨q',ys,h2,h3,h4,h5⟩:=ev.rel.ownL i w ds e5 e6;rw[h1]at h2;cases h2;dsimp only at e7;cases d1<;>first|(exact absurd (show(none:Option D)=some _ from e7) (by simp))|skip
 simp only[b0]at r1;obtain⟨z,h6,h7⟩:=HF h4 e7;exact⟨q,ys,_,z,rfl,r1,.inl (.inl h3),h6,k z G1 H1 ev h7⟩
def Z5(X:Cx)(B:OE)(r:ba->Hp->VK->Prop)(f:bb->Option D):Prop:=
 ∀(G:Hp) (σ:St) (env:a9) (H:Hp) (xs:ba) (ds:bb) (c:D) (Q:VK),Rel X.K B G σ env H->B4 X.K G xs ds->f ds=some c->
  (∀v G' H',Ev X.K B G σ env H G' σ env H'->b0 X.K G' v c->Q v H')->r xs H Q
def CB(X:Cx)(B:OE)(r:ba->Hp->VK->Prop)(f:bb->Option bb):Prop:=
 ∀(G:Hp) (σ:St) (env:a9) (H:Hp) (xs:ba) (ds:bb) (c:bb) (Q:VK),Rel X.K B G σ env H->B4 X.K G xs ds->f ds=some c->
  (∀p ys G' H',Ev X.K B G σ env H G' σ env H'->H' p=none->B4 X.K G' ys c->Q (.ref p) (upd H' p (.lst ys)))->r xs H Q
def j1(f:bb->Option D)(ms:Mo bb):Mo D:=fun env=>(ms env).bind fun p=>(f p.1).map fun d=>(d,p.2)
def rE(f:bb->Option bb)(ms:Mo bb):Mo bb:=fun env=>(ms env).bind fun p=>(f p.1).map fun d=>(d,p.2)
theorem LU{f:bb->Option D}(o:Z5 X B r f):∀σ H Q,TD X.K B (j1 f ms) σ H Q->vR r (wU X.K B ms) σ H Q:=by
 rintro σ H Q ⟨G,env,d,env',rl,e,k⟩;obtain⟨⟨ds,a8⟩,e1,e2⟩:=B9 e;obtain⟨d1,e3,e4⟩:=D9 e2;cases e4;exact⟨G,env,ds,_,rl,e1,fun vs G1 H1 ev r1=>o G1 σ _ H1 vs ds _ Q ev.rel r1 e3 fun v G2 H2 f9 r2=>k v G2 H2 (ev.trans f9) r2⟩
theorem LV{f:bb->Option bb}(o:CB X B r f):∀σ H Q,TL X.K B (rE f ms) σ H Q->vR r (wU X.K B ms) σ H Q:=by
 rintro σ H Q ⟨G,env,d,env',rl,e,k⟩;obtain⟨⟨ds,a8⟩,e1,e2⟩:=B9 e;obtain⟨d1,e3,e4⟩:=D9 e2;cases e4;exact⟨G,env,ds,_,rl,e1,fun vs G1 H1 ev r1=>o G1 σ _ H1 vs ds _ Q ev.rel r1 e3 fun p ys G2 H2 f9 hp r2=>DM (ev.trans f9) hp r2 k⟩
variable{f:bb->Option D}{g:bb->Option bb}{id:String}{p:Pos}
theorem G7(hc:J3 X (.builtin id) r)(o:Z5 X B r f)(hg:Gl X x)(hm:X.mg x=none)(hv:bootBuiltins x=some (.builtin id))(ha:pN X B (e::es) ms)(hn:x≠"__name__":=by decide)(hdb:(x==("__debug__":Str))=false:=by decide)
  (he:starEach (e::es) X.env=(false,eval e X.env)::starEach es X.env:=by rfl)(hpl:(backTo pos (starEach es X.env)).any (·.1)=false:=by rfl):ED X B (.Call (.Name x p) (e::es) [] pos) (j1 f ms):=
 c9 (AO hc hg hm hv ha hn hdb he hpl) (LU o)
theorem HH(hc:J3 X (.type T) r)(o:Z5 X B r f)(hg:Gl X x)(hm:X.mg x=none)(hv:bootBuiltins x=some (.type T))(ha:pN X B (e::es) ms)(hn:x≠"__name__":=by decide)(hdb:(x==("__debug__":Str))=false:=by decide)
  (he:starEach (e::es) X.env=(false,eval e X.env)::starEach es X.env:=by rfl)(hpl:(backTo pos (starEach es X.env)).any (·.1)=false:=by rfl):ED X B (.Call (.Name x p) (e::es) [] pos) (j1 f ms):=
 c9 (BR hc hg hm hv ha hn hdb he hpl) (LU o)
theorem FG(hc:J3 X (.builtin id) r)(o:CB X B r g)(hg:Gl X x)(hm:X.mg x=none)(hv:bootBuiltins x=some (.builtin id))(ha:pN X B (e::es) ms)(hn:x≠"__name__":=by decide)(hdb:(x==("__debug__":Str))=false:=by decide)
  (he:starEach (e::es) X.env=(false,eval e X.env)::starEach es X.env:=by rfl)(hpl:(backTo pos (starEach es X.env)).any (·.1)=false:=by rfl):EL X B (.Call (.Name x p) (e::es) [] pos) (rE g ms):=
 c9 (AO hc hg hm hv ha hn hdb he hpl) (LV o)
theorem HI(hc:J3 X (.type T) r)(o:CB X B r g)(hg:Gl X x)(hm:X.mg x=none)(hv:bootBuiltins x=some (.type T))(ha:pN X B (e::es) ms)(hn:x≠"__name__":=by decide)(hdb:(x==("__debug__":Str))=false:=by decide)
  (he:starEach (e::es) X.env=(false,eval e X.env)::starEach es X.env:=by rfl)(hpl:(backTo pos (starEach es X.env)).any (·.1)=false:=by rfl):EL X B (.Call (.Name x p) (e::es) [] pos) (rE g ms):=
 c9 (BR hc hg hm hv ha hn hdb he hpl) (LV o)
theorem U0{K:Qj}(h:B4 K G xs [d]):∃x,xs=[x]/\b0 K G x d:=by
 simp only[B4]at h;obtain⟨x,r,e,q,t⟩:=h;subst t;exact⟨x,e,q⟩
theorem CC{K:Qj}{d':D}(h:B4 K G xs [d,d']):∃x y,xs=[x,y]/\b0 K G x d/\b0 K G y d':=by
 simp only[B4]at h;obtain⟨x,r,e,q,y,r2,e2,q2,t⟩:=h;subst t e2;exact⟨x,y,e,q,q2⟩
def D.items:D->Option bb
 |.lst ds=>some ds
 |.tup ds=>some ds
 |_=>none
theorem HJ{K:Qj}(l:Le G H)(r:b0 K G v d)(h:d.items=some ds):∃a xs,v=.ref a/\(nT K H a xs\/n5 K H a xs)/\B4 K G xs ds:=by
 cases d<;>first|(exact absurd (show(none:Option bb)=some ds from h) (by simp))|skip
 ·cases h;simp only[b0]at r;obtain⟨a,xs,e,q,t⟩:=r;exact⟨a,xs,e,.inr (l.sqT q),t⟩
 ·cases h;simp only[b0]at r;obtain⟨a,xs,e,q,t⟩:=r;exact⟨a,xs,e,.inl (l.sqL q),t⟩
def F2:bb->Option D
 |[d]=>d.items.map fun ds=>.int ds.length
 |_=>none
theorem WT:Z5 X B (fun xs H Q=>∃p ys,xs=[.ref p]/\(nT X.K H p ys\/n5 X.K H p ys)/\Q (.int ys.length) H) F2:=by
 intro G σ env H xs ds c Q rl r e k
 match ds,e with
 |[d],e=>
  obtain⟨x,rfl,q⟩:=U0 r;obtain⟨ds,e1,e2⟩:=D9 e;obtain⟨a,ys,rfl,h1,h2⟩:=HJ rl.sub q e1;exact⟨a,ys,rfl,h1,k _ G H (.refl rl) (by rw[←e2,h2.length];simp only[b0])⟩
def LW:bb->Option D
 |[d]=>d.items.map fun ds=>.tup ds
 |_=>none
theorem WU:Z5 X B (fun xs H Q=>∃p ys,xs=[.ref p]/\((nT X.K H p ys/\∀l,H l=none->Q (.ref l) (upd H l (.tup ys)))\/(n5 X.K H p ys/\Q (.ref p) H))) LW:=by
 intro G σ env H xs ds c Q rl r e k
 match ds,e with
 |[d],e=>
  obtain⟨x,rfl,q⟩:=U0 r;obtain⟨ds,e1,e2⟩:=D9 e;subst e2;cases d<;>first|(exact absurd (show(none:Option bb)=some ds from e1) (by simp))|skip
  ·cases e1;have q0:=q;simp only[b0]at q;obtain⟨a,ys,rfl,h1,h2⟩:=q;exact⟨a,ys,rfl,.inr ⟨rl.sub.sqT h1,k _ G H (.refl rl) q0⟩⟩
  ·cases e1;simp only[b0]at q;obtain⟨a,ys,rfl,h1,h2⟩:=q;exact⟨a,ys,rfl,.inl ⟨rl.sub.sqL h1,fun l hl=>k _ _ _ (rl.alloc hl) (Aj D7 (B4.mono (Le.upd (rl.gnone hl)) _ h2))⟩⟩
def DN:bb->Option bb
 |[d]=>d.items
 |_=>none
theorem WV:CB X B (fun xs H Q=>∃p ys,xs=[.ref p]/\(nT X.K H p ys\/n5 X.K H p ys)/\∀l,H l=none->Q (.ref l) (upd H l (.lst ys))) DN:=by
 intro G σ env H xs ds c Q rl r e k
 match ds,e with
 |[d],e=>
  obtain⟨x,rfl,q⟩:=U0 r;obtain⟨a,ys,rfl,h1,h2⟩:=HJ rl.sub q e;exact⟨a,ys,rfl,h1,fun l hl=>k l ys G H (.refl rl) hl h2⟩
end
section
variable{K:Qj}
theorem K4{l:List α}{a b:α}(h:(l.set i a)[j]? =some b):(j=i/\b=a)\/(j≠i/\l[j]? =some b):=by
 by_cases hj:j=i
 ·subst hj;have hl:j<l.length:=by
   have:=(Qc.mp h).1;rwa [Yg]at this
  rw[Ym hl]at h;cases h;exact .inl ⟨rfl,rfl⟩
 ·rw[Qs (Za hj)]at h;exact .inr ⟨hj,h⟩
theorem CD{l:List α}{m:List β}{a b:α}{c:β}(h:(l.set i a)[i]? =some b)(hl:l.length=m.length):(m.set i c)[i]? =some c:=by
 have:=(Qc.mp h).1;rw[Yg]at this;exact Ym (by omega)
theorem Ev.setDat(ev:Ev K B G σ env H G1 σ1 a8 H1)(r:b0 K G1 v d):Ev K B G σ env H G1 (σ1.set i (some v)) (a8.set i (.dat d)) H1:=by
 have rl:=ev.rel;have ne:∀(j:Nat) (w:W) (es:Mu),(a8.set i (.dat d))[j]? =some w->w.mut=some es->j≠i/\a8[j]? =some w:=fun j w es q1 q2=>by
  rcases K4 q1 with⟨_,z⟩|z
  ·rw[z]at q2;cases q2
  ·exact z
 refine⟨⟨rl.sub,by rw[Yg,Yg];exact rl.len,fun j d' q=>?_,fun j w es q1 q2=>?_,fun j k w w' es fs b q1 q2 q3 q4 q5 q6=>?_,fun j w b q1 qo q2=>?_,rl.old,rl.tabs,rl.gnt⟩,ev.same,ev.keep,ev.live,ev.stay,fun b z=>?_,fun j w q qp=>?_,by rw[Yg];exact ev.slen⟩
 ·rcases K4 q with⟨z1,z2⟩|⟨z1,z2⟩
  ·subst z1;cases z2;exact⟨v,CD q rl.len,r⟩
  ·obtain⟨x,q1,q2⟩:=rl.dat j d' z2;exact⟨x,by rw[Qs (Za z1)];exact q1,q2⟩
 ·obtain⟨hj,q⟩:=ne j w es q1 q2;obtain⟨p,ys,e3,e4⟩:=rl.own j w es q q2;exact⟨p,ys,by rw[Qs (Za hj)];exact e3,e4⟩
 ·obtain⟨h1,h2⟩:=ne j w es q1 q2;obtain⟨h3,h4⟩:=ne k w' fs q3 q4;rw[Qs (Za h1)]at q5;rw[Qs (Za h3)]at q6;exact rl.inj j k w w' es fs b h2 q2 h4 q4 q5 q6
 ·obtain⟨es,hm⟩:=oR qo;obtain⟨h1,h2⟩:=ne j _ es q1 hm;rw[Qs (Za h1)]at q2;exact rl.fresh j w b h2 qo q2
 ·obtain⟨j,w,es,q1,q2,q3⟩:=z;obtain⟨h1,h2⟩:=ne j w es q1 q2;rw[Qs (Za h1)]at q3;exact ev.sub b ⟨j,w,es,h2,q2,q3⟩
 ·obtain⟨es,hm⟩:=n8 qp;obtain⟨h1,h2⟩:=ne j _ es q hm;obtain⟨h3,h4⟩:=ev.par j w h2 qp;exact⟨by rw[Qs (Za h1)];exact h3,h4⟩
theorem Ev.setOwnM{wn:W}(ev:Ev K B G σ env H G1 σ1 a8 H1)(nb:¬ B a)(ha:H a=none)(no:¬ d9 σ1 a8 a)(h1:H1 a=some o)(g1:G1 a=none)(r:nU K G1 o m)(wm:wn.mut=some m)(wo:wn.isPar=false):
  Ev K B G σ env H G1 (σ1.set i (some (.ref a))) (a8.set i wn) H1:=by
 have rl:=ev.rel;refine⟨⟨rl.sub,by rw[Yg,Yg];exact rl.len,fun j d' q=>?_,fun j w es q1 q2=>?_,fun j k w w' es fs b q1 q2 q3 q4 q5 q6=>?_,fun j w b q1 qo q2=>?_,rl.old,rl.tabs,rl.gnt⟩,ev.same,ev.keep,ev.live,ev.stay,fun b z=>?_,fun j w q qp=>?_,by rw[Yg];exact ev.slen⟩
 ·rcases K4 q with⟨z1,z2⟩|⟨z1,z2⟩
  ·rw[←z2]at wm;cases wm
  ·obtain⟨x,q1,q2⟩:=rl.dat j d' z2;exact⟨x,by rw[Qs (Za z1)];exact q1,q2⟩
 ·rcases K4 q1 with⟨z1,z2⟩|⟨z1,z2⟩
  ·subst z1 z2;rw[wm]at q2;cases q2;exact⟨a,o,CD q1 rl.len,h1,r,g1⟩
  ·obtain⟨p,ys,e3,e4⟩:=rl.own j w es z2 q2;exact⟨p,ys,by rw[Qs (Za z1)];exact e3,e4⟩
 ·rcases K4 q1 with⟨z1,z2⟩|⟨z1,z2⟩
  ·rcases K4 q3 with⟨y1,y2⟩|⟨y1,y2⟩
   ·rw[z1,y1]
   ·subst z1;rw[CD q1 rl.len]at q5;cases q5;rw[Qs (Za y1)]at q6;exact absurd ⟨k,w',fs,y2,q4,q6⟩ no
  ·rw[Qs (Za z1)]at q5;rcases K4 q3 with⟨y1,y2⟩|⟨y1,y2⟩
   ·subst y1;rw[CD q3 rl.len]at q6;cases q6;exact absurd ⟨j,w,es,z2,q2,q5⟩ no
   ·rw[Qs (Za y1)]at q6;exact rl.inj j k w w' es fs b z2 q2 y2 q4 q5 q6
 ·rcases K4 q1 with⟨z1,z2⟩|⟨z1,z2⟩
  ·subst z1;rw[CD q1 rl.len]at q2;cases q2;exact nb
  ·rw[Qs (Za z1)]at q2;exact rl.fresh j w b z2 qo q2
 ·obtain⟨j,w,es,q1,q2,q3⟩:=z;rcases K4 q1 with⟨z1,z2⟩|⟨z1,z2⟩
  ·subst z1;rw[CD q1 rl.len]at q3;cases q3;exact .inr ha
  ·rw[Qs (Za z1)]at q3;exact ev.sub b ⟨j,w,es,z2,q2,q3⟩
 ·rcases K4 q with⟨z1,z2⟩|⟨z1,z2⟩
  ·rw[z2,wo]at qp;cases qp
  ·obtain⟨h3,h4⟩:=ev.par j w z2 qp;exact⟨by rw[Qs (Za z1)];exact h3,h4⟩
theorem Ev.setOwn(ev:Ev K B G σ env H G1 σ1 a8 H1)(nb:¬ B a)(ha:H a=none)(no:¬ d9 σ1 a8 a)(h1:H1 a=some (.lst xs))(g1:G1 a=none)(r:B4 K G1 xs ds):
  Ev K B G σ env H G1 (σ1.set i (some (.ref a))) (a8.set i (.own ds)) H1:=ev.setOwnM (m:=.l ds) nb ha no h1 g1 ⟨xs,rfl,r⟩ rfl rfl
theorem Ev.setNil(ev:Ev K B G σ env H G1 σ1 a8 H1):Ev K B G σ env H G1 σ1 (a8.set i .nil) H1:=by
 have rl:=ev.rel;have ne:∀(j:Nat) (w:W),(a8.set i .nil)[j]? =some w->w≠.nil->j≠i/\a8[j]? =some w:=fun j w q1 q2=>by
  rcases K4 q1 with⟨_,z⟩|z
  ·exact absurd z q2
  ·exact z
 have nm:∀(w:W) (es:Mu),w.mut=some es->w≠.nil:=fun w es h z=>by rw[z]at h;cases h
 refine⟨⟨rl.sub,by rw[Yg];exact rl.len,fun j d' q=>rl.dat j d' (ne j _ q (by simp)).2,fun j w es q1 q2=>rl.own j w es (ne j w q1 (nm w es q2)).2 q2,fun j k w w' es fs b q1 q2 q3 q4 q5 q6=>rl.inj j k w w' es fs b (ne j w q1 (nm _ _ q2)).2 q2 (ne k w' q3 (nm _ _ q4)).2 q4 q5 q6,
  fun j w b q1 qo q2=>rl.fresh j w b (ne j _ q1 (by rintro rfl;cases qo)).2 qo q2,rl.old,rl.tabs,rl.gnt⟩,ev.same,ev.keep,ev.live,ev.stay,fun b z=>?_,fun j w q qp=>ev.par j w (ne j _ q (by rintro rfl;cases qp)).2 qp,ev.slen⟩
 obtain⟨j,w,es,q1,q2,q3⟩:=z;exact ev.sub b ⟨j,w,es,(ne j w q1 (nm _ _ q2)).2,q2,q3⟩
theorem Ev.writeM{o':HO}{m':Mu}(ev:Ev K B G σ env H G1 σ1 a8 H1)(e1:a8[i]? =some w)(e2:w.mut=some m)(e3:σ1[i]? =some (some (.ref a)))(r:nU K G1 o' m'):
  Ev K B G σ env H G1 σ1 (a8.set i (w.putM m')) (upd H1 a o'):=by
 have rl:=ev.rel;obtain⟨a',o0,h1,h2,h3,h4⟩:=rl.own i w m e1 e2;rw[e3]at h1;cases h1;have ow:d9 σ1 a8 a:=⟨i,w,m,e1,e2,e3⟩;have wp:(w.putM m').mut=some m':=W.putM_mut e2 m';have nd:∀d,w.putM m'≠.dat d:=fun d z=>by rw[z]at wp;cases wp
 have oo:d9 σ env a\/H a=none:=ev.sub a ow;refine⟨⟨fun b u e=>?_,by rw[Yg];exact rl.len,fun j d' q=>?_,fun j v es q1 q2=>?_,fun j k v v' es fs b q1 q2 q3 q4 q5 q6=>?_,fun j v b q1 qo q2=>?_,fun b hb=>?_,rl.tabs.upd r.nt (fun φ z=>by rw[h2]at z;cases z;exact h3.ne φ rfl),rl.gnt⟩,ev.same,fun b o n t e=>?_,fun b e=>?_,ev.stay,fun b z=>?_,fun j v q qp=>?_,ev.slen⟩
 ·have hb:b≠a:=fun z=>by rw[z,h4]at e;cases e
  rw[C6 hb];exact rl.sub b u e
 ·rcases K4 q with⟨z1,z2⟩|⟨z1,z2⟩
  ·exact absurd z2.symm (nd d')
  ·exact rl.dat j d' z2
 ·rcases K4 q1 with⟨z1,z2⟩|⟨z1,z2⟩
  ·subst z1 z2;rw[wp]at q2;cases q2;exact⟨a,o',e3,D7,r,h4⟩
  ·obtain⟨p,ys,f1,f2,f3,f4⟩:=rl.own j v es z2 q2;have hp:p≠a:=fun z=>z1 (rl.inj j i v w es m a z2 q2 e1 e2 (by rw[f1,z]) e3);exact⟨p,ys,f1,by rw[C6 hp];exact f2,f3,f4⟩
 ·have g:∀(n:Nat) (v:W) (es:Mu),(a8.set i (w.putM m'))[n]? =some v->v.mut=some es->∃v0 es0,a8[n]? =some v0/\v0.mut=some es0:=fun n v es y1 y2=>by
   rcases K4 y1 with⟨z1,z2⟩|⟨z1,z2⟩
   ·rw[z1];exact⟨w,m,e1,e2⟩
   ·exact⟨v,es,z2,y2⟩
  obtain⟨v0,es0,y1,y2⟩:=g j v es q1 q2;obtain⟨v1,es1,y3,y4⟩:=g k v' fs q3 q4;exact rl.inj j k v0 v1 es0 es1 b y1 y2 y3 y4 q5 q6
 ·rcases K4 q1 with⟨z1,z2⟩|⟨z1,z2⟩
  ·subst z1;exact rl.fresh j w b e1 (by rw[z2,W.putM_own e2]at qo;exact qo) q2
  ·exact rl.fresh j v b z2 qo q2
 ·by_cases h:b=a
  ·subst h;rw[D7];simp
  ·rw[C6 h];exact rl.old b hb
 ·have hb:b≠a:=fun z=>by
   rcases oo with q|q
   ·exact n (z ▸ q)
   ·rw[z,q]at e;cases e
  rw[C6 hb];exact ev.keep b o n t e
 ·by_cases h:b=a
  ·subst h;rw[D7];simp
  ·rw[C6 h];exact ev.live b e
 ·obtain⟨j,v,es,q1,q2,q3⟩:=z;rcases K4 q1 with⟨z1,z2⟩|⟨z1,z2⟩
  ·rw[z1,e3]at q3;cases q3;exact oo
  ·exact ev.sub b ⟨j,v,es,z2,q2,q3⟩
 ·rcases K4 q with⟨z1,z2⟩|⟨z1,z2⟩
  ·subst z1;exact ev.par j w e1 (by rw[z2,W.putM_par e2]at qp;exact qp)
  ·exact ev.par j v z2 qp
theorem Ev.write{xs':ba}{ds':bb}(ev:Ev K B G σ env H G1 σ1 a8 H1)(e1:a8[i]? =some w)(e2:w.mutL=some ds)(e3:σ1[i]? =some (some (.ref a)))(r:B4 K G1 xs' ds'):
  Ev K B G σ env H G1 σ1 (a8.set i (w.put ds')) (upd H1 a (.lst xs')):=by
 rw[W.put_eq e2];exact ev.writeM e1 (W.mutL_of e2) e3 ⟨xs',rfl,r⟩
end
section
variable{a:Expr}{st:Stmt}{rest:List Stmt}{s1 s2:Mo Fl}
def m8:Mo Fl:=fun env=>some (.nx,env)
def C1(m n:Mo Fl):Mo Fl:=fun env=>(m env).bind fun p=>match p.1 with
 |.nx=>n p.2
 |fl=>some (fl,p.2)
theorem J8:sP X B [] m8:=by
 refine pP Sr ?_;rintro D σ H ⟨G,env,fl,env',rl,e,k⟩;cases e;exact k σ G H (.refl rl)
theorem D2(h1:ES X B st s1)(h2:sP X B rest s2):sP X B (st::rest) (C1 s1 s2):=by
 refine pP (Bv h1 h2) ?_;rintro D σ H ⟨G,env,fl,env',rl,e,k⟩;obtain⟨⟨x9,a8⟩,e1,e2⟩:=B9 e;dsimp only at e2;cases x9 with
 |nx=>
  dsimp only at e2;exact⟨G,env,.nx,a8,rl,e1,fun σ1 G1 H1 ev=>⟨G1,a8,fl,env',ev.rel,e2,Post.after _ _ k ev⟩⟩
 |bk=>cases e2;exact⟨G,env,.bk,_,rl,e1,k⟩
 |ct=>cases e2;exact⟨G,env,.ct,_,rl,e1,k⟩
 |ret d=>cases e2;exact⟨G,env,.ret d,_,rl,e1,k⟩
 |retL d=>cases e2;exact⟨G,env,.retL d,_,rl,e1,k⟩
theorem D3(h1:ES X B st s1):sP X B [st] s1:=Kb h1
def E2(t:Mo Bool)(m n:Mo Fl):Mo Fl:=fun env=>(t env).bind fun p=>if p.1 then m p.2 else n p.2
theorem J9{s t:List Stmt}{tc:Mo Bool}(hc:ET X B c tc)(h1:sP X B s s1)(h2:sP X B t s2):ES X B (.If c s t pos) (E2 tc s1 s2):=by
 refine j8 (Kd hc h1 h2) ?_;rintro D σ H ⟨G,env,fl,env',rl,e,k⟩;obtain⟨⟨b1,a8⟩,e1,e2⟩:=B9 e;dsimp only at e2;refine⟨G,env,b1,a8,rl,e1,fun G1 H1 ev=>?_⟩;cases b1 with
 |true=>simp only[Yw]at e2 ⊢;exact⟨G1,a8,fl,env',ev.rel,e2,Post.after _ _ k ev⟩
 |false=>simp only[Zq,Zo]at e2 ⊢;exact⟨G1,a8,fl,env',ev.rel,e2,Post.after _ _ k ev⟩
def CF:Mo Fl:=fun _=>none
theorem CG:ES X B st CF:=by
 refine j8 Sw ?_;rintro D σ H ⟨G,env,fl,env',rl,e,k⟩;cases e
def E1(m:Mo D):Mo Fl:=fun env=>(m env).map fun p=>(.ret p.1,p.2)
theorem F8(h:ED X B e ma):ES X B (.Return (some e) pos) (E1 ma):=by
 refine j8 (Kc h) ?_;rintro D σ H ⟨G,env,fl,env',rl,e,k⟩;obtain⟨⟨d,a8⟩,e1,e2⟩:=D9 e;cases e2;exact⟨G,env,d,_,rl,e1,fun v G' H' ev r=>k v σ G' H' ev r⟩
def AV(m:Mo bb):Mo Fl:=fun env=>(m env).map fun p=>(.retL p.1,p.2)
theorem DO(h:EL X B e ms):ES X B (.Return (some e) pos) (AV ms):=by
 refine j8 (Kc h) ?_;rintro D σ H ⟨G,env,fl,env',rl,e,k⟩;obtain⟨⟨d,a8⟩,e1,e2⟩:=D9 e;cases e2;exact⟨G,env,d,_,rl,e1,fun a xs G' H' ev ha no h' g' r=>k a xs σ G' H' ev (fun z=>rl.old a z ha) no h' g' r⟩
def E3(i:Nat)(m:Mo D):Mo Fl:=fun env=>(m env).map fun p=>(.nx,p.2.set i (.dat p.1))
def K8(i:Nat)(m:Mo bb):Mo Fl:=fun env=>(m env).map fun p=>(.nx,p.2.set i (.own p.1))
section
variable{pos':Pos}
theorem J6(hN:X.N.Nodup)(hi:X.N[i]? =some x)(hx:Loc X.env.scope x)(he:ED X B e ma)(hs:swapsWith e (some (.Name x pos')) pos.line X.env=pure false:=by rfl)(hf:X.fn x=true\/X.env.scope.names.lookup x=some .local:=by first|exact .inl rfl|exact .inr rfl|assumption):
  ES X B (.Assign [.Name x pos'] e pos) (E3 i ma):=by
 refine j8 (DC hN hi hx he hs hf) ?_;rintro D σ H ⟨G,env,fl,env',rl,e,k⟩;obtain⟨⟨d,a8⟩,e1,e2⟩:=D9 e;cases e2;exact⟨G,env,d,_,rl,e1,fun v G' H' ev r=>k _ G' H' (ev.setDat r)⟩
theorem Z6(hN:X.N.Nodup)(hi:X.N[i]? =some x)(hx:Loc X.env.scope x)(he:EL X B e ms)(hs:swapsWith e (some (.Name x pos')) pos.line X.env=pure false:=by rfl)(hf:X.fn x=true\/X.env.scope.names.lookup x=some .local:=by first|exact .inl rfl|exact .inr rfl|assumption):
  ES X B (.Assign [.Name x pos'] e pos) (K8 i ms):=by
 refine j8 (DC hN hi hx he hs hf) ?_;rintro D σ H ⟨G,env,fl,env',rl,e,k⟩;obtain⟨⟨d,a8⟩,e1,e2⟩:=D9 e;cases e2;exact⟨G,env,d,_,rl,e1,fun a xs G' H' ev ha no h' g' r=>k _ G' H' (ev.setOwn (fun z=>rl.old a z ha) ha no h' g' r)⟩
end
def Ao(i:Nat)(m:Mo D):Mo Fl:=fun env=>((env[i]?).bind W.mutL).bind fun _=>(m env).bind fun p=>(p.2[i]?).bind fun w=>w.mutL.bind fun ds=>if ds.length<100000 then some (.nx,p.2.set i (w.put (ds++[p.1])))else none
theorem FH{p apos cpos:Pos}(ho:PE X (.Name x p) (T0 i))(ha:pN X B [e] (B0 ma B6))
  (hbase:attributeBase (.Name x p) "append" X.env (eval (.Name x p) X.env)=eval (.Name x p) X.env:=by rfl)
  (hfew:((backTo cpos (starEach [e] X.env)).all (fun x=>!x.1)&&(backToKw cpos (keywordEach [] X.env)).all (fun x=>x.1.isSome)
   &&decide ([e].length+([]:List Keyword).length+(if([]:List Keyword).isEmpty then 0 else 1)<30))=true:=by rfl)
  (hline:(apos.endLine==cpos.line)=true:=by rfl)(hs:starEach [e] X.env=(false,eval e X.env)::starEach [] X.env:=by rfl)(hplain:(backTo cpos (starEach [] X.env)).any (·.1)=false:=by rfl)
  (hsw:swapsWith (.Call (.Attribute (.Name x p) "append" apos) [e] [] cpos) none pos.line X.env=pure false:=by rfl):
  ES X B (.Expr (.Call (.Attribute (.Name x p) "append" apos) [e] [] cpos) pos) (Ao i ma):=by
 refine j8 (Em (DF Vf PySem.F.slot_list_append PySem.F.type_list_append LL ho ha hbase hfew hline hs hplain) hsw) ?_;rintro D σ H ⟨G,env,fl,env',rl,e,k⟩;obtain⟨ds0,e0,e⟩:=B9 e;obtain⟨w0,e00,em0⟩:=B9 e0;obtain⟨⟨d,a8⟩,e1,e2⟩:=B9 e;obtain⟨w,e3,e4⟩:=B9 e2;obtain⟨ds,e5,e6⟩:=B9 e4;dsimp only at e3 e6;split at e6
 ·rename_i hl;cases e6;obtain⟨q,xs0,h1,h2,h3,h4⟩:=rl.ownL i w0 ds0 e00 em0;refine⟨_,h1,.inl ⟨rfl,xs0,.inl (.inl h2)⟩,G,env,[d],a8,rl,by show(ma env).bind _=_;rw[e1];rfl,fun vs G1 H1 ev r1=>?_⟩;obtain⟨v,rfl,rv⟩:=U0 r1;obtain⟨q',xs,g1,g2,g3,g4⟩:=ev.rel.ownL i w ds e3 e5;rw[h1]at g1;cases g1;have hz:xs.length<sizeLine:=by rw[g3.length];exact Vk hl (by decide)
  exact⟨q,xs,v,rfl,rfl,g2,hz,k _ G1 _ (ev.write e3 e5 h1 (g3.append (f6 rv f7)))⟩
 ·cases e6
end
section
variable(K:Qj)(B:OE)
def vV(n:Nat)(g:OX):TG:=fun v σ H Q=>∃G env d env',Rel K B G σ env H/\b0 K G v d/\g d env=some env'/\∀σ' G' H',Ev K B G σ env H G' σ' env' H'->(∀j,j<n->σ'[j]? =σ[j]?)->Q σ' H'
def WW(n:Nat)(g:bb->a9->Option a9):sV:=fun vs σ H Q=>∃G env ds env',Rel K B G σ env H/\B4 K G vs ds/\g ds env=some env'/\∀σ' G' H',Ev K B G σ env H G' σ' env' H'->(∀j,j<n->σ'[j]? =σ[j]?)->Q σ' H'
end
abbrev EG(X:Cx)(B:OE)(n:Nat)(e:Expr)(g:OX):Prop:=PG X e (vV X.K B n g)
abbrev vW(X:Cx)(B:OE)(n:Nat)(es:au)(g:bb->a9->Option a9):Prop:=tL X es (WW X.K B n g)
theorem FI{t t':TG}(h:PG X e t)(i:∀v σ H Q,t' v σ H Q->t v σ H Q):PG X e t':=fun pins s σ H v u Q I r q=>h pins s σ H v u Q I r (i v σ H Q q)
theorem LX{e:au}{t t':sV}(h:tL X e t)(i:∀v σ H Q,t' v σ H Q->t v σ H Q):tL X e t':=fun pins s σ H v u Q I r q=>h pins s σ H v u Q I r (i v σ H Q q)
def gN(i:Nat):OX:=fun d env=>some (env.set i (.dat d))
def sY:bb->a9->Option a9:=fun ds env=>match ds with
 |[]=>some env
 |_=>none
def qF(g:OX)(gs:bb->a9->Option a9):bb->a9->Option a9:=fun ds env=>match ds with
 |d::ds=>(g d env).bind (gs ds)
 |[]=>none
def gT(n:Nat)(gs:bb->a9->Option a9):OX:=fun d env=>match d with
 |.tup ds=>if ds.length=n then gs ds env else none
 |_=>none
section
variable{a:Expr}{g:OX}{gs:bb->a9->Option a9}
theorem F9(hn:n≤i)(hN:X.N.Nodup)(hi:X.N[i]? =some x)(hx:Loc X.env.scope x)(hf:X.fn x=true\/X.env.scope.names.lookup x=some .local:=by first|exact .inl rfl|exact .inr rfl|assumption):EG X B n (.Name x pos) (gN i):=by
 refine FI (Sy hN hi hx hf) ?_;rintro v σ H Q ⟨G,env,d,env',rl,r,e,k⟩;cases e;exact k _ G H ((Ev.refl rl).setDat r) fun j hj=>Qs (by omega)
theorem HK:vW X B n [] sY:=by
 refine LX TF ?_;rintro vs σ H Q ⟨G,env,ds,env',rl,r,e,k⟩;unfold sY at e;split at e
 ·cases e;simp only[B4]at r;exact⟨r,k _ G H (.refl rl) fun _ _=>rfl⟩
 ·cases e
theorem DP(h1:EG X B n e g)(h2:vW X B n es gs)(hs:(assignEach (e::es) X.env).map (·.2)=assign e X.env::(assignEach es X.env).map (·.2):=by rfl):vW X B n (e::es) (qF g gs):=by
 refine LX (TH h1 h2 hs) ?_;rintro vs σ H Q ⟨G,env,ds,env',rl,r,e,k⟩;unfold qF at e;split at e
 ·rename_i d ds;obtain⟨a8,e1,e2⟩:=B9 e;simp only[B4]at r;obtain⟨x,xs,e3,r1,r2⟩:=r;exact⟨x,xs,e3,G,env,d,a8,rl,r1,e1,fun σ1 G1 H1 ev y1=>⟨G1,a8,ds,env',ev.rel,B4.mono ev.same _ r2,e2,fun σ2 G2 H2 f9 y2=>k σ2 G2 H2 (ev.trans f9) fun j hj=>(y2 j hj).trans (y1 j hj)⟩⟩
 ·cases e
theorem HL{nb k':Nat}(hc:X.calm=true)(h:vW X B nb es gs)(hn:(assignEach es X.env).length=n:=by rfl)(hst:(assignEach es X.env).findIdx? (·.1)=none:=by rfl):EG X B nb (.Tuple es k' pos) (gT n gs):=by
 refine FI (TK hc h hn hst) ?_;rintro v σ H Q ⟨G,env,d,env',rl,r,e,k⟩;unfold gT at e;split at e
 ·rename_i ds;split at e
  ·rename_i hl;simp only[b0]at r;obtain⟨p,xs,e1,q,t⟩:=r;exact⟨p,xs,e1,rl.sub.sqT q,t.length.trans hl,G,env,ds,env',rl,t,e,k⟩
  ·cases e
 ·cases e
def gS(s:Nat)(mi:Mo D):OX:=fun d env=>((env[s]?).bind W.mutL).bind fun _=>(mi env).bind fun p=>match p.1 with
 |.int k=>(p.2[s]?).bind fun w=>w.mutL.bind fun ds=>(sM ds.length k).map fun j=>p.2.set s (w.put (ds.set j d))
 |_=>none
theorem HM{s:Nat}{p:Pos}(ho:PE X (.Name x p) (T0 s))(hi:ED X B b mb)
  (ha:∀v,assign (.Subscript (.Name x p) b pos) X.env v=(do
   let ov←holding [v] (eval (.Name x p) X.env)
   let iv←holding [v,ov] (eval b X.env)
   standAt pos
   holding [v,ov,iv] (setItem ov iv v)
   release [v,ov,iv] []):=by intro _;rfl):EG X B n (.Subscript (.Name x p) b pos) (gS s mb):=by
 refine FI (Kg ho hi VO ha) ?_;rintro v σ H Q ⟨G,env,d,env',rl,r,e,k⟩;obtain⟨ds0,e0,e⟩:=B9 e;obtain⟨w0,e00,em0⟩:=B9 e0;obtain⟨⟨d1,a8⟩,e1,e2⟩:=B9 e;dsimp only at e2;split at e2
 ·rename_i kk;obtain⟨w,e3,e4⟩:=B9 e2;obtain⟨ds,e5,e6⟩:=B9 e4;obtain⟨j,e7,e8⟩:=D9 e6;cases e8;obtain⟨q,xs0,h1,h2,h3,h4⟩:=rl.ownL s w0 ds0 e00 em0;refine⟨_,h1,.bind rl e1 fun iv G1 H1 ev r1=>?_⟩;simp only[b0]at r1;obtain⟨q',xs,g1,g2,g3,g4⟩:=ev.rel.ownL s w ds e3 e5;rw[h1]at g1;cases g1;exact⟨q,xs,kk,j,rfl,r1,g2,by rw[g3.length];exact e7,k _ G1 _ (ev.write e3 e5 h1 (g3.set j (b0.mono ev.same _ r))) fun _ _=>rfl⟩
 ·cases e2
def R0(m:Mo D)(g:OX):Mo Fl:=fun env=>(m env).bind fun p=>(g p.1 p.2).map fun e=>(.nx,e)
theorem DQ(he:ED X B e ma)(hg:EG X B 0 tg g)(hs:swapsWithSole [tg] e pos.line X.env=pure false:=by rfl)(hw:swappedStores [tg] e X.env=pure none:=by rfl)
  (h1:(assignEach [tg] X.env).map (·.2)=[assign tg X.env]:=by rfl):ES X B (.Assign [tg] e pos) (R0 ma g):=by
 refine j8 (TN he hg hs hw h1) ?_;rintro D σ H ⟨G,env,fl,env',rl,e,k⟩;obtain⟨⟨d1,a8⟩,e1,e2⟩:=B9 e;obtain⟨g0,e3,e4⟩:=D9 e2;cases e4;exact .bind rl e1 fun v G1 H1 ev r=>⟨G1,a8,d1,_,ev.rel,r,e3,fun σ2 G2 H2 f9 _=>k σ2 G2 H2 (ev.trans f9)⟩
def zS(i j:Nat)(ms:Mo bb):Mo Fl:=fun env=>(ms env).bind fun p=>match p.1 with
 |[d,d']=>some (.nx,(p.2.set i (.dat d)).set j (.dat d'))
 |_=>none
structure tO(K:Qj)(J:It)(G:Hp)(ds:bb):Prop where
 go:∀i H,Le G H->i<ds.length->J.go i H
 stop:∀i H,Le G H->ds.length≤i->J.stop i H
 yld:∀i H x H' d,Le G H->J.yld i H x H'->ds[i]? =some d->(H'=H/\b0 K G x d)\/ ∃p o,NT o/\H p=none/\H'=upd H p o/\b0 K (upd G p o) x d
end
section
variable(K:Qj)(B:OE)
def wX(m:Mo bb):TI:=fun σ H R=>∃G env ds env',Rel K B G σ env H/\m env=some (ds,env')/\∀J G' H',Ev K B G σ env H G' σ env' H'->tO K J G' ds->R J H'
end
abbrev EI(X:Cx)(B:OE)(tg e:Expr)(m:Mo bb):Prop:=PI X tg e (wX X.K B m)
theorem FJ{t t':TI}(h:PI X tg e t)(i:∀σ H R,t' σ H R->t σ H R):PI X tg e t':=fun pins s σ H R I q=>h pins s σ H R I (i σ H R q)
section
variable{a:Expr}{g:OX}{gs:bb->a9->Option a9}
def WX(K:Qj)(tl:TE):TI:=fun σ H R=>tl σ H fun x H1=>∃a,x=.ref a/\(((∃xs,nT K H1 a xs)/\R (wK K a) H1)\/((∃xs,n5 K H1 a xs)/\R (wL K a) H1))
theorem WY{l:Expr}{tl:TE}(hl:PE X l tl):PI X tg l (WX X.K tl):=by
 intro pins s σ H R I h;refine i6 (hl pins s σ H _ I h) fun v s1 ⟨x,H1,I1,r1,q1⟩=>?_;obtain⟨a,e,q⟩:=q1;subst e;cases r1;rcases q with⟨⟨xs,hq⟩,q⟩|⟨⟨xs,hq⟩,q⟩
 ·obtain⟨its,rv,p,hz⟩:=I1.list hq;refine Tf p.isList ?_;refine⟨s1.heap.objs.size,[s1.heap.objs.size],_,_,H1,rfl,I1.kept (t':=s1.toks) fun b o e=>Qx _ e,TQ a _,⟨_,Qw _ rfl,rfl,rfl⟩,fun b hb=>?_,q⟩;have e:b=s1.heap.objs.size:=by simpa using hb
  subst e;exact I1.fpOk (Qy _) (I1.hok.fresh (Qy _))
 ·obtain⟨its,rv,p,hz⟩:=I1.tuple hq;refine Xr (show s1.heap.IsTuple a its.toArray from p) ?_;refine⟨s1.heap.objs.size,[s1.heap.objs.size],_,_,H1,rfl,I1.kept (t':=s1.toks) fun b o e=>Qx _ e,TR a _,⟨_,Qw _ rfl,rfl,rfl⟩,fun b hb=>?_,q⟩;have e:b=s1.heap.objs.size:=by simpa using hb
  subst e;exact I1.fpOk (Qy _) (I1.hok.fresh (Qy _))
def G8(m:Mo D):Mo bb:=fun env=>(m env).bind fun p=>p.1.items.map fun ds=>(ds,p.2)
theorem WZ{K:Qj}(q:nT K G p xs)(r:B4 K G xs ds):tO K (wK K p) G ds where
 go:=fun i H l hi=>⟨xs,xs[i]'(by rw[r.length];exact hi),l.sqL q,by simp⟩
 stop:=fun i H l hi=>⟨xs,l.sqL q,by rw[r.length];exact hi⟩
 yld:=fun i H x H' d l y e=>by
  obtain⟨rfl,y⟩:=y;obtain⟨x',e1,e2⟩:=r.get e;have:=y xs (l.sqL q);rw[e1]at this;cases this;exact .inl ⟨rfl,e2⟩
theorem Wa{K:Qj}(q:qT K G p xs)(r:B4 K G xs ds):tO K (wL K p) G ds where
 go:=fun i H l hi=>⟨xs,xs[i]'(by rw[r.length];exact hi),l.sqT q,by simp⟩
 stop:=fun i H l hi=>⟨xs,l.sqT q,by rw[r.length];exact hi⟩
 yld:=fun i H x H' d l y e=>by
  obtain⟨rfl,y⟩:=y;obtain⟨x',e1,e2⟩:=r.get e;have:=y xs (l.sqT q);rw[e1]at this;cases this;exact .inl ⟨rfl,e2⟩
theorem R1(h:ED X B e ma):EI X B tg e (G8 ma):=by
 refine FJ (WY h) ?_;rintro σ H R ⟨G,env,ds,env',rl,e,k⟩;obtain⟨⟨d,a8⟩,e1,e2⟩:=B9 e;obtain⟨ds',e3,e4⟩:=D9 e2;cases e4;refine .bind rl e1 fun v G1 H1 ev r=>?_;cases d<;>first|(exact absurd (show(none:Option bb)=some _ from e3) (by simp))|skip
 ·cases e3;simp only[b0]at r;obtain⟨p,xs,e5,q,t⟩:=r;exact⟨p,e5,.inr ⟨⟨xs,ev.rel.sub.sqT q⟩,k _ G1 H1 ev (Wa q t)⟩⟩
 ·cases e3;simp only[b0]at r;obtain⟨p,xs,e5,q,t⟩:=r;exact⟨p,e5,.inl ⟨⟨xs,ev.rel.sub.sqL q⟩,k _ G1 H1 ev (WZ q t)⟩⟩
def Z7(lo:Int)(n:Nat):bb:=(List.range n).map fun(i:Nat)=>D.int (lo+i)
theorem LY{K:Qj}{lo:Int}:tO K (u7 lo n) G (Z7 lo n)where
 go:=fun i H l hi=>by
  have h:i<n:=by simpa [Z7]using hi
  exact h
 stop:=fun i H l hi=>by
  have h:n≤i:=by simpa [Z7]using hi
  exact h
 yld:=fun i H x H' d l y e=>by
  obtain⟨rfl,rfl⟩:=y;refine .inl ⟨rfl,?_⟩;unfold Z7 at e;rw[Zw]at e;cases hr:(List.range n)[i]? with
  |none=>rw[hr]at e;cases e
  |some j=>
   rw[hr]at e;cases e;obtain⟨h1,h2⟩:=Qc.mp hr;simp at h2;subst h2;simp only[b0]
def U1(ms:Mo bb):Mo bb:=fun env=>(ms env).bind fun p=>match p.1 with
 |[.int j]=>if-1000000<j/\j<1000000 then some (Z7 0 j.toNat,p.2)else none
 |_=>none
def Q1(ms:Mo bb):Mo bb:=fun env=>(ms env).bind fun p=>match p.1 with
 |[.int i,.int j]=>if-1000000<i/\i<1000000/\ -1000000<j/\j<1000000 then some (Z7 i (j-i).toNat,p.2)else none
 |_=>none
theorem BX{p:Pos}(hg:Gl X "range")(hm:X.mg "range"=none)(ha:pN X B [a] ms)(hs:starEach [a] X.env=[(false,eval a X.env)]:=by rfl):EI X B tg (.Call (.Name "range" p) [a] [] pos) (U1 ms):=by
 have h0:=TZ (tg:=tg) (p:=p) (pos:=pos) hg hm ha hs;refine FJ h0 ?_;rintro σ H R ⟨G,env,ds,env',rl,e,k⟩;obtain⟨⟨ds',a8⟩,e1,e2⟩:=B9 e;dsimp only at e2;split at e2
 ·rename_i j;split at e2
  ·rename_i hj;cases e2;refine⟨G,env,_,_,rl,e1,fun vs G1 H1 ev r=>?_⟩;obtain⟨v,rfl,r1⟩:=U0 r;simp only[b0]at r1;subst r1;exact⟨j,rfl,by omega,by omega,k _ G1 H1 ev LY⟩
  ·cases e2
 ·cases e2
theorem AW{p:Pos}(hg:Gl X "range")(hm:X.mg "range"=none)(ha:pN X B [a,b] ms)(hs:starEach [a,b] X.env=[(false,eval a X.env),(false,eval b X.env)]:=by rfl)(hs2:starEach [b] X.env=[(false,eval b X.env)]:=by rfl):EI X B tg (.Call (.Name "range" p) [a,b] [] pos) (Q1 ms):=by
 have h0:=UA (tg:=tg) (p:=p) (pos:=pos) hg hm ha hs hs2;refine FJ h0 ?_;rintro σ H R ⟨G,env,ds,env',rl,e,k⟩;obtain⟨⟨ds',a8⟩,e1,e2⟩:=B9 e;dsimp only at e2;split at e2
 ·rename_i i j;split at e2
  ·rename_i hj;cases e2;refine⟨G,env,_,_,rl,e1,fun vs G1 H1 ev r=>?_⟩;obtain⟨v,w,rfl,r1,r2⟩:=CC r;simp only[b0]at r1 r2;subst r1 r2;exact⟨i,j,rfl,⟨by omega,by omega,by omega,by omega⟩,k _ G1 H1 ev LY⟩
  ·cases e2
 ·cases e2
def loop(g:OX)(body:Mo Fl):bb->Mo Fl
 |[],env=>some (.nx,env)
 |d::ds,env=>(g d env).bind fun e1=>(body e1).bind fun p=>match p.1 with
  |.nx=>loop g body ds p.2
  |.ct=>loop g body ds p.2
  |.bk=>some (.nx,p.2)
  |.ret d=>some (.ret d,p.2)
  |.retL d=>some (.retL d,p.2)
def J1(mi:Mo bb)(g:OX)(body:Mo Fl):Mo Fl:=fun env=>(mi env).bind fun p=>loop g body p.1 p.2
theorem N8{body:List Stmt}{mi:Mo bb}{mbd:Mo Fl}(hp:PassesOwn (model X.prog X.w) X.A X.env X.xe)(hc:X.calm=true)(hi:EI X B tg iter mi)(hg:EG X B 0 tg g)(hb:sP X B body mbd)
  (hs:∀x,foldedSetIterable iter X.env x=pure x:=by intro _;rfl):ES X B (.For tg iter body [] pos) (J1 mi g mbd):=by
 refine j8 (UD hp hc hi hg hb hs) ?_;rintro D σ H ⟨G,env,fl,env',rl,e,k⟩;obtain⟨⟨ds,a8⟩,e1,e2⟩:=B9 e;dsimp only at e2;refine⟨G,env,ds,a8,rl,e1,fun J G1 H1 j3 it=>?_⟩;refine⟨fun i m σ2 H2=>m=ds.length-i/\i≤ds.length/\∃G2 g0,Ev X.K B G σ env H G2 σ2 g0 H2/\Le G1 G2/\loop g mbd (ds.drop i) g0=some (fl,env'),⟨_,rfl,Yt _,G1,a8,j3,Le.refl,by simpa using e2⟩,?_⟩;rintro i m σ2 H2 ⟨rfl,hi2,G2,g0,f9,l2,e3⟩;have lH:Le G1 H2:=l2.trans f9.rel.sub
 by_cases hlt:i<ds.length
 ·refine .inr ⟨it.go i H2 lH hlt,fun σ' H'=>∃G3 rD,Ev X.K B G σ env H G3 σ' rD H'/\Le G1 G3/\loop g mbd (ds.drop (i+1)) rD=some (fl,env'),?_,fun x H3 y=>?_⟩
  ·rintro σ' H' ⟨G3,rD,pG,l3,e4⟩;exact⟨ds.length-(i+1),by omega,rfl,hlt,G3,rD,pG,l3,e4⟩
  ·have ed:ds.drop i=ds[i]::ds.drop (i+1):=List.drop_eq_getElem_cons hlt;rw[ed]at e3;obtain⟨r8,e4,e5⟩:=B9 e3;obtain⟨⟨wY,p8⟩,e6,e7⟩:=B9 e5;have hget:ds[i]? =some ds[i]:=by simp[hlt]
   have st:∃G3,Ev X.K B G σ env H G3 σ2 g0 H3/\Le G1 G3/\b0 X.K G3 x ds[i]:=by
    rcases it.yld i H2 x H3 ds[i] lH y hget with⟨rfl,r⟩|⟨p,o,hno,hp2,rfl,r⟩
    ·exact⟨G2,f9,l2,b0.mono l2 _ r⟩
    ·have gp:=f9.rel.gnone hp2;refine⟨upd G2 p o,f9.trans (f9.rel.alloc hp2 hno),l2.trans (Le.upd gp),b0.mono (fun b u q=>?_) _ r⟩
     by_cases hb2:b=p
     ·subst hb2;rw[D7]at q ⊢;exact q
     ·rw[C6 hb2]at q ⊢;exact l2 b u q
   obtain⟨G3,pG,l3,r3⟩:=st;refine⟨G3,g0,ds[i],r8,pG.rel,r3,e4,fun σ4 G4 H4 rJ _=>?_⟩;have rZ:=pG.trans rJ;refine⟨G4,r8,wY,p8,rJ.rel,e6,?_⟩;cases wY with
   |nx=>exact fun σ6 G6 H6 p9=>⟨G6,p8,rZ.trans p9,(l3.trans rJ.same).trans p9.same,e7⟩
   |ct=>exact fun σ6 G6 H6 p9=>⟨G6,p8,rZ.trans p9,(l3.trans rJ.same).trans p9.same,e7⟩
   |bk=>cases e7;exact fun σ6 G6 H6 p9=>k σ6 G6 H6 (rZ.trans p9)
   |ret d=>cases e7;exact fun v σ6 G6 H6 p9=>k v σ6 G6 H6 (rZ.trans p9)
   |retL d=>cases e7;exact fun a xs σ6 G6 H6 p9=>k a xs σ6 G6 H6 (rZ.trans p9)
 ·have ei:i=ds.length:=by omega
  subst ei;rw[List.drop_length]at e3;cases e3;exact .inl ⟨it.stop _ H2 lH (Qy _),k σ2 G2 H2 f9⟩
end
inductive Rr where
 |d (d:D)|l (ds:List D)
abbrev Fn:=bf->Option (Rr×bf)
def M7:OE:=fun _=>False
def DR(ws:bf):Prop:=∀w∈ws,(∃d,w=.dat d)\/w.isPar=true
def Wb(K:Qj)(G:Hp)(vs:ba)(ws:bf)(H:Hp)(ws':bf)(Q:VK):Rr->Prop
 |.d d=>∀v G' H',Ev K M7 G (vs.map some) ws H G' (vs.map some) ws' H'->b0 K G' v d->Q v H'
 |.l ds=>∀a xs G' H',Ev K M7 G (vs.map some) ws H G' (vs.map some) ws' H'->H a=none-> ¬ d9 (vs.map some) ws' a->H' a=some (.lst xs)->G' a=none->B4 K G' xs ds->Q (.ref a) H'
def nY(K:Qj)(n:Nat)(f:Fn):Sp:=fun vs H Q _=>∃G ws r ws',ws.length=n/\DR ws/\Rel K M7 G (vs.map some) ws H/\f ws=some (r,ws')/\Wb K G vs ws H ws' Q r
def FK:W->W->W
 |.par _,.par ds=>.par ds
 |.par _,.parD ks vs=>.parD ks vs
 |.parD _ _,.par ds=>.par ds
 |.parD _ _,.parD ks vs=>.parD ks vs
 |.par _,.parX ks vs=>.parX ks vs
 |.parD _ _,.parX ks vs=>.parX ks vs
 |.parX _ _,.par ds=>.par ds
 |.parX _ _,.parD ks vs=>.parD ks vs
 |.parX _ _,.parX ks vs=>.parX ks vs
 |.parX _ _,_=>.nil
 |.par _,_=>.nil
 |.parD _ _,_=>.nil
 |w,_=>w
def X1(ws env:bf):bf:=List.zipWith FK ws env
def nP(N:Nat)(mb:Mo Fl):Fn:=fun ws=>match mb (ws++List.replicate (N-ws.length) .nil)with
 |some (.ret d,env)=>some (.d d,X1 ws env)
 |some (.retL ds,env)=>some (.l ds,X1 ws env)
 |some (.nx,env)=>some (.d .non,X1 ws env)
 |_=>none
theorem Z8{vs:ba}(hi:i<vs.length):(start N vs)[i]? =(vs.map some)[i]?:=by
 unfold start;rw[Je (by simpa using hi)]
theorem Ap{l:List α}{a b:α}(h:(l++List.replicate n a)[i]? =some b):(i<l.length/\l[i]? =some b)\/(l.length≤i/\b=a):=by
 by_cases hi:i<l.length
 ·rw[Je hi]at h;exact .inl ⟨hi,h⟩
 ·rw[List.getElem?_append_right (by omega),Vg]at h;split at h
  ·cases h;exact .inr ⟨by omega,rfl⟩
  ·cases h
section
variable{K:Qj}{vs:ba}{ws:bf}
theorem LZ(hl:ws.length=vs.length):d9 (start N vs) (ws++List.replicate n .nil) a↔d9 (vs.map some) ws a:=by
 constructor
 ·rintro⟨i,w,ds,e1,e2,e3⟩;rcases Ap e1 with⟨h1,h2⟩|⟨h1,h2⟩
  ·rw[Z8 (by omega)]at e3;exact⟨i,w,ds,h2,e2,e3⟩
  ·rw[h2]at e2;cases e2
 ·rintro⟨i,w,ds,e1,e2,e3⟩;have hi:i<ws.length:=(Qc.mp e1).1;exact⟨i,w,ds,by rw[Je hi];exact e1,e2,by rw[Z8 (by omega)];exact e3⟩
theorem HN(r:Rel K M7 G (vs.map some) ws H)(ok:DR ws)(hN:vs.length≤N.length):Rel K (fun b=>H b≠none) G (start N vs) (ws++List.replicate (N.length-ws.length) .nil) H:=by
 have hl:ws.length=vs.length:=by have:=r.len;rwa [Qv]at this
 have noOwn:∀(i:Nat) (w:W),ws[i]? =some w->w.isOwn=true->False:=fun i w e h=>by
  rcases ok _ (Vz e)with⟨d,z⟩|z
  ·subst z;cases h
  ·cases w<;>first|(cases h;done)|(cases z;done)
 refine⟨r.sub,?_,fun i d e=>?_,fun i w ds e1 e2=>?_,fun i j w w' ds es a q1 q2 q3 q4 q5 q6=>?_,fun i w a q1 qo q2=>?_,fun b h=>h,r.tabs,r.gnt⟩
 ·unfold start;simp only[Zx,Yi,Qv];omega
 ·rcases Ap e with⟨h1,h2⟩|⟨h1,h2⟩
  ·obtain⟨v,e1,e2⟩:=r.dat i d h2;exact⟨v,by rw[Z8 (by omega)];exact e1,e2⟩
  ·cases h2
 ·rcases Ap e1 with⟨h1,h2⟩|⟨h1,h2⟩
  ·obtain⟨a,xs,e3,e4⟩:=r.own i w ds h2 e2;exact⟨a,xs,by rw[Z8 (by omega)];exact e3,e4⟩
  ·rw[h2]at e2;cases e2
 ·rcases Ap q1 with⟨h1,h2⟩|⟨h1,h2⟩
  ·rcases Ap q3 with⟨h3,h4⟩|⟨h3,h4⟩
   ·rw[Z8 (by omega)]at q5 q6;exact r.inj i j w w' ds es a h2 q2 h4 q4 q5 q6
   ·rw[h4]at q4;cases q4
  ·rw[h2]at q2;cases q2
 ·rcases Ap q1 with⟨h1,h2⟩|⟨h1,h2⟩
  ·exact(noOwn i w h2 qo).elim
  ·subst h2;cases qo
theorem FL{ws env:bf}(h:(X1 ws env)[i]? =some w):∃w1 w2,ws[i]? =some w1/\env[i]? =some w2/\w=FK w1 w2:=by
 unfold X1 at h;rw[Ja]at h;cases e1:ws[i]? with
 |none=>rw[e1]at h;cases h
 |some w1=>
  cases e2:env[i]? with
  |none=>rw[e1,e2]at h;cases h
  |some w2=>rw[e1,e2]at h;cases h;exact⟨w1,w2,rfl,rfl,rfl⟩
theorem HQ{w1:W}(ok:(∃d,w1=.dat d)\/w1.isPar=true)(h:(FK w1 w2).mut=some m):w2.mut=some m/\w2.isPar=true/\FK w1 w2=w2/\w1.isPar=true:=by
 rcases ok with⟨d,z⟩|z
 ·subst z;cases h
 ·cases w1<;>cases w2<;>first|exact⟨h,rfl,rfl,rfl⟩|(cases z;done)|(cases h;done)
theorem BY(r:Rel K M7 G (vs.map some) ws H)(ok:DR ws)(hN:vs.length≤N.length)
  (ev:Ev K (fun b=>H b≠none) G (start N vs) (ws++List.replicate (N.length-ws.length) .nil) H G' σ' env' H'):Ev K M7 G (vs.map some) ws H G' (vs.map some) (X1 ws env') H':=by
 have hl:ws.length=vs.length:=by have:=r.len;rwa [Qv]at this
 have okg:∀{i:Nat}{w:W},ws[i]? =some w->(∃d,w=.dat d)\/w.isPar=true:=fun e=>ok _ (Vz e);have hle:ws.length≤env'.length:=by
  have h1:=ev.rel.len;have h2:=ev.slen;have h3:(start N vs).length=N.length:=by unfold start;simp only[Zx,Yi,Qv];omega
  omega
 have par:∀(i:Nat) (w:W) (m:Mu),(X1 ws env')[i]? =some w->w.mut=some m->∃w0,ws[i]? =some w0/\w0.isPar=true/\env'[i]? =some w/\w.isPar=true/\σ'[i]? =(vs.map some)[i]?:=fun i w m e1 e2=>by
  obtain⟨w1,w2,h1,h2,h3⟩:=FL e1;subst h3;obtain⟨h4,h5,h6,h7⟩:=HQ (okg h1) e2;have hi:i<vs.length:=by have:=(Qc.mp h1).1;omega
  rw[h6];exact⟨w1,h1,h7,h2,h5,(ev.par i w2 h2 h5).1.trans (Z8 hi)⟩
 refine⟨⟨ev.rel.sub,?_,fun i d e=>?_,fun i w ds e1 e2=>?_,fun i j w w' ds es a q1 q2 q3 q4 q5 q6=>?_,fun i w a q1 qo q2 h=>h,fun b h=>h.elim,ev.rel.tabs,ev.rel.gnt⟩,ev.same,fun b o n t e=>ev.keep b o (fun z=>n ((LZ hl).mp z)) t e,ev.live,fun b e n g=>ev.stay b e (fun z=>n ((LZ hl).mp z)) g,fun a z=>?_,fun i w e hp=>?_,rfl⟩
 ·unfold X1;rw[Jw,Qv];omega
 ·obtain⟨w1,w2,h1,h2,h3⟩:=FL e;rcases okg h1 with⟨d1,z⟩|z
  ·subst z;cases h3;obtain⟨v,e1,e2⟩:=r.dat i d h1;exact⟨v,e1,b0.mono ev.same d e2⟩
  ·cases w1<;>cases w2<;>first|(cases h3;done)|(cases z;done)
 ·obtain⟨d0,h1,hp,h2,h3,h4⟩:=par i w ds e1 e2;obtain⟨a,xs,e3,e4⟩:=ev.rel.own i _ ds h2 e2;exact⟨a,xs,by rw[←h4];exact e3,e4⟩
 ·obtain⟨d0,h1,hp,h2,h3,h4⟩:=par i w ds q1 q2;obtain⟨d1,h5,hp',h6,h7,h8⟩:=par j w' es q3 q4;exact ev.rel.inj i j _ _ ds es a h2 q2 h6 q4 (by rw[h4];exact q5) (by rw[h8];exact q6)
 ·obtain⟨i,w,ds,e1,e2,e3⟩:=z;obtain⟨d0,h1,hp,h2,h3,h4⟩:=par i w ds e1 e2;obtain⟨m0,hm0⟩:=n8 hp;exact .inl ⟨i,_,m0,h1,hm0,e3⟩
 ·obtain⟨m,hm⟩:=n8 hp;obtain⟨d0,h1,hp',h2,h3,h4⟩:=par i _ m e hm;exact⟨rfl,d0,h1,hp'⟩
end
theorem M8{P:af}{w:ag}{K:Qj}{mg:OI}{base:Heap}{qual:Str}{st:Stmt}{f:ah}{fd:FuncData}{ps:ar}{mb:Mo Fl}(F:nJ K x qual st f fd)(S:c8 N ps (E5 st))
  (hb:∀(cdv:aj) (A:Around) (outer:List Env) (s:ak) (H:Hp) (E:XK),g9 k (A.deeper (envOfC qual (E5 st) s.heap.objs.size f cdv))->
   sP (M4 mZ P w K mg base N qual (E5 st) f cdv A outer s H E).nox (fun b=>H b≠none) (W9 st) mb):i4 P w K mg base mZ (k+1) f fd ps (nY K ps.length (nP N.length mb)):=by
 have hpl:ps.length≤N.length:=by have:=Yz List.length S.pre;rw[Yr]at this;omega
 refine F.ok S (fun vs H Q E h=>?_) (fun cdv A outer s H vs Q E hr h=>?_)
 ·obtain⟨G,ws,r,ws',hl,ok,rl,_⟩:=h;have:=rl.len;rw[Qv]at this;omega
 ·obtain⟨G,ws,r,ws',hl,ok,rl,e,k⟩:=h;have hv:ws.length=vs.length:=by have:=rl.len;rwa [Qv]at this
  refine⟨_,hb cdv A outer s H E hr,?_⟩;have rl':=HN (N:=N) rl ok (by omega);unfold nP at e;split at e
  ·rename_i d env em;cases e;refine⟨G,_,_,env,rl',em,?_⟩;exact fun v σ' G' H' ev rp=>k v G' H' (BY rl ok (by omega) ev) rp
  ·rename_i ds env em;cases e;refine⟨G,_,_,env,rl',em,?_⟩;intro a xs σ' G' H' ev nb no h' g' rp;refine k a xs G' H' (BY rl ok (by omega) ev) (Jy nb) ?_ h' g' rp;rintro⟨i,w',es,e1,e2,e3⟩;obtain⟨w1,w2,q1,q2,q3⟩:=FL e1;subst q3;obtain⟨q4,q5,q6,q7⟩:=HQ (ok _ (Vz q1)) e2;have hi:i<vs.length:=by have:=(Qc.mp q1).1;omega
   exact no ⟨i,_,es,q2,q4,by rw[(ev.par i w2 q2 q5).1,Z8 hi];exact e3⟩
  ·rename_i env em;cases e;refine⟨G,_,_,env,rl',em,?_⟩;exact fun σ' G' H' ev=>k .non G' H' (BY rl ok (by omega) ev) (by simp only[b0])
  ·cases e
def slots:List Ar->List Nat
 |[]=>[]
 |.d _::r=>slots r
 |.sl i::r=>i::slots r
def Aq:Mu->W
 |.l ds=>.par ds
 |.d ks vs=>.parD ks vs
 |.x ks vs=>.parX ks vs
theorem La(c:Mu):(Aq c).mut=some c:=by cases c<;>rfl
theorem Lb(c:Mu):(Aq c).isPar=true:=by cases c<;>rfl
def N9(c:Mu):Ar->W
 |.d d=>.dat d
 |.sl _=>Aq c
def AX:bf->Option Mu
 |[]=>none
 |.par ds::_=>some (.l ds)
 |.parD ks vs::_=>some (.d ks vs)
 |.parX ks vs::_=>some (.x ks vs)
 |_::r=>AX r
def AY(n:Nat)(f:Fn)(as:Mo (List Ar)):Mo Rr:=fun env=>(as env).bind fun p=>if p.1.length=n then
 match slots p.1 with
 |[]=>(f (p.1.map (N9 (.l [])))).map fun q=>(q.1,p.2)
 |[i]=>(p.2[i]?).bind fun w=>w.mut.bind fun c=>(f (p.1.map (N9 c))).bind fun q=>(AX q.2).map fun c'=>(q.1,p.2.set i (w.putM c'))
 |_=>none
 else none
theorem As:∀{as:List Ar},slots as=[]->∀(k j:Nat),as[k]? ≠some (.sl j)
 |[],_,k,j,e=>by simp at e
 |.d _::r,h,k,j,e=>by
  cases k with
  |zero=>simp at e
  |succ k=>exact As (as:=r) h k j (by simpa using e)
 |.sl i::r,h,k,j,e=>by simp[slots]at h
theorem HR:∀{as:List Ar}{i:Nat},slots as=[i]->∃k:Nat,as[k]? =some (.sl i)/\∀(k' j:Nat),as[k']? =some (.sl j)->k'=k/\j=i
 |[],_,h=>by simp[slots]at h
 |.d _::r,i,h=>by
  obtain⟨k,h1,h2⟩:=HR (as:=r) h;refine⟨k+1,by simpa using h1,fun k' j e=>?_⟩;cases k' with
  |zero=>simp at e
  |succ k'=>
   obtain⟨a,b⟩:=h2 k' j (by simpa using e);exact⟨by omega,b⟩
 |.sl i'::r,i,h=>by
  simp only[slots,Sq]at h;obtain⟨rfl,h⟩:=h;refine⟨0,by simp,fun k' j e=>?_⟩;cases k' with
  |zero=>simp at e;exact⟨rfl,e.symm⟩
  |succ k'=>exact absurd (by simpa using e) (As h k' j)
theorem CH:∀{ws:bf}{c:Mu},AX ws=some c->∃k:Nat,ws[k]? =some (Aq c)
 |[],_,h=>by simp[AX]at h
 |.par ds::r,c,h=>by simp only[AX,Yx]at h;subst h;exact⟨0,by simp[Aq]⟩
 |.parD ks vs::r,c,h=>by simp only[AX,Yx]at h;subst h;exact⟨0,by simp[Aq]⟩
 |.parX ks vs::r,c,h=>by simp only[AX,Yx]at h;subst h;exact⟨0,by simp[Aq]⟩
 |.ownX _ _::r,c,h=>by obtain⟨k,e⟩:=CH (ws:=r) h;exact⟨k+1,by simpa using e⟩
 |.nil::r,c,h=>by obtain⟨k,e⟩:=CH (ws:=r) h;exact⟨k+1,by simpa using e⟩
 |.dat _::r,c,h=>by obtain⟨k,e⟩:=CH (ws:=r) h;exact⟨k+1,by simpa using e⟩
 |.own _::r,c,h=>by obtain⟨k,e⟩:=CH (ws:=r) h;exact⟨k+1,by simpa using e⟩
 |.ownD _ _::r,c,h=>by obtain⟨k,e⟩:=CH (ws:=r) h;exact⟨k+1,by simpa using e⟩
section
variable{K:Qj}
theorem j4.length:∀{as:List Ar}{vs:ba},j4 K G σ vs as->vs.length=as.length
 |[],_,h=>by simp only[j4]at h;subst h;rfl
 |.d d::as,_,h=>by
  simp only[j4]at h;obtain⟨x,r,rfl,_,t⟩:=h;simp[j4.length t]
 |.sl i::as,_,h=>by
  simp only[j4]at h;obtain⟨x,r,rfl,_,t⟩:=h;simp[j4.length t]
theorem j4.getD:∀{as:List Ar}{vs:ba}{k:Nat}{d:D},j4 K G σ vs as->as[k]? =some (.d d)->∃v,vs[k]? =some v/\b0 K G v d
 |[],_,k,d,h,e=>by simp at e
 |.d d'::as,_,k,d,h,e=>by
  simp only[j4]at h;obtain⟨x,r,rfl,q,t⟩:=h;cases k with
  |zero=>simp at e;subst e;exact⟨x,by simp,q⟩
  |succ k=>simpa using j4.getD (k:=k) t (by simpa using e)
 |.sl i::as,_,k,d,h,e=>by
  simp only[j4]at h;obtain⟨x,r,rfl,q,t⟩:=h;cases k with
  |zero=>simp at e
  |succ k=>simpa using j4.getD (k:=k) t (by simpa using e)
theorem j4.getS:∀{as:List Ar}{vs:ba}{k i:Nat},j4 K G σ vs as->as[k]? =some (.sl i)->∃v,vs[k]? =some v/\σ[i]? =some (some v)
 |[],_,k,i,h,e=>by simp at e
 |.d d'::as,_,k,i,h,e=>by
  simp only[j4]at h;obtain⟨x,r,rfl,q,t⟩:=h;cases k with
  |zero=>simp at e
  |succ k=>simpa using j4.getS (k:=k) t (by simpa using e)
 |.sl i'::as,_,k,i,h,e=>by
  simp only[j4]at h;obtain⟨x,r,rfl,q,t⟩:=h;cases k with
  |zero=>simp at e;subst e;exact⟨x,by simp,q⟩
  |succ k=>simpa using j4.getS (k:=k) t (by simpa using e)
end
section
variable{K:Qj}{as:List Ar}{vs:ba}{c:Mu}
theorem HS:DR (as.map (N9 c)):=fun w hw=>by
 obtain⟨a,_,rfl⟩:=Zm.mp hw;cases a with
 |d d=>exact .inl ⟨d,rfl⟩
 |sl i=>exact .inr (Lb c)
theorem CI(e:(as.map (N9 c))[k]? =some w):(∃d,as[k]? =some (.d d)/\w=.dat d)\/ ∃j,as[k]? =some (.sl j)/\w=Aq c:=by
 rw[Zw]at e;cases h:as[k]? with
 |none=>rw[h]at e;cases e
 |some a=>
  rw[h]at e;cases a with
  |d d=>cases e;exact .inl ⟨d,rfl,rfl⟩
  |sl j=>cases e;exact .inr ⟨j,rfl,rfl⟩
theorem Lc(h:vs[k]? =some v):(vs.map some)[k]? =some (some v):=by rw[Zw,h];rfl
theorem Ld(h:(vs.map some)[k]? =some (some v)):vs[k]? =some v:=by
 rw[Zw]at h;cases e:vs[k]? with
 |none=>rw[e]at h;cases h
 |some u=>rw[e]at h;cases h;rfl
theorem HU(rl:Rel K B G σ env H)(ra:j4 K G σ vs as)(u:∀(k j:Nat),as[k]? =some (.sl j)->j=i/\env[i]? =some w/\w.mut=some c)(un:∀(k k' j j':Nat),as[k]? =some (.sl j)->as[k']? =some (.sl j')->k=k'):
  Rel K M7 G (vs.map some) (as.map (N9 c)) H:=by
 refine⟨rl.sub,by rw[Qv,Qv,ra.length],fun k d e=>?_,fun k v ds e1 e2=>?_,fun k k' v v' ds es a q1 q2 q3 q4 q5 q6=>?_,fun k w a e _ _ h=>h,fun b h=>h.elim,rl.tabs,rl.gnt⟩
 ·rcases CI e with⟨d',h1,h2⟩|⟨j,h1,h2⟩
  ·cases h2;obtain⟨v,q1,q2⟩:=ra.getD h1;exact⟨v,Lc q1,q2⟩
  ·cases c<;>cases h2
 ·rcases CI e1 with⟨d',h1,h2⟩|⟨j,h1,h2⟩
  ·subst h2;cases e2
  ·subst h2;rw[La]at e2;cases e2;obtain⟨v,q1,q2⟩:=ra.getS h1;obtain⟨rfl,q3,q4⟩:=u k j h1;obtain⟨a,xs,q5,q6,q7,q8⟩:=rl.own j w c q3 q4;rw[q2]at q5;cases q5;exact⟨a,xs,Lc q1,q6,q7,q8⟩
 ·rcases CI q1 with⟨d',h1,h2⟩|⟨j,h1,h2⟩
  ·subst h2;cases q2
  ·rcases CI q3 with⟨d',h3,h4⟩|⟨j',h3,h4⟩
   ·subst h4;cases q4
   ·exact un k k' j j' h1 h3
theorem Lf(ra:j4 K G σ vs as)(u:∀(k j:Nat),as[k]? =some (.sl j)->j=i)(h:d9 (vs.map some) (as.map (N9 c)) a):σ[i]? =some (some (V.ref a))/\∃k:Nat,as[k]? =some (Ar.sl i):=by
 obtain⟨k,v,ds,e1,e2,e3⟩:=h;rcases CI e1 with⟨d',h1,h2⟩|⟨j,h1,h2⟩
 ·subst h2;cases e2
 ·obtain⟨v',q1,q2⟩:=ra.getS h1;have:=u k j h1;subst this;have e4:=Ld e3;rw[q1]at e4;cases e4;exact⟨q2,k,h1⟩
theorem HV(rl:Rel K B G σ env H)(ra:j4 K G σ vs as)(hs:slots as=[])(ev:Ev K M7 G (vs.map some) (as.map (N9 c)) H G2 (vs.map some) ws' H2):Ev K B G σ env H G2 σ env H2:=by
 have no:∀a,¬ d9 (vs.map some) (as.map (N9 c)) a:=fun a z=>by
  obtain⟨_,k,e⟩:=Lf (i:=0) ra (fun k j e=>absurd e (As hs k j)) z;exact As hs k 0 e
 refine⟨⟨ev.rel.sub,rl.len,fun i d e=>?_,fun i w ds e1 e2=>?_,rl.inj,rl.fresh,fun b h=>ev.live b (rl.old b h),ev.rel.tabs,ev.rel.gnt⟩,ev.same,fun b o _ t e=>ev.keep b o (no b) t e,ev.live,fun b e _ g=>ev.stay b e (no b) g,fun a z=>.inl z,fun i w e hp=>⟨rfl,w,e,hp⟩,rfl⟩
 ·obtain⟨v,q1,q2⟩:=rl.dat i d e;exact⟨v,q1,b0.mono ev.same d q2⟩
 ·obtain⟨a,xs,q1,q2,q3,q4⟩:=rl.own i w ds e1 e2;exact⟨a,xs,q1,ev.keep a _ (no a) q3.nt q2,q3.mono ev.same,ev.stay a (by rw[q2];simp) (no a) q4⟩
theorem Lg{c':Mu}(rl:Rel K B G σ env H)(ra:j4 K G σ vs as)(hs:slots as=[i])(e1:env[i]? =some w)(e2:w.mut=some c)(hp:AX ws'=some c')
  (ev:Ev K M7 G (vs.map some) (as.map (N9 c)) H G2 (vs.map some) ws' H2):Ev K B G σ env H G2 σ (env.set i (w.putM c')) H2:=by
 obtain⟨k,hk,uk⟩:=HR hs;obtain⟨a,xs,h1,h2,h3,h4⟩:=rl.own i w c e1 e2;have ow:d9 σ env a:=⟨i,w,c,e1,e2,h1⟩;have isA:∀b,d9 (vs.map some) (as.map (N9 c)) b->b=a:=fun b z=>by
  obtain⟨q,_⟩:=Lf ra (fun k j e=>(uk k j e).2) z;rw[h1]at q;cases q;rfl
 obtain⟨k',hk'⟩:=CH hp;have ek:k'=k:=by
  obtain⟨_,d0,q,qp⟩:=ev.par k' _ hk' (Lb c');rcases CI q with⟨d',z1,z2⟩|⟨j,z1,z2⟩
  ·subst z2;cases qp
  ·exact(uk k' j z1).1
 subst ek;obtain⟨a2,ys,g1,g2,g3,g4⟩:=ev.rel.own k' _ c' hk' (La c');obtain⟨v,q1,q2⟩:=ra.getS hk;have g5:=Ld g1;rw[q1]at g5;cases g5;rw[h1]at q2;cases q2;have wp:(w.putM c').mut=some c':=W.putM_mut e2 c';have nd:∀d,w.putM c'≠.dat d:=fun d z=>by rw[z]at wp;cases wp
 refine⟨⟨ev.rel.sub,by rw[Yg];exact rl.len,fun j d' q=>?_,fun j v es y1 y2=>?_,fun j m v v' es fs b y1 y2 y3 y4 y5 y6=>?_,fun j v b y1 yo y2=>?_,fun b h=>ev.live b (rl.old b h),ev.rel.tabs,ev.rel.gnt⟩,ev.same,fun b o n t e=>ev.keep b o (fun z=>n (isA b z ▸ ow)) t e,ev.live,fun b e n g=>ev.stay b e (fun z=>n (isA b z ▸ ow)) g,fun b z=>.inl ?_,fun j v q qp=>⟨rfl,?_⟩,rfl⟩
 ·rcases K4 q with⟨z1,z2⟩|⟨z1,z2⟩
  ·exact absurd z2.symm (nd d')
  ·obtain⟨v,q1,q2⟩:=rl.dat j d' z2;exact⟨v,q1,b0.mono ev.same d' q2⟩
 ·rcases K4 y1 with⟨z1,z2⟩|⟨z1,z2⟩
  ·subst z1 z2;rw[wp]at y2;cases y2;exact⟨a,ys,h1,g2,g3,g4⟩
  ·obtain⟨p,zs,f1,f2,f3,f4⟩:=rl.own j v es z2 y2;have hp:p≠a:=fun z=>z1 (rl.inj j i v w es c a z2 y2 e1 e2 (by rw[f1,z]) h1);have np:¬ d9 (vs.map some) (as.map (N9 c)) p:=fun z=>hp (isA p z);exact⟨p,zs,f1,ev.keep p _ np f3.nt f2,f3.mono ev.same,ev.stay p (by rw[f2];simp) np f4⟩
 ·have g:∀(m:Nat) (v:W) (es:Mu),(env.set i (w.putM c'))[m]? =some v->v.mut=some es->∃v0 es0,env[m]? =some v0/\v0.mut=some es0:=fun m v es y1 y2=>by
   rcases K4 y1 with⟨z1,z2⟩|⟨z1,z2⟩
   ·rw[z1];exact⟨w,c,e1,e2⟩
   ·exact⟨v,es,z2,y2⟩
  obtain⟨v0,es0,x1,x2⟩:=g j v es y1 y2;obtain⟨v1,es1,x3,x4⟩:=g m v' fs y3 y4;exact rl.inj j m v0 v1 es0 es1 b x1 x2 x3 x4 y5 y6
 ·rcases K4 y1 with⟨z1,z2⟩|⟨z1,z2⟩
  ·subst z1;exact rl.fresh j w b e1 (by rw[z2,W.putM_own e2]at yo;exact yo) y2
  ·exact rl.fresh j v b z2 yo y2
 ·obtain⟨j,v,es,y1,y2,y3⟩:=z;rcases K4 y1 with⟨z1,z2⟩|⟨z1,z2⟩
  ·rw[z1,h1]at y3;cases y3;exact ow
  ·exact⟨j,v,es,z2,y2,y3⟩
 ·rcases K4 q with⟨z1,z2⟩|⟨z1,z2⟩
  ·subst z1;exact⟨w,e1,by rw[z2,W.putM_par e2]at qp;exact qp⟩
  ·exact⟨v,z2,qp⟩
end
def yA:Rr×a9->Option (D×a9)
 |(.d d,e)=>some (d,e)
 |_=>none
def zT:Rr×a9->Option (bb×a9)
 |(.l d,e)=>some (d,e)
 |_=>none
def i7(n:Nat)(f:Fn)(as:Mo (List Ar)):Mo D:=fun env=>(AY n f as env).bind yA
def O7(n:Nat)(f:Fn)(as:Mo (List Ar)):Mo bb:=fun env=>(AY n f as env).bind zT
def Wc(K:Qj)(B:OE)(G:Hp)(σ:St)(env:a9)(H:Hp)(env':a9)(Q:VK):Rr->Prop
 |.d d=>∀v G' H',Ev K B G σ env H G' σ env' H'->b0 K G' v d->Q v H'
 |.l ds=>∀a xs G' H',Ev K B G σ env H G' σ env' H'->H a=none-> ¬ d9 σ env' a->H' a=some (.lst xs)->G' a=none->B4 K G' xs ds->Q (.ref a) H'
theorem Lh{K:Qj}{f:Fn}{r:Rr}{E:XK}(rl:Rel K B G σ env H)(e:AY n f as env=some (r,env'))
  (k:Wc K B G σ env H env' Q r):
  Kt (nY K n f) [] E (x6 K B as) σ H Q:=by
 obtain⟨⟨av,a8⟩,e1,e2⟩:=B9 e;dsimp only at e2;split at e2
 ·rename_i hn;refine⟨G,env,av,a8,rl,e1,fun vs G1 H1 ev ra=>?_⟩;show nY K n f (vs++[]) H1 Q E;rw[Jo];have hnone:∀a,H1 a=none->H a=none:=fun a h=>by
   cases q:H a with
   |none=>rfl
   |some o=>exact absurd h (ev.live a (by rw[q];simp))
  split at e2
  ·rename_i hs;obtain⟨⟨r',ws'⟩,e3,e4⟩:=D9 e2;cases e4;refine⟨G1,av.map (N9 (.l [])),r',ws',by rw[Qv];exact hn,HS,HU (i:=0) (w:=.nil) ev.rel ra (fun k j e=>absurd e (As hs k j)) (fun k k' j j' e=>absurd e (As hs k j)),e3,?_⟩;cases r' with
   |d d=>exact fun v G2 H2 f9 rp=>k v G2 H2 (ev.trans (HV ev.rel ra hs f9)) rp
   |l ds=>
    intro a xs G2 H2 f9 ha no h' g' rp;exact k a xs G2 H2 (ev.trans (HV ev.rel ra hs f9)) (hnone a ha) (ev.rel.unowned ha) h' g' rp
  ·rename_i i hs;obtain⟨w,e3,e4⟩:=B9 e2;obtain⟨c,e5,e6⟩:=B9 e4;obtain⟨⟨r',ws'⟩,e7,e8⟩:=B9 e6;obtain⟨c',e9,e10⟩:=D9 e8;cases e10;obtain⟨kk,hk,uk⟩:=HR hs;refine⟨G1,av.map (N9 c),r',ws',by rw[Qv];exact hn,HS,HU (i:=i) (w:=w) ev.rel ra (fun k j e=>⟨(uk k j e).2,e3,e5⟩) (fun k k' j j' h1 h2=>(uk k j h1).1.trans (uk k' j' h2).1.symm),e7,?_⟩;cases r' with
   |d d=>exact fun v G2 H2 f9 rp=>k v G2 H2 (ev.trans (Lg ev.rel ra hs e3 e5 e9 f9)) rp
   |l ds=>
    intro a xs G2 H2 f9 ha no h' g' rp;have evc:=Lg ev.rel ra hs e3 e5 e9 f9;refine k a xs G2 H2 (ev.trans evc) (hnone a ha) (fun z=>?_) h' g' rp;rcases evc.sub a z with q|q
    ·exact ev.rel.unowned ha q
    ·obtain⟨j,v,es,y1,y2,y3⟩:=z;rcases K4 y1 with⟨z1,z2⟩|⟨z1,z2⟩
     ·subst z1;exact ev.rel.unowned ha ⟨j,w,c,e3,e5,y3⟩
     ·exact ev.rel.unowned ha ⟨j,v,es,z2,y2,y3⟩
  ·cases e2
 ·cases e2
section
variable{p:Pos}{fn:Fn}{f:ah}{fd:FuncData}{ps:ar}
theorem Wd(F:i4 X.prog X.w X.K X.mg X.base mZ k f fd ps (nY X.K ps.length fn))(hr:g9 k X.A)(hg:Gl X x)(hm:X.mg x=some (.ref f))(hk:PySem.W.keepIn X.K (.ref f)=true)(hb:Q7 X.K fd ps [])
  (ha:sO X B (e::es) as)(hdb:(x==("__debug__":Str))=false:=by decide)(he:starEach (e::es) X.env=(false,eval e X.env)::starEach es X.env:=by rfl)(hpl:(backTo pos (starEach es X.env)).any (·.1)=false:=by rfl):
  ED X B (.Call (.Name x p) (e::es) [] pos) (i7 ps.length fn as):=by
 refine c9 (Es F hr hg hm hk hb .nil Gw ha hdb he hpl) ?_;rintro σ H Q ⟨G,env,d,env',rl,e,k⟩;obtain⟨⟨r,a8⟩,e1,e2⟩:=B9 e;cases r with
 |d d'=>cases e2;exact Lh rl e1 k
 |l ds=>cases e2
theorem We(F:i4 X.prog X.w X.K X.mg X.base mZ k f fd ps (nY X.K ps.length fn))(hr:g9 k X.A)(hg:Gl X x)(hm:X.mg x=some (.ref f))(hk:PySem.W.keepIn X.K (.ref f)=true)(hb:Q7 X.K fd ps [])
  (ha:sO X B (e::es) as)(hdb:(x==("__debug__":Str))=false:=by decide)(he:starEach (e::es) X.env=(false,eval e X.env)::starEach es X.env:=by rfl)(hpl:(backTo pos (starEach es X.env)).any (·.1)=false:=by rfl):
  EL X B (.Call (.Name x p) (e::es) [] pos) (O7 ps.length fn as):=by
 refine c9 (Es F hr hg hm hk hb .nil Gw ha hdb he hpl) ?_;rintro σ H Q ⟨G,env,d,env',rl,e,k⟩;obtain⟨⟨r,a8⟩,e1,e2⟩:=B9 e;cases r with
 |d d'=>cases e2
 |l ds=>cases e2;exact Lh rl e1 k
end
def M9(cells:List (Str×ah)):List (Str×NameKind)->List (Str×ah)->List (Str×ah)
 |[],acc=>acc
 |(n,k)::r,acc=>if k==.free then(match cells.lookup n with
  |some c=>M9 cells r ((n,c)::acc)
  |none=>M9 cells r acc)else M9 cells r acc
theorem R3{n:Str}{a:α}{r:List (Str×α)}:((n,a)::r).lookup x=if x=n then some a else r.lookup x:=by
 rw[List.lookup_cons]
 by_cases h:x=n
 ·subst h;simp
 ·have:(x==n)=false:=by simpa using h
  rw[this,Qb h]
theorem Au{cells:List (Str×ah)}:∀{names:List (Str×NameKind)}{acc:List (Str×ah)}{x:Str}{c:ah},(M9 cells names acc).lookup x=some c->acc.lookup x=some c\/cells.lookup x=some c
 |[],acc,x,c,h=>.inl h
 |(n,k)::r,acc,x,c,h=>by
  unfold M9 at h;split at h
  ·split at h
   ·rename_i c' hc;rcases Au h with q|q
    ·rw[R3]at q;split at q
     ·rename_i e;subst e;cases q;exact .inr hc
     ·exact .inl q
    ·exact .inr q
   ·exact Au h
  ·exact Au h
theorem FM{cells:List (Str×ah)}:∀{names:List (Str×NameKind)}{acc:List (Str×ah)}{x:Str},(acc.lookup x).isSome=true->((M9 cells names acc).lookup x).isSome=true
 |[],acc,x,h=>h
 |(n,k)::r,acc,x,h=>by
  unfold M9;split
  ·split
   ·refine FM ?_;rw[R3];split<;>simp[h]
   ·exact FM h
  ·exact FM h
theorem BZ{cells:List (Str×ah)}:∀{names:List (Str×NameKind)}{acc:List (Str×ah)}{x:Str},(x,NameKind.free)∈names->(cells.lookup x).isSome=true->((M9 cells names acc).lookup x).isSome=true
 |[],acc,x,h,_=>by cases h
 |(n,k)::r,acc,x,h,hc=>by
  unfold M9;rcases Qp.mp h with e|h
  ·cases e;rw[Qg (by decide)];split
   ·refine FM ?_;rw[R3];simp
   ·rename_i hn;rw[hn]at hc;cases hc
  ·split
   ·split
    ·exact BZ h hc
    ·exact BZ h hc
   ·exact BZ h hc
theorem HW:∀{names:List (Str×NameKind)}{h:Heap}{acc:List (Str×ah)}{x:Str}{c:ah},(cellsFrom h.objs.size names acc).lookup x=some c->
  acc.lookup x=some c\/((pushCells h names).IsCell c none/\h.objs.size≤c/\(x,NameKind.cell)∈names)
 |[],h,acc,x,c,q=>.inl q
 |(n,k)::r,h,acc,x,c,q=>by
  unfold cellsFrom at q;unfold pushCells;split at q
  ·rename_i hk;rw[Qg hk];have hk':k=.cell:=by simpa using hk
   have ih:=HW (names:=r) (h:=h.push {cls:=.type "cell",data:=.cell none}) (acc:=(n,h.objs.size)::acc) (x:=x) (c:=c) (by rw[Jj];exact q);rcases ih with z|⟨z1,z2,z3⟩
   ·rw[R3]at z;split at z
    ·rename_i e;subst e;cases z;exact .inr ⟨⟨_,Pg _ _ _ _ (Qw _ rfl),rfl⟩,Qy _,by rw[hk'];exact Zv⟩
    ·exact .inl z
   ·rw[Jj]at z2;exact .inr ⟨z1,by omega,Qo _ z3⟩
  ·rename_i hk;rw[Qb hk];rcases HW q with z|⟨z1,z2,z3⟩
   ·exact .inl z
   ·exact .inr ⟨z1,z2,Qo _ z3⟩
theorem HX:∀{names:List (Str×NameKind)}{n:Nat}{acc:List (Str×ah)},(∀x y c,acc.lookup x=some c->acc.lookup y=some c->x=y)->(∀x c,acc.lookup x=some c->c<n)->
  ∀x y c,(cellsFrom n names acc).lookup x=some c->(cellsFrom n names acc).lookup y=some c->x=y
 |[],n,acc,h1,h2=>h1
 |(m,k)::r,n,acc,h1,h2=>by
  unfold cellsFrom;split
  ·refine HX (names:=r) (fun x y c q1 q2=>?_) (fun x c q=>?_)
   ·rw[R3]at q1 q2;split at q1<;>split at q2
    ·rename_i e1 e2;rw[e1,e2]
    ·cases q1;exact absurd (h2 _ _ q2) (Jf _)
    ·cases q2;exact absurd (h2 _ _ q1) (Jf _)
    ·exact h1 x y c q1 q2
   ·rw[R3]at q;split at q
    ·cases q;exact Nat.lt_succ_self _
    ·exact Jz (h2 _ _ q)
  ·exact HX (names:=r) h1 h2
theorem FN{env:Env}{x:Str}:∀{names:List (Str×NameKind)},((names.map fun(n,k)=>if(k==NameKind.free&&env.scope.kind==.function&&env.kindOf n==some .cell)then(n,NameKind.cell)else(n,k)).lookup x)=
  (names.lookup x).map fun k=>if(k==NameKind.free&&env.scope.kind==.function&&env.kindOf x==some .cell)then NameKind.cell else k
 |[]=>rfl
 |(n,k)::r=>by
  have ih:=FN (env:=env) (x:=x) (names:=r);show List.lookup x ((if(k==NameKind.free&&env.scope.kind==.function&&env.kindOf n==some .cell)=true then(n,NameKind.cell)else(n,k))::_)=_
  by_cases hx:x=n
  ·subst hx;rw[R3 (a:=k),Qg rfl]
   by_cases hc:(k==NameKind.free&&env.scope.kind==.function&&env.kindOf x==some .cell)=true
   ·rw[Qg hc,R3,Qg rfl];show _=some (if(k==NameKind.free&&env.scope.kind==.function&&env.kindOf x==some .cell)=true then NameKind.cell else k);rw[Qg hc]
   ·rw[Qb hc,R3,Qg rfl];show _=some (if(k==NameKind.free&&env.scope.kind==.function&&env.kindOf x==some .cell)=true then NameKind.cell else k);rw[Qb hc]
  ·rw[R3 (a:=k),Qb hx]
   by_cases hc:(k==NameKind.free&&env.scope.kind==.function&&env.kindOf n==some .cell)=true
   ·rw[Qg hc,R3,Qb hx];exact ih
   ·rw[Qb hc,R3,Qb hx];exact ih
theorem FO:∀{names:List (Str×NameKind)}{n:Nat}{acc:List (Str×ah)}{x:Str}{c0:ah},acc.lookup x=some c0->∃c,(cellsFrom n names acc).lookup x=some c/\(c=c0\/n≤c)
 |[],n,acc,x,c0,h=>⟨c0,h,.inl rfl⟩
 |(m,k)::r,n,acc,x,c0,h=>by
  unfold cellsFrom;split
  ·by_cases hx:x=m
   ·obtain⟨c,h1,h2⟩:=FO (names:=r) (n:=n+1) (acc:=(m,n)::acc) (x:=x) (c0:=n) (by rw[R3,Qg hx]);exact⟨c,h1,.inr (h2.elim (fun z=>Vv z.symm) fun z=>Ua z)⟩
   ·obtain⟨c,h1,h2⟩:=FO (names:=r) (n:=n+1) (acc:=(m,n)::acc) (x:=x) (c0:=c0) (by rw[R3,Qb hx];exact h);exact⟨c,h1,h2.elim .inl fun z=>.inr (Ua z)⟩
  ·exact FO h
theorem HY:∀{names:List (Str×NameKind)}{n:Nat}{acc:List (Str×ah)}{x:Str},(x,NameKind.cell)∈names->∃c,(cellsFrom n names acc).lookup x=some c/\n≤c
 |[],n,acc,x,h=>by cases h
 |(m,k)::r,n,acc,x,h=>by
  unfold cellsFrom;rcases Qp.mp h with e|h
  ·cases e;rw[Qg (by decide)];obtain⟨c,h1,h2⟩:=FO (names:=r) (n:=n+1) (acc:=(m,n)::acc) (x:=m) (c0:=n) (by rw[R3,Qg rfl]);exact⟨c,h1,h2.elim (fun z=>Vv z.symm) fun z=>Ua z⟩
  ·split
   ·obtain⟨c,h1,h2⟩:=HY (names:=r) (n:=n+1) (acc:=(m,n)::acc) h;exact⟨c,h1,Ua h2⟩
   ·exact HY h
def CJ(scope:Scope)(env:Env)(C:ah):Env:=
 {scope:=relabel scope env,locals:=C,globals:=env.globals,cells:=cellsFrom (C+1) scope.names (M9 env.cells scope.names []),qual:=env.qual,func:=none,code:=env.code,frame:=env.frame,builtins:=env.builtins}
def F4(X:Cx)(N':ar)(scope:Scope)(s:ak)(H:Hp)(fp:List ah):Cx where
 prog:=X.prog
 w:=X.w
 K:=X.K
 mg:=X.mg
 base:=X.base
 A:=X.A
 N:=N'
 s₀:=s
 H₀:=H
 env:=CJ scope X.env s.heap.objs.size
 outer:=X.stack
 stack:=X.stack
 ex:=fp
 fn:=fun x=>scope.names.lookup x==some .cell
 calm:=X.calm
 pn:=[]
 xe:=fun _ _=>False
structure mY(X:Cx)(N':ar)(scope:Scope)(keep:ay)(more:Nat):Prop where
 kind:scope.kind=.function
 uniq:∀y∈scope.names,scope.names.lookup y.1=some y.2
 clos:closureFor scope X.env=pure (M9 X.env.cells scope.names [])
 free:∀y∈scope.names,y.2=.free->(X.env.cells.lookup y.1).isSome=true
 klen:keep.length=X.N.length
 len:N'.length=X.N.length+more
 kept:∀(i:Nat) (x:Str),keep[i]? =some true->N'[i]? =some x->X.N[i]? =some x/\scope.names.lookup x≠some .local/\scope.names.lookup x≠some .cell
 outVis:∀(i:Nat) (x:Str),keep[i]? =some true->X.N[i]? =some x->scope.names.lookup x=some .free->X.env.scope.names.lookup x=some .cell\/X.env.scope.names.lookup x=some .free
def N0(keep:ay)(more:Nat)(σ:St):St:=List.zipWith (fun k v=>if k then v else none) keep σ++List.replicate more none
theorem Ba{keep:ay}(h:(N0 keep more σ)[i]? =some (some v)):keep[i]? =some true/\σ[i]? =some (some v):=by
 unfold N0 at h;rcases Ap h with⟨_,h⟩|⟨_,h⟩
 ·rw[Ja]at h;cases e1:keep[i]? with
  |none=>rw[e1]at h;cases h
  |some k=>
   cases e2:σ[i]? with
   |none=>rw[e1,e2]at h;cases h
   |some u=>
    rw[e1,e2]at h;cases k with
    |true=>simp at h;exact⟨rfl,by rw[h]⟩
    |false=>simp at h
 ·cases h
theorem Wf{keep:ay}{fp:List ah}(ok:mY X N' scope keep more)(I:Inv X pins σ H s)
  (hf:∀b∈fp,P7 X pins H b/\b<s.heap.objs.size):
  Inv (F4 X N' scope s H fp) [] (N0 keep more σ) H {s with heap:=pushCells (s.heap.push {cls:=.type "dict",data:=.dict #[]}) scope.names}:=by
 have hsz:(s.heap.push {cls:=.type "dict",data:=.dict #[]}).objs.size=s.heap.objs.size+1:=Jj ..;have keepAll:∀b u,s.heap.get? b=some u->(pushCells (s.heap.push {cls:=.type "dict",data:=.dict #[]}) scope.names).get? b=some u:=fun b u e=>Pg _ _ _ _ (Qx _ e);have cases':∀x c,(CJ scope X.env s.heap.objs.size).cells.lookup x=some c->X.env.cells.lookup x=some c\/((pushCells (s.heap.push {cls:=.type "dict",data:=.dict #[]}) scope.names).IsCell c none/\s.heap.objs.size+1≤c/\(x,NameKind.cell)∈scope.names):=fun x c e=>by
  have e':(cellsFrom ((s.heap.push {cls:=.type "dict",data:=.dict #[]}).objs.size) scope.names (M9 X.env.cells scope.names [])).lookup x=some c:=by rw[hsz];exact e
  rcases HW e' with z|⟨z1,z2,z3⟩
  ·rcases Au z with y|y
   ·cases y
   ·exact .inl y
  ·rw[hsz]at z2;exact .inr ⟨z1,z2,z3⟩
 have cellLt:∀x c,X.env.cells.lookup x=some c->c<s.heap.objs.size:=fun x c e=>by
  obtain⟨v,q⟩:=I.cell x c e;exact q.lt
 have fsSub:∀b∈nI X.stack,b<s.heap.objs.size:=fun b hb=>by
  obtain⟨_,o,ho,_⟩:=I.stack.mem hb;exact Qu ho
 refine⟨⟨I.ok.mod,?_,I.ok.glob,I.ok.blt,Qy _,fun x y c e1 e2=>?_,fun x hx=>?_,fun x c e1 e2=>?_,I.ok.hd,I.ok.frames,.inl rfl,fun b hb=>?_,I.bs,Qn I.ok.bsz I.sz,fun b o e hb=>?_,fun b hb hb2=>?_,I.stack,I.stkFree⟩,
  rfl,I.bare,Un.kept keepAll,⟨fun _=>none,(Heap.Ns.new s.heap (.type "dict")).keeps (Pg _ _),fun i x v e1 e2 e3=>?_⟩,fun x c e=>?_,I.hok.fresh (Qy _),fun x c e=>?_,fun p hp=>absurd (show p∈([]:OA)from hp) (by simp),I.hok.kept keepAll,?_⟩
 ·show(relabel scope X.env).kind=.function;exact ok.kind
 ·refine HX (names:=scope.names) (n:=s.heap.objs.size+1) (acc:=M9 X.env.cells scope.names []) (fun x y c q1 q2=>?_) (fun x c q=>?_) x y c e1 e2
  ·rcases Au q1 with z1|z1
   ·cases z1
   ·rcases Au q2 with z2|z2
    ·cases z2
    ·exact I.ok.inj x y c z1 z2
  ·rcases Au q with z1|z1
   ·cases z1
   ·exact Jz (cellLt x c z1)
 ·have hx':(relabel scope X.env).names.lookup x=some .cell\/(relabel scope X.env).names.lookup x=some .free:=hx;have h1:scope.names.lookup x=some .cell\/scope.names.lookup x=some .free:=by
   unfold relabel at hx';rw[FN]at hx';cases q:scope.names.lookup x with
   |none=>rw[q]at hx';simp at hx'
   |some k=>
    rw[q]at hx';cases k<;>simp at hx'<;>first|exact .inl rfl|exact .inr rfl
  refine Yy.mp (Vs scope.names _ _ ?_);rcases h1 with h1|h1
  ·exact .inl h1
  ·exact .inr (BZ (Zp h1) (ok.free _ (Zp h1) rfl))
 ·have e1':scope.names.lookup x=some .cell:=by simpa [F4]using e1
  obtain⟨c',q1,q2⟩:=HY (names:=scope.names) (n:=s.heap.objs.size+1) (acc:=M9 X.env.cells scope.names []) (Zp e1');have e2':(cellsFrom (s.heap.objs.size+1) scope.names (M9 X.env.cells scope.names [])).lookup x=some c:=e2;rw[q1]at e2';cases e2';exact Ua q2
 ·refine⟨Qd (hf b hb).2,fun x c e z=>?_⟩;rcases cases' x c e with y|⟨_,y,_⟩
  ·exact(hf b hb).1.2.2.2.2.1 x c y z
  ·exact absurd (Ql (hf b hb).2 (Ua y)) (by rw[z];exact Jf _)
 ·have:=(I.bs b o e).1;rcases(hf b hb).1.2.2.2.1 with z|z
  ·exact I.ok.noex b o e z
  ·exact absurd (Ql (Qu e) (Qn I.ok.bsz z)) (Jf _)
 ·rcases Qp.mp (I.stkSub b hb2)with z|z
  ·exact(hf b hb).1.2.1 z
  ·exact(hf b hb).1.2.2.1 z
 ·obtain⟨k1,k2⟩:=Ba e2;obtain⟨h1,h2,h3⟩:=ok.kept i x k1 e1;have e3':(relabel scope X.env).names.lookup x=some .local\/(relabel scope X.env).names.lookup x=some .cell\/(relabel scope X.env).names.lookup x=some .free:=e3;have hfree:scope.names.lookup x=some .free:=by
   unfold relabel at e3';rw[FN]at e3';cases q:scope.names.lookup x with
   |none=>rw[q]at e3';simp at e3'
   |some k=>
    rw[q]at e3' h2 h3;cases k<;>simp at e3' h2 h3<;>rfl
  obtain⟨m,hn,hl⟩:=I.loc;have ov:=ok.outVis i x k1 h1 hfree;obtain⟨u,r,l⟩:=hl i x v h1 k2 (.inr ov);refine⟨u,r,.inr ?_⟩;obtain⟨c0,hc0⟩:=Yy.mp (ok.free _ (Zp hfree) rfl);have hcell:s.heap.IsCell c0 (some u):=by
   rcases l with⟨kl,_⟩|⟨_,c,hc,hz⟩
   ·have kl':X.env.scope.names.lookup x=some .local:=kl;rcases ov with z|z<;>(rw[z]at kl';cases kl')
   ·have hc':X.env.cells.lookup x=some c:=hc;have hc0':X.env.cells.lookup x=some c0:=hc0;rw[hc']at hc0';cases hc0';exact hz
  have hk:(CJ scope X.env s.heap.objs.size).kindOf x=some .cell\/(CJ scope X.env s.heap.objs.size).kindOf x=some .free:=by
   show(relabel scope X.env).names.lookup x=some .cell\/(relabel scope X.env).names.lookup x=some .free;rcases e3' with z|z
   ·exfalso
    unfold relabel at z;rw[FN,hfree]at z;simp only[Zi,Yx]at z;split at z<;>cases z
   ·exact z
  refine⟨hk,c0,?_,hcell.keeps keepAll⟩;obtain⟨c1,hc1⟩:=Yy.mp (Vs (x:=x) scope.names (s.heap.objs.size+1) (M9 X.env.cells scope.names []) (.inr (BZ (Zp hfree) (ok.free _ (Zp hfree) rfl))));have hc1':(CJ scope X.env s.heap.objs.size).cells.lookup x=some c1:=hc1;rcases cases' x c1 hc1' with z|⟨_,_,z⟩
  ·have hc0':X.env.cells.lookup x=some c0:=hc0;rw[hc0']at z;cases z;exact hc1'
  ·have:=ok.uniq _ z;rw[hfree]at this;cases this
 ·rcases cases' x c e with y|⟨y,_,_⟩
  ·obtain⟨v,q⟩:=I.cell x c y;exact⟨v,q.keeps keepAll⟩
  ·exact⟨none,y⟩
 ·rcases cases' x c e with y|⟨_,y,_⟩
  ·exact I.freeC x c y
  ·exact I.hok.fresh (by omega)
 ·show(N0 keep more σ).length=N'.length;unfold N0;rw[Zx,Jw,Yi,ok.len,ok.klen,I.len];omega
section
variable{prog:af}{w:ag}{A:Around}{R:Result->ak->Prop}
theorem Wg{M:Model}{env:Env}{Q:Env->ak->Prop}(cl:List (Str×ah))
  (h:Q {scope:=scope,locals:=s.heap.objs.size,globals:=env.globals,cells:=cellsFrom (s.heap.objs.size+1) scope.names cl,qual:=env.qual,func:=none,code:=env.code,frame:=env.frame,builtins:=env.builtins}
   {s with heap:=pushCells (s.heap.push {cls:=.type "dict",data:=.dict #[]}) scope.names}):
  wpAny M A (newFunctionEnv scope env.globals cl [] env.qual none .none (some env)) Q E s:=by
 simp only[newFunctionEnv,Option.isSome_some,Yw];refine Qq (wpAny_alloc ?_);refine Qq (wpAny_layCells _ (fun name kind cells=>by cases hkc:kind==NameKind.cell<;>simp[hkc]) _ _ _ _ ?_);rw[show({s with heap:=s.heap.push {cls:=.type "dict",data:=.dict #[]}}:ak).heap.objs.size=s.heap.objs.size+1 from Jj ..];exact Qq (by rw[Rq];exact Qz (Qz h))
end
def U2(X:Cx)(ifs:au)(t:TT):Prop:=
 ∀(pins:OA) (s:ak) (σ:St) (H:Hp) (Q:Bool->Hp->Prop),Inv X pins σ H s->t σ H Q->
  wpAny (model X.prog X.w) X.A (forIn ifs true fun c r=>if r=true then do let ok←isTrue c X.env (eval c X.env);pure (ForInStep.yield ok)else pure (ForInStep.yield r)) (TP X pins σ Q) X.xe s
theorem Wh:U2 X [] (fun _ H Q=>Q true H):=fun _ _ _ H _ I h=>wpAny_tests_nil ⟨H,I,h⟩
theorem Wi{t:TT}(h:PT X c t):U2 X [c] t:=fun pins s σ H Q I q=>wpAny_tests_one (h pins s σ H Q I q)
section
variable{keep:ay}{elt:Expr}{ifs:au}{g:TG}{tt:TT}{te:TE}
end
def K5(keep:ay)(more:Nat)(env:a9):a9:=List.zipWith (fun k w=>if k then w else .nil) keep env++List.replicate more .nil
def Q2:Bool->W->W->Option W
 |false,w,_=>some w
 |true,.nil,_=>some .nil
 |true,.dat d,_=>some (.dat d)
 |true,.own _,.own ds=>some (.own ds)
 |true,.own _,.dat d=>some (.dat d)
 |true,.par _,.par ds=>some (.par ds)
 |true,.ownD _ _,.ownD ks vs=>some (.ownD ks vs)
 |true,.ownD _ _,.dat d=>some (.dat d)
 |true,.parD _ _,.parD ks vs=>some (.parD ks vs)
 |true,.ownX _ _,.ownX ks vs=>some (.ownX ks vs)
 |true,.ownX _ _,.dat d=>some (.dat d)
 |true,.parX _ _,.parX ks vs=>some (.parX ks vs)
 |_,_,_=>none
theorem Wj{w':W}(h:Q2 true w w2=some w')(e:w'.mut=some m):w2=w'/\∃d0,w.mut=some d0/\w.isOwn=w'.isOwn/\w.isPar=w'.isPar:=by
 cases w<;>cases w2<;>first
  |(simp only[Q2,Yx]at h;subst h;exact⟨rfl,_,rfl,rfl,rfl⟩)
  |(simp only[Q2,Yx]at h;subst h;cases e;done)
  |(simp[Q2]at h;done)
theorem Wk(h:Q2 true w w2=some (.dat d)):w=.dat d\/(w2=.dat d/\∃d0,w.mut=some d0):=by
 cases w<;>cases w2<;>first
  |(simp only[Q2,Yx]at h;exact .inl h)
  |(simp only[Q2,Yx]at h;exact .inr ⟨h,_,rfl⟩)
  |(simp[Q2]at h;done)
def K6:ay->a9->a9->Option a9
 |[],[],_=>some []
 |k::ks,w::ws,w2::wZ=>(Q2 k w w2).bind fun x=>(K6 ks ws wZ).map fun r=>x::r
 |_,_,_=>none
theorem HZ:∀{keep:ay}{env g0 env':a9}{i:Nat}{w':W},K6 keep env g0=some env'->env'[i]? =some w'->∃k w w2,keep[i]? =some k/\env[i]? =some w/\g0[i]? =some w2/\Q2 k w w2=some w'
 |[],[],_,env',i,w',h,e=>by simp only[K6,Yx]at h;subst h;simp at e
 |[],_::_,_,env',i,w',h,e=>by simp[K6]at h
 |k::ks,[],_,env',i,w',h,e=>by simp[K6]at h
 |k::ks,w::ws,[],env',i,w',h,e=>by simp[K6]at h
 |k::ks,w::ws,w2::wZ,env',i,w',h,e=>by
  unfold K6 at h;obtain⟨x,h1,h2⟩:=B9 h;obtain⟨r,h3,h4⟩:=D9 h2;subst h4;cases i with
  |zero=>simp at e;subst e;exact⟨k,w,w2,rfl,rfl,rfl,h1⟩
  |succ i=>simpa using HZ (i:=i) h3 (by simpa using e)
theorem Li:∀{keep:ay}{env g0 env':a9},K6 keep env g0=some env'->env'.length=env.length
 |[],[],_,env',h=>by simp only[K6,Yx]at h;subst h;rfl
 |[],_::_,_,env',h=>by simp[K6]at h
 |k::ks,[],_,env',h=>by simp[K6]at h
 |k::ks,w::ws,[],env',h=>by simp[K6]at h
 |k::ks,w::ws,w2::wZ,env',h=>by
  unfold K6 at h;obtain⟨x,h1,h2⟩:=B9 h;obtain⟨r,h3,h4⟩:=D9 h2;subst h4;simp[Li h3]
theorem Bb{keep:ay}(h:(K5 keep more env)[i]? =some w)(hw:w≠.nil):keep[i]? =some true/\env[i]? =some w:=by
 unfold K5 at h;rcases Ap h with⟨_,h⟩|⟨_,h⟩
 ·rw[Ja]at h;cases e1:keep[i]? with
  |none=>rw[e1]at h;cases h
  |some k=>
   cases e2:env[i]? with
   |none=>rw[e1,e2]at h;cases h
   |some u=>
    rw[e1,e2]at h;cases k with
    |true=>simp at h;exact⟨rfl,by rw[h]⟩
    |false=>simp at h;exact absurd h.symm hw
 ·exact absurd h hw
theorem DS{keep:ay}{v:Option V}(hk:keep[i]? =some true)(h:σ[i]? =some v):(N0 keep more σ)[i]? =some v:=by
 unfold N0;have h1:i<keep.length:=(Qc.mp hk).1;have h2:i<σ.length:=(Qc.mp h).1;rw[Je (by rw[Jw];omega),Ja,hk,h];rfl
theorem DT{ds:Mu}(h:w.mut=some ds):w≠.nil:=fun z=>by rw[z]at h;cases h
section
variable{K:Qj}{g0:a9}{keep:ay}
theorem Ha(h:d9 (N0 keep more σ) (K5 keep more env) a):d9 σ env a:=by
 obtain⟨i,w,ds,e1,e2,e3⟩:=h;exact⟨i,w,ds,(Bb e1 (DT e2)).2,e2,(Ba e3).2⟩
theorem Rel.ext(r:Rel K B G σ env H)(hk:keep.length=σ.length):Rel K B G (N0 keep more σ) (K5 keep more env) H:=by
 refine⟨r.sub,?_,fun i d e=>?_,fun i w ds e1 e2=>?_,fun i j w w' ds es a q1 q2 q3 q4 q5 q6=>?_,fun i w a q1 qo q2=>?_,r.old,r.tabs,r.gnt⟩
 ·unfold K5 N0;rw[Zx,Zx,Jw,Jw,Yi,Yi,r.len]
 ·obtain⟨k1,k2⟩:=Bb e (by simp);obtain⟨v,e1,e2⟩:=r.dat i d k2;exact⟨v,DS k1 e1,e2⟩
 ·obtain⟨k1,k2⟩:=Bb e1 (DT e2);obtain⟨a,xs,e3,e4⟩:=r.own i w ds k2 e2;exact⟨a,xs,DS k1 e3,e4⟩
 ·exact r.inj i j w w' ds es a (Bb q1 (DT q2)).2 q2 (Bb q3 (DT q4)).2 q4 (Ba q5).2 (Ba q6).2
 ·exact r.fresh i w a (Bb q1 (by rintro rfl;cases qo)).2 qo (Ba q2).2
theorem Ev.out(r:Rel K B G σ env H)(hk:keep.length=σ.length)(ev:Ev K B G (N0 keep more σ) (K5 keep more env) H G' σ' g0 H')(hσ:∀j,j<σ.length->σ'[j]? =(N0 keep more σ)[j]?)(ho:K6 keep env g0=some env'):
  Ev K B G σ env H G' σ env' H':=by
 have mutO:∀(i:Nat) (w':W) (ds:Mu),env'[i]? =some w'->w'.mut=some ds->∃w0 d0,env[i]? =some w0/\w0.mut=some d0/\w0.isOwn=w'.isOwn/\w0.isPar=w'.isPar/\
   ∃a o,σ[i]? =some (some (V.ref a))/\H' a=some o/\nU K G' o ds/\G' a=none:=fun i w' ds e1 e2=>by
  obtain⟨k,w,w2,h1,h2,h3,h4⟩:=HZ ho e1;have hi:i<σ.length:=by have:=(Qc.mp h2).1;rw[←r.len];exact this
  cases k with
  |false=>
   simp only[Q2,Yx]at h4;subst h4;obtain⟨a,xs,q1,q2,q3,q4⟩:=r.own i w ds h2 e2;have no:¬ d9 (N0 keep more σ) (K5 keep more env) a:=by
    rintro⟨j,v,es,y1,y2,y3⟩;obtain⟨z1,z2⟩:=Bb y1 (DT y2);have:=r.inj j i v w es ds a z2 y2 h2 e2 (Ba y3).2 q1;subst this;rw[h1]at z1;cases z1
   exact⟨w,ds,h2,e2,rfl,rfl,a,xs,q1,ev.keep a _ no q3.nt q2,q3.mono ev.same,ev.stay a (by rw[q2];simp) no q4⟩
  |true=>
   obtain⟨z,d0,z1,z2,z3⟩:=Wj h4 e2;subst z;refine⟨w,d0,h2,z1,z2,z3,?_⟩;obtain⟨a,xs,q1,q2,q3,q4⟩:=ev.rel.own i w2 ds h3 e2;obtain⟨a0,xs0,p1,_⟩:=r.own i w d0 h2 z1;rw[hσ i hi,DS h1 p1]at q1;cases q1;exact⟨a,xs,p1,q2,q3,q4⟩
 refine⟨⟨ev.rel.sub,by rw[Li ho];exact r.len,fun i d e=>?_,fun i w ds e1 e2=>?_,fun i j w w' ds es a q1 q2 q3 q4 q5 q6=>?_,fun i w a q1 qo q2=>?_,ev.rel.old,ev.rel.tabs,ev.rel.gnt⟩,ev.same,fun b o n t e=>ev.keep b o (fun z=>n (Ha z)) t e,ev.live,fun b e n g=>ev.stay b e (fun z=>n (Ha z)) g,fun a z=>.inl ?_,fun i w e hp=>⟨rfl,?_⟩,rfl⟩
 ·obtain⟨k,w,w2,h1,h2,h3,h4⟩:=HZ ho e;have hi:i<σ.length:=by have:=(Qc.mp h2).1;rw[←r.len];exact this
  have old:w=.dat d->∃v,σ[i]? =some (some v)/\b0 K G' v d:=fun z=>by
   subst z;obtain⟨v,e1,e2⟩:=r.dat i d h2;exact⟨v,e1,b0.mono ev.same d e2⟩
  cases k with
  |false=>simp only[Q2,Yx]at h4;exact old h4
  |true=>
   rcases Wk h4 with z|⟨z,d0,z0⟩
   ·exact old z
   ·subst z;obtain⟨v,q1,q2⟩:=ev.rel.dat i d h3;obtain⟨a0,xs0,p1,_⟩:=r.own i _ d0 h2 z0;rw[hσ i hi,DS h1 p1]at q1;cases q1;exact⟨_,p1,q2⟩
 ·obtain⟨w0,d0,_,_,_,_,q⟩:=mutO i w ds e1 e2;exact q
 ·obtain⟨w0,d0,y1,y2,_⟩:=mutO i w ds q1 q2;obtain⟨w1,d1,y3,y4,_⟩:=mutO j w' es q3 q4;exact r.inj i j w0 w1 d0 d1 a y1 y2 y3 y4 q5 q6
 ·obtain⟨m,hm⟩:=oR qo;obtain⟨w0,d0,y1,_,y3,_⟩:=mutO i _ m q1 hm;exact r.fresh i w0 a y1 (y3.trans qo) q2
 ·obtain⟨i,w,ds,e1,e2,e3⟩:=z;obtain⟨w0,d0,y1,y2,_⟩:=mutO i w ds e1 e2;exact⟨i,w0,d0,y1,y2,e3⟩
 ·obtain⟨m,hm⟩:=n8 hp;obtain⟨w0,d0,y1,_,_,y4,_⟩:=mutO i _ m e hm;exact⟨w0,y1,y4.trans hp⟩
theorem Ev.swapAt(ev:Ev K B G σ env H G' σ' env' H')(no:¬ d9 σ env p)(hp:H p≠none)(gp:G p=none)(nt:NT o)(nx:∀φ,H' p≠some (.ext φ)):Ev K B G σ env (upd H p o) G' σ' env' (upd H' p o):=by
 have np:∀(i:Nat) (w:W) (ds:Mu) (a:ah),env'[i]? =some w->w.mut=some ds->σ'[i]? =some (some (V.ref a))->a≠p:=fun i w ds a e1 e2 e3 z=>by
  rcases ev.sub a ⟨i,w,ds,e1,e2,e3⟩with q|q
  ·exact no (z ▸ q)
  ·exact hp (z ▸ q)
 have gp':G' p=none:=ev.stay p hp no gp;have live':∀b,H' b≠none->(upd H' p o) b≠none:=fun b h=>by
  by_cases hb:b=p
  ·subst hb;rw[D7];simp
  ·rw[C6 hb];exact h
 refine⟨⟨fun b u e=>?_,ev.rel.len,ev.rel.dat,fun i w ds e1 e2=>?_,ev.rel.inj,ev.rel.fresh,fun b h=>live' b (ev.rel.old b h),ev.rel.tabs.upd nt nx,ev.rel.gnt⟩,ev.same,fun b u n t e=>?_,fun b e=>?_,fun b e n g=>?_,fun a z=>?_,ev.par,ev.slen⟩
 ·have hb:b≠p:=fun z=>by rw[z,gp']at e;cases e
  rw[C6 hb];exact ev.rel.sub b u e
 ·obtain⟨a,xs,e3,e4,e5,e6⟩:=ev.rel.own i w ds e1 e2;exact⟨a,xs,e3,by rw[C6 (np i w ds a e1 e2 e3)];exact e4,e5,e6⟩
 ·by_cases hb:b=p
  ·subst hb;rw[D7]at e ⊢;exact e
  ·rw[C6 hb]at e ⊢;exact ev.keep b u n t e
 ·by_cases hb:b=p
  ·subst hb;rw[D7];simp
  ·rw[C6 hb]at e ⊢;exact ev.live b e
 ·by_cases hb:b=p
  ·subst hb;exact gp'
  ·rw[C6 hb]at e;exact ev.stay b e n g
 ·obtain⟨i,w,ds,e1,e2,e3⟩:=id z;rw[C6 (np i w ds a e1 e2 e3)];exact ev.sub a z
end
def O0(g:OX)(t:Mo Bool)(m:Mo D):bb->Mo bb
 |[],env=>some ([],env)
 |d::ds,env=>(g d env).bind fun e1=>(t e1).bind fun p=>if p.1 then(m p.2).bind fun q=>(O0 g t m ds q.2).map fun r=>(q.1::r.1,r.2)else O0 g t m ds p.2
def N1(mi:Mo bb)(keep:ay)(more:Nat)(g:OX)(t:Mo Bool)(m:Mo D):Mo bb:=fun env=>(mi env).bind fun p=>if p.1.length≤100000 then
 (O0 g t m p.1 (K5 keep more p.2)).bind fun q=>(K6 keep p.2 q.2).map fun e=>(q.1,e)else none
def F7:Mo Bool:=fun env=>some (true,env)
theorem U3:U2 X [] (pM X.K B F7):=fun pins s σ H Q I h=>by
 obtain⟨G,env,b,env',rl,e,k⟩:=h;cases e;exact Wh pins s σ H Q I (k G H (.refl rl))
theorem Lj{t:Mo Bool}(h:ET X B c t):U2 X [c] (pM X.K B t):=Wi h
section
variable{keep:ay}{elt:Expr}{ifs:au}{g:OX}{t:Mo Bool}{m:Mo D}{mi:Mo bb}
end
section
variable{a:Expr}
def qU:D->String
 |.non=>"NoneType"|.bl _=>"bool"|.int _=>"int"|.str _=>"str"|.tup _=>"tuple"|.lst _=>"list"|.emp=>"dict"|.obj _=>"object"|.dct _ _=>"dict"|.dcx _ _=>"dict"
def J2(K:Qj)(T:String):Prop:=T∈(["tuple","list","int","bool","str"]:List String)
def R4(t T:String):Bool:=t==T||(t=="bool"&&T=="int")
theorem Hb{K:Qj}(h:J2 K T):∀d,(∀o,d≠.obj o)->PySem.W.kitOne K (.type (qU d)) (.type T)=some (R4 (qU d) T):=by
 intro d hd;unfold J2 at h;simp only[Qp,Zr,Uu]at h;rcases h with rfl|rfl|rfl|rfl|rfl<;>cases d<;>first|rfl|exact absurd rfl (hd _)
theorem Wl{A:Around}{Q:OU}{x:V}{u:aj}(I:Inv X pins σ H s)(l:Le G H)(rx:D1 x u)(rp:b0 X.K G x d)
  (kt:J2 X.K T)(h:∀tk,Q (.bool (R4 (qU d) T)) {s with toks:=tk}):wpAny (model X.prog X.w) A (call (.builtin "isinstance") [u,.type T]) Q E s:=by
 have e:=Hb kt d;cases d with
 |non=>simp only[b0]at rp;subst rp;exact BQ I rx (.non) (e nofun) h
 |bl b=>simp only[b0]at rp;subst rp;exact BQ I rx (.bl b) (e nofun) h
 |int i=>simp only[b0]at rp;subst rp;exact BQ I rx (.int i) (e nofun) h
 |str z=>simp only[b0]at rp;obtain⟨rp,_⟩:=rp;subst rp;exact BQ I rx (.str z) (e nofun) h
 |tup ds=>
  simp only[b0]at rp;obtain⟨a,xs,rfl,q,_⟩:=rp;cases rx;obtain⟨its,_,⟨o,h1,h2,_⟩,_⟩:=I.tuple (l.sqT q);exact Zf Rv I.kIn ⟨o,h1,h2⟩ (e nofun) (fun z=>nomatch z) h
 |lst ds=>
  simp only[b0]at rp;obtain⟨a,xs,rfl,q,_⟩:=rp;cases rx;obtain⟨its,_,⟨o,n,h1,h2,_⟩,_⟩:=I.list (l.sqL q);exact Zf Tg I.kIn ⟨o,h1,h2⟩ (e nofun) (fun z=>nomatch z) h
 |emp=>
  simp only[b0]at rp;obtain⟨a,kvs,rfl,q⟩:=rp;exact BQ I rx (.dK (l _ _ q)) (e nofun) h
 |dct ks vs=>
  simp only[b0]at rp;obtain⟨a,kvs,rfl,q,_⟩:=rp;exact BQ I rx (.dT (l _ _ q)) (e nofun) h
 |dcx ks vs=>
  simp only[b0]at rp;obtain⟨a,es,ep,xs,rfl,q,_⟩:=rp;exact BQ I rx (.dX (l _ _ q)) (e nofun) h
 |obj o=>
  have h0:R4 "object" T=false:=by
   unfold J2 at kt;simp only[Qp,Zr,Uu]at kt;rcases kt with rfl|rfl|rfl|rfl|rfl<;>rfl
  have h':∀tk,Q (.bool false) {s with toks:=tk}:=fun tk=>by have:=h tk;rwa [show R4 (qU (.obj o)) T=false from h0]at this
  simp only[b0]at rp;cases o with
  |exc n=>
   obtain⟨a,C,HP,rfl,_,h3,h4,h5⟩:=rp;cases rx;exact Zf h4 I.kIn (I.hok a _ (l _ _ h3)).1 (h5 T kt) (fun z=>nomatch z) h'
  |fn n=>
   obtain⟨f,rfl,_,h4⟩:=rp;cases rx;refine Zf h4 I.kIn True.intro ?_ (fun z=>nomatch z) h';unfold J2 at kt;simp only[Qp,Zr,Uu]at kt;rcases kt with rfl|rfl|rfl|rfl|rfl<;>rfl
  |dk kvs=>
   obtain⟨a,rfl,q⟩:=rp;obtain⟨_,_,vs,_,dd⟩:=(show F3 X.prog X.w H s.heap a (.dK _)from I.hok a _ (l _ _ q));obtain⟨o,h1,h2⟩:∃o,s.heap.get? a=some o/\o.cls=.type "dict":=by
    obtain⟨o,es,ep,g1,g2,_⟩:=dd;exact⟨o,g1,g2.1⟩
   cases rx;refine Zf Jq I.kIn ⟨o,h1,h2⟩ ?_ (fun z=>nomatch z) h';unfold J2 at kt;simp only[Qp,Zr,Uu]at kt;rcases kt with rfl|rfl|rfl|rfl|rfl<;>rfl
  |dt kvs=>
   obtain⟨a,ps,rfl,q,_⟩:=rp;obtain⟨_,_,vs,_,dd⟩:=(show F3 X.prog X.w H s.heap a (.dK _)from I.hok a _ (l _ _ q));obtain⟨o,h1,h2⟩:∃o,s.heap.get? a=some o/\o.cls=.type "dict":=by
    obtain⟨o,es,ep,g1,g2,_⟩:=dd;exact⟨o,g1,g2.1⟩
   cases rx;refine Zf Jq I.kIn ⟨o,h1,h2⟩ ?_ (fun z=>nomatch z) h';unfold J2 at kt;simp only[Qp,Zr,Uu]at kt;rcases kt with rfl|rfl|rfl|rfl|rfl<;>rfl
theorem Wm{K:Qj}:J2 K "tuple":=by simp[J2]
theorem Wn{K:Qj}:J2 K "list":=by simp[J2]
theorem Wo{K:Qj}:J2 K "int":=by simp[J2]
theorem Wq{K:Qj}:J2 K "bool":=by simp[J2]
def pB(T:String)(m:Mo D):Mo D:=fun env=>(m env).map fun p=>(.bl (R4 (qU p.1) T),p.2)
theorem Q3{y:Str}{p p2:Pos}(kt:J2 X.K T)(ha:ED X B a ma)(hg:Gl X "isinstance")(hm:X.mg "isinstance"=none)(hgT:Gl X y)(hmT:X.mg y=none)(hvT:bootBuiltins y=some (.type T))
  (hnT:y≠"__name__":=by decide)(hdT:(y==("__debug__":Str))=false:=by decide)
  (he:starEach [a,.Name y p2] X.env=[(false,eval a X.env),(false,eval (.Name y p2) X.env)]:=by rfl):ED X B (.Call (.Name "isinstance" p) [a,.Name y p2] [] pos) (pB T ma):=by
 have hT:PE X (.Name y p2) (tC (.ty T)):=El hgT hmT hvT rfl hnT hdT;have hc:J3 X (.builtin "isinstance") (fun xs H Q=>∃x G d,xs=[x,.ty T]/\Le G H/\b0 X.K G x d/\Q (.bl (R4 (qU d) T)) H):=by
  intro pins s σ H xs us Q I r h;obtain⟨x,G,d,rfl,l,rp,q⟩:=h;obtain⟨u,w',rfl,r1,r2⟩:=AN r;cases r2;exact Wl I l r1 rp kt fun tk=>⟨.bl _,H,I.tok _,rfl,q⟩
 have h1:starEach [Expr.Name y p2] X.env=[(false,eval (.Name y p2) X.env)]:=rfl;refine c9 (AO (pos:=pos) (p:=p) hc hg hm (by rfl') (M3 ha (M3 hT Q6) he) (he:=he)) ?_;rintro σ H Q ⟨G,env,d,env',rl,e,k⟩;obtain⟨⟨d1,a8⟩,e1,e2⟩:=D9 e;cases e2;exact .bind rl e1 fun v G1 H1 ev r=>⟨v,G1,d1,rfl,ev.rel.sub,r,k _ G1 H1 ev (by simp only[b0])⟩
def U4:bb->Option Bool
 |[]=>some true
 |.bl b::r=>(U4 r).map fun k=>b&&k
 |_::_=>none
def Av:bb->Option D
 |[.lst ds]=>(U4 ds).map fun k=>.bl k
 |_=>none
theorem Lk{K:Qj}{G:Hp}:∀{ds:bb}{xs:ba}{us:ao}{k:Bool},B4 K G xs ds->C7 xs us->U4 ds=some k->∃bs,LSm.BoolsAre us bs/\bs.all id=k
 |[],_,us,k,r,v,e=>by
  simp only[B4]at r;subst r;cases v;cases e;exact⟨[],.nil,rfl⟩
 |d::ds,_,us,k,r,v,e=>by
  simp only[B4]at r;obtain⟨x,t,rfl,q,r⟩:=r;cases d<;>first|(exact absurd (show(none:Option Bool)=some k from e) (by simp))|skip
  obtain⟨k',e1,e2⟩:=D9 (show(U4 ds).map _=some k from e);simp only[b0]at q;subst q;cases v with
  |cons v1 v2=>
   cases v1;obtain⟨bs,h1,h2⟩:=Lk r v2 e1;exact⟨_::bs,.cons _ h1,by rw[←e2,←h2];rfl⟩
theorem DU(hc:X.calm=true):J3 X (.builtin "all") (fun xs H Q=>∃p G ys ds k,xs=[.ref p]/\Le G H/\nT X.K G p ys/\B4 X.K G ys ds/\U4 ds=some k/\Q (.bl k) H):=by
 intro pins s σ H xs us Q I r h;obtain⟨p,G,ys,ds,k,rfl,l,hq,rp,ek,q⟩:=h;obtain⟨u,rfl,rx⟩:=Q5 r;cases rx;obtain⟨its,r',pl,hz⟩:=I.list (l.sqL hq);obtain⟨bs,hb,hk⟩:=Lk rp r' ek;have hh:X.A.handled=none:=I.ok.hd hc;have hl:=pl.isList;have hlt:p<s.heap.objs.size:=by obtain⟨_,e,_⟩:=hl;exact Qu e
 refine call_all_walk (Tf hl ?_);refine⟨s.heap.objs.size,[s.heap.objs.size,p],[s.heap.objs.size],its.toArray.size,_,_,fun i=>(bs[i]?).getD true,rfl,Walks.list (A:=X.A.in1) hh _ p (Qd hlt) its.toArray,
  ⟨⟨_,Qw _ rfl,rfl,rfl⟩,hl.push _⟩,fun i v s' Q' E' hP hQ=>?_,fun h' tk hk'=>?_⟩
 ·obtain⟨b,e,rfl⟩:=hb.get i v (by simpa using hP);simp only[e,Option.getD_some]at hQ;exact Jk hQ
 ·have e:((List.range its.toArray.size).all fun i=>(bs[i]?).getD true)=bs.all id:=by
   rw[Qh,hb.length];exact LSm.range_all bs
  rw[e,hk];exact⟨.bl k,H,I.kept (t':=tk) (LSm.kept_iter hk'),rfl,q⟩
theorem Wr:Z5 X B (fun xs H Q=>∃p G ys ds k,xs=[.ref p]/\Le G H/\nT X.K G p ys/\B4 X.K G ys ds/\U4 ds=some k/\Q (.bl k) H) Av:=by
 intro G σ env H xs ds c Q rl r e k;unfold Av at e;split at e
 ·rename_i ds;obtain⟨x,rfl,q⟩:=U0 r;obtain⟨k',e1,e2⟩:=D9 e;subst e2;simp only[b0]at q;obtain⟨a,ys,rfl,h1,h2⟩:=q;exact⟨a,G,ys,ds,k',rfl,rl.sub,h1,h2,e1,k _ G H (.refl rl) (by simp only[b0])⟩
 ·cases e
def CK:bb->Option D
 |[.int i,.int j]=>some (.int (if j>i then j else i))
 |_=>none
def CL:bb->Option D
 |[.int i,.int j]=>some (.int (if j<i then j else i))
 |_=>none
def Hc:bb->Option D
 |[.int i]=>some (.int i)
 |[.bl k]=>some (.int (if k then 1 else 0))
 |_=>none
theorem Ws:Z5 X B (fun xs H Q=>∃i j,xs=[.int i,.int j]/\Q (.int (if j>i then j else i)) H) CK:=by
 intro G σ env H xs ds c Q rl r e k;unfold CK at e;split at e
 ·rename_i i j;cases e;obtain⟨x,y,rfl,q1,q2⟩:=CC r;simp only[b0]at q1 q2;subst q1 q2;exact⟨i,j,rfl,k _ G H (.refl rl) (by simp only[b0])⟩
 ·cases e
theorem Wt:Z5 X B (fun xs H Q=>∃i j,xs=[.int i,.int j]/\Q (.int (if j<i then j else i)) H) CL:=by
 intro G σ env H xs ds c Q rl r e k;unfold CL at e;split at e
 ·rename_i i j;cases e;obtain⟨x,y,rfl,q1,q2⟩:=CC r;simp only[b0]at q1 q2;subst q1 q2;exact⟨i,j,rfl,k _ G H (.refl rl) (by simp only[b0])⟩
 ·cases e
theorem Wu:Z5 X B (fun xs H Q=>(∃i,xs=[.int i]/\Q (.int i) H)\/ ∃k,xs=[.bl k]/\Q (.int (if k then 1 else 0)) H) Hc:=by
 intro G σ env H xs ds c Q rl r e k;unfold Hc at e;split at e
 ·rename_i i;cases e;obtain⟨x,rfl,q1⟩:=U0 r;simp only[b0]at q1;subst q1;exact .inl ⟨i,rfl,k _ G H (.refl rl) (by simp only[b0])⟩
 ·rename_i b;cases e;obtain⟨x,rfl,q1⟩:=U0 r;simp only[b0]at q1;subst q1;exact .inr ⟨b,rfl,k _ G H (.refl rl) (by simp only[b0])⟩
 ·cases e
def i9:bb->Option aq
 |[]=>some []
 |.int i::r=>(i9 r).map fun l=>i::l
 |_::_=>none
theorem AZ{K:Qj}{G:Hp}:∀{ds:bb}{xs:ba}{ns:aq},B4 K G xs ds->i9 ds=some ns->xs=ns.map V.int
 |[],_,ns,r,e=>by simp only[B4]at r;subst r;cases e;rfl
 |d::ds,_,ns,r,e=>by
  simp only[B4]at r;obtain⟨x,t,rfl,q,r⟩:=r;cases d<;>first|(exact absurd (show(none:Option aq)=some ns from e) (by simp))|skip
  obtain⟨l,e1,e2⟩:=D9 (show(i9 ds).map _=some ns from e);subst e2;simp only[b0]at q;subst q;rw[AZ r e1];rfl
def yB(neg:Bool):D->D->Option D
 |.int i,d=>d.items.bind fun ds=>(i9 ds).map fun ns=>.bl (if neg then !ns.contains i else ns.contains i)
 |_,_=>none
theorem Wv(ns:aq):(ns.map V.int).all W8=true:=by
 induction ns with
 |nil=>rfl
 |cons n ns ih=>simp[W8,ih]
theorem Ww(i:Int)(ns:aq):vT (.int i) (ns.map V.int)=ns.contains i:=by
 unfold vT
 induction ns with
 |nil=>rfl
 |cons n ns ih=>
  rw[Qm,List.any_cons,ih,List.contains_cons]
  congr 1
  show(n==i)=(i==n);exact Bool.beq_comm ..
theorem Wx:nS X B (x5 X.K neg) (yB neg):=by
 intro G σ env H x y a b d Q rl ra rb e k;cases a<;>first|(exact absurd (show(none:Option D)=some d from e) (by simp))|skip
 rename_i i;obtain⟨ds,e1,e2⟩:=B9 (show b.items.bind _=some d from e);obtain⟨ns,e3,e4⟩:=D9 e2;subst e4;simp only[b0]at ra;subst ra;obtain⟨p,xs,rfl,h1,h2⟩:=HJ rl.sub rb e1;have hx:=AZ h2 e3;subst hx;exact⟨p,_,rfl,h1,rfl,Wv ns,k _ G H (.refl rl) (by rw[Ww];simp only[b0])⟩
end
mutual
def pQ:D->PyData
 |.non=>.none
 |.bl b=>.bool b
 |.int i=>.int i
 |.str x=>.str x
 |.tup ds=>.tuple (R5 ds)
 |.lst ds=>.list (R5 ds)
 |.emp=>.dict []
 |.obj _=>.dict []
 |.dct _ _=>.dict []
 |.dcx _ _=>.dict []
def R5:bb->List PyData
 |[]=>[]
 |d::ds=>pQ d::R5 ds
end
def uR(d:D):Bool:=SeqAt.shaped (pQ d)
mutual
theorem nK(I:Inv X pins σ H s)(l:Le G H):∀(d:D) (x:V) (u:aj),(pQ d).canLay0=true->D1 x u->b0 X.K G x d->∃as,Reads s.heap u (pQ d) as
 |.non,x,u,c,r,p=>by simp only[b0]at p;subst p;cases r;exact⟨_,.none⟩
 |.bl b,x,u,c,r,p=>by simp only[b0]at p;subst p;cases r;exact⟨_,.bool b⟩
 |.int i,x,u,c,r,p=>by simp only[b0]at p;subst p;obtain⟨t,rfl⟩:=r;exact⟨_,.int i t⟩
 |.str z,x,u,c,r,p=>by simp only[b0]at p;obtain⟨p,_⟩:=p;subst p;obtain⟨t,rfl⟩:=r;exact⟨_,.str z t⟩
 |.tup ds,x,u,c,r,p=>by
  simp only[b0]at p;obtain⟨a,xs,rfl,q,rp⟩:=p;cases r;obtain⟨its,rv,⟨o,h1,h2,n,h3⟩,_⟩:=I.tuple (l.sqT q);have hc:PyData.canLayAll0 (R5 ds)=true:=by simpa [pQ,PyData.canLay0]using c
  obtain⟨as,h⟩:=nL I l ds xs its hc rv rp;exact⟨_,.tuple h1 h2 h3 (by simpa using h)⟩
 |.lst ds,x,u,c,r,p=>by
  simp only[b0]at p;obtain⟨a,xs,rfl,q,rp⟩:=p;cases r;obtain⟨its,rv,⟨o,n,h1,h2,_,h3⟩,_⟩:=I.list (l.sqL q);have hc:PyData.canLayAll0 (R5 ds)=true:=by simpa [pQ,PyData.canLay0]using c
  obtain⟨as,h⟩:=nL I l ds xs its hc rv rp;exact⟨_,.list h1 h2 h3 (by simpa using h)⟩
 |.emp,x,u,c,r,p=>by simp[pQ,PyData.canLay0]at c
 |.obj _,x,u,c,r,p=>by simp[pQ,PyData.canLay0]at c
 |.dct _ _,x,u,c,r,p=>by simp[pQ,PyData.canLay0]at c
 |.dcx _ _,x,u,c,r,p=>by simp[pQ,PyData.canLay0]at c
theorem nL(I:Inv X pins σ H s)(l:Le G H):∀(ds:bb) (xs:ba) (us:ao),PyData.canLayAll0 (R5 ds)=true->C7 xs us->B4 X.K G xs ds->∃as,ReadsAll s.heap us (R5 ds) as
 |[],xs,us,c,v,p=>by simp only[B4]at p;subst p;cases v;exact⟨_,.nil⟩
 |d::ds,xs,us,c,v,p=>by
  simp only[B4]at p;obtain⟨x,r,rfl,q,t⟩:=p;have hc:(pQ d).canLay0=true/\PyData.canLayAll0 (R5 ds)=true:=by simpa [R5,PyData.canLayAll0]using c
  cases v with
  |cons v1 v2=>
   obtain⟨as,h1⟩:=nK I l d x _ hc.1 v1 q;obtain⟨bs,h2⟩:=nL I l ds r _ hc.2 v2 t;exact⟨_,.cons h1 h2⟩
end
def uE(K:Qj)(neg:Bool):R2:=fun x y H Q=>∃G a b,Le G H/\b0 K G x a/\b0 K G y b/\uR a=true/\uR b=true/\Q (.bl (if neg then !PyData.eqv (pQ a) (pQ b)else PyData.eqv (pQ a) (pQ b))) H
theorem r9(hu:X.A.units+64<cLine):m5 X (compareOp .Eq) (uE X.K false):=by
 intro pins s σ H x y v u Q I rx ry h;obtain⟨G,a,b,l,ra,rb,ha,hb,q⟩:=h;obtain⟨as,h1⟩:=nK I l a x v (Vi ha) rx ra;obtain⟨bs,h2⟩:=nK I l b y u (Vi hb) ry rb;exact eq_dataH h1 h2 ha hb hu ⟨.bl _,H,I,rfl,q⟩
theorem sA(hu:X.A.units+64<cLine):m5 X (compareOp .NotEq) (uE X.K true):=by
 intro pins s σ H x y v u Q I rx ry h;obtain⟨G,a,b,l,ra,rb,ha,hb,q⟩:=h;obtain⟨as,h1⟩:=nK I l a x v (Vi ha) rx ra;obtain⟨bs,h2⟩:=nK I l b y u (Vi hb) ry rb;exact ne_dataH h1 h2 ha hb hu ⟨.bl _,H,I,rfl,q⟩
def nW(neg:Bool):D->D->Option D:=fun a b=>if uR a&&uR b then some (.bl (if neg then !PyData.eqv (pQ a) (pQ b)else PyData.eqv (pQ a) (pQ b)))else none
theorem uF:nS X B (uE X.K neg) (nW neg):=by
 intro G σ env H x y a b d Q rl ra rb e k;unfold nW at e;split at e
 ·rename_i h;rw[Qr]at h;cases e;exact⟨G,a,b,rl.sub,ra,rb,h.1,h.2,k _ G H (.refl rl) (by simp only[b0])⟩
 ·cases e
def pR(K:Qj):R2:=fun x y H Q=>∃a b xs ys,x=.ref a/\y=.ref b/\n5 K H a xs/\n5 K H b ys/\xs.length+ys.length≤sizeLine/\
 (xs=[]->Q (.ref b) H)/\(ys=[]->Q (.ref a) H)/\(∀p,H p=none->Q (.ref p) (upd H p (.tup (xs++ys))))
theorem sB:m5 X (binaryOp .Add) (pR X.K):=by
 intro pins s σ H x y v u Q I rx ry h;obtain⟨a,b,xs,ys,rfl,rfl,ha,hb,hz,q0,q1,q2⟩:=h;cases rx;cases ry;obtain⟨vs,r1,p1,_⟩:=I.tuple ha;obtain⟨ws,r2,p2,_⟩:=I.tuple hb;have hsz:vs.length+ws.length≤sizeLine:=by rw[←r1.length,←r2.length];exact hz
 obtain⟨⟨cls,dd,data,sl⟩,ho,hc,n,hd⟩:=id p1;obtain⟨⟨cls2,dd2,data2,sl2⟩,ho2,hc2,n2,hd2⟩:=id p2;simp only at hc hd hc2 hd2;subst hc hd hc2 hd2;have e:vs.toArray++ws.toArray=(vs++ws).toArray:=by simp
 by_cases hv:vs=[]
 ·exact concat_meets ⟨_,ho,rfl⟩ ⟨_,ho2,rfl⟩ noFill_tuple_add seq_tuple_add Td Tv (Xs _ _)
   (tuple_addW0 a b vs.toArray ws.toArray n n2 dd dd2 sl sl2 (by simp[hv])) ⟨ho,ho2,⟨.ref b,H,I,rfl,q0 (r1.nil_iff.mp hv)⟩⟩
 ·by_cases hw:ws=[]
  ·exact concat_meets ⟨_,ho,rfl⟩ ⟨_,ho2,rfl⟩ noFill_tuple_add seq_tuple_add Td Tv (Xs _ _)
    (tuple_addW1 a b vs.toArray ws.toArray n n2 dd dd2 sl sl2 (by simpa using hv) (by simp[hw])) ⟨ho,ho2,⟨.ref a,H,I,rfl,q1 (r2.nil_iff.mp hw)⟩⟩
  ·refine concat_meets ⟨_,ho,rfl⟩ ⟨_,ho2,rfl⟩ noFill_tuple_add seq_tuple_add Td Tv (Xs _ _)
    (tuple_addW2 a b vs.toArray ws.toArray n n2 dd dd2 sl sl2 (by simpa using hv) (by simpa using hw) (by rw[Qh,Qh];exact hsz)) ⟨ho,ho2,?_⟩
   rw[e];refine⟨.ref s.heap.objs.size,_,I.laid (t':=s.toks) (o:=.tup (xs++ys)) (fun b ob q=>Qx _ q) (Qy _) ?_,rfl,q2 _ (I.hok.fresh (Qy _))⟩;exact⟨by rw[Zx];exact hz,_,r1.append r2,W0.new _ _⟩
def uG(K:Qj):R2:=fun x y H Q=>∃a b xs ys,x=.ref a/\y=.ref b/\nT K H a xs/\nT K H b ys/\xs.length+ys.length≤sizeLine/\
 (∀p,H p=none->Q (.ref p) (upd H p (.lst (xs++ys))))
theorem sC:m5 X (binaryOp .Add) (uG X.K):=by
 intro pins s σ H x y v u Q I rx ry h;obtain⟨a,b,xs,ys,rfl,rfl,ha,hb,hz,q2⟩:=h;cases rx;cases ry;obtain⟨vs,r1,p1,_⟩:=I.list ha;obtain⟨ws,r2,p2,_⟩:=I.list hb;have hsz:vs.length+ws.length≤sizeLine:=by rw[←r1.length,←r2.length];exact hz
 obtain⟨⟨cls,dd,data,sl⟩,ho,hc,n,hd⟩:=id p1.isList;obtain⟨⟨cls2,dd2,data2,sl2⟩,ho2,hc2,n2,hd2⟩:=id p2.isList;simp only at hc hd hc2 hd2;subst hc hd hc2 hd2;have e:vs.toArray++ws.toArray=(vs++ws).toArray:=by simp
 refine concat_meets ⟨_,ho,rfl⟩ ⟨_,ho2,rfl⟩ noFill_list_add seq_list_add PySem.F.slot_list_add PySem.F.entry_list_add (PySem.F.args_list_add_2 _ _)
    (list_addW a b vs.toArray ws.toArray n n2 dd dd2 sl sl2 (by rw[Qh,Qh];exact hsz)) ⟨ho,ho2,?_⟩
 rw[e];refine⟨.ref s.heap.objs.size,_,I.lnew (t':=s.toks) (r1.append r2) (by rw[Zx];exact hz),rfl,q2 _ I.fresh⟩
end L2.Mir
namespace L2.Mir
open PySem PySem.Spec PyProof.Rows PySem.Builtin
open AutoSeq1 (wpAny_loadPart')
section
variable{X:Cx}{B:OE}
end
section
variable{X:Cx}{B:OE}{pos:Pos}{a b:Expr}{ma mb:Mo D}
def Hd:D->D->Option D
 |.tup xs,.tup ys=>if xs.length+ys.length≤10000 then some (.tup (xs++ys))else none
 |_,_=>none
theorem Ll{n:Nat}(h:n≤10000):n≤sizeLine:=Qn h (by decide)
theorem Wy:nS X B (pR X.K) Hd:=by
 intro G σ env H x y a b d Q rl ra rb e k;cases a<;>cases b<;>first|(exact absurd (show(none:Option D)=some d from e) (by simp))|skip
 rename_i ds es;simp only[Hd]at e;split at e
 ·rename_i hl;cases e;have ra0:=ra;have rb0:=rb;simp only[b0]at ra rb;obtain⟨p,xs,rfl,q1,r1⟩:=ra;obtain⟨p',ys,rfl,q2,r2⟩:=rb;refine⟨p,p',xs,ys,rfl,rfl,rl.sub.sqT q1,rl.sub.sqT q2,by rw[r1.length,r2.length];exact Ll hl,fun z=>?_,fun z=>?_,fun l hp=>?_⟩
  ·subst z;have:ds=[]:=List.length_eq_zero_iff.mp r1.length.symm;subst this;exact k _ G H (.refl rl) rb0
  ·subst z;have:es=[]:=List.length_eq_zero_iff.mp r2.length.symm;subst this;exact k _ G H (.refl rl) (by rw[Jo];exact ra0)
  ·exact k _ _ _ (rl.alloc hp) (Aj D7 (B4.mono (Le.upd (rl.gnone hp)) _ (r1.append r2)))
 ·cases e
def E7:=wV LP Hd
theorem Wz:m5 X (binaryOp .Add) (fun x y H Q=>pZ (fun i j=>.int (i+j)) x y H Q\/pR X.K x y H Q):=m5.or UE sB
theorem XA:nS X B (fun x y H Q=>pZ (fun i j=>.int (i+j)) x y H Q\/pR X.K x y H Q) E7:=WG.or Wy
def Bc(ma mb:Mo D):Mo bb:=fun env=>(ma env).bind fun p=>(mb p.2).bind fun q=>match p.1,q.1 with
 |.lst xs,.lst ys=>if xs.length+ys.length≤10000 then some (xs++ys,q.2)else none
 |_,_=>none
theorem DV(ha:ED X B a ma)(hb:ED X B b mb):EL X B (.BinOp a .Add b pos) (Bc ma mb):=by
 refine c9 (Ki sC ha hb) ?_;rintro σ H Q ⟨G,env,ds,env',rl,e,k⟩;obtain⟨⟨d1,a8⟩,e1,e2⟩:=B9 e;obtain⟨⟨d2,g0⟩,e3,e4⟩:=B9 e2;dsimp only at e4 e3;refine .bind rl e1 fun v1 G1 H1 j3 r1=>.bind j3.rel e3 fun v2 G2 H2 f9 r2=>?_;split at e4
 ·rename_i xs ys;split at e4
  ·rename_i hl;cases e4;have r1':=b0.mono f9.same _ r1;simp only[b0]at r1' r2;obtain⟨p,us,rfl,q1,t1⟩:=r1';obtain⟨p',ws,rfl,q2,t2⟩:=r2;exact⟨p,p',us,ws,rfl,rfl,f9.rel.sub.sqL q1,f9.rel.sub.sqL q2,by rw[t1.length,t2.length];exact Ll hl,fun l hp=>DM (j3.trans f9) hp (t1.append t2) k⟩
  ·cases e4
 ·cases e4
end
end L2.Mir
namespace HT
open PySem PySem.Spec PyProof.Rows
variable{Q:OU}
section
variable{prog:af}{w:ag}{A:Around}{E:OU}{s:ak}
theorem nR{t sl:ah}{items:az}{vl vu:aj}{lo hi:Option Int}(ht:IsTup s.heap t items)(hs:s.heap.IsSliceOf sl vl vu .none)(pl:IsPart vl lo)(pu:IsPart vu hi)
  (hw:j6 items.size 0 lo=0/\j6 items.size items.size hi=items.size)
  (h:Q (.ref t) s):wpAny (model prog w) A (getItem (.ref t) (.ref sl)) Q E s:=by
 obtain⟨os,hos,hcs,hds⟩:=id hs;have hTs:s.TypeIs (.ref sl) "slice":=⟨os,hos,hcs⟩;unfold getItem
 try with_reducible refine Ze ?_
 first|refine Qq (Qz ?_)|skip
 refine Qq (wpAny_sequenceKey ht.typeIs (by decide) ?_);refine Qq (Zk (name:=Str.ofString "__getitem__") ht.typeIs Zh
  (Zz Zh ht.typeIs entry_tuple_getitem ?_ (args_tuple_getitem _ _)))
 show wpAny _ _ (Builtin.Tuple.tupleItemsOf (.ref t)>>=_) _ _ s;refine Qq (tupleItemsOf_ ht ?_);refine Qq (Xd hTs ?_);rw[Qg (by decide)];refine Qq (m7 hs pl pu ?_);have hno:((((j6 items.size 0 lo:Nat):Int)==0&&(1:Int)==1&&(j6 items.size items.size hi-j6 items.size 0 lo)==items.size)=true):=by
  rw[hw.1,hw.2];simp
 show wpAny _ _ (if(((j6 items.size 0 lo:Nat):Int)==0&&(1:Int)==1&&(j6 items.size items.size hi-j6 items.size 0 lo)==items.size)=true then _ else _) _ _ s;rw[Qg hno];refine Qq (Qq (m:=typeOf (.ref t)) (Xd ht.typeIs (Qz ?_)));rw[Qg (by decide)];refine Qq (Xv ?_)
 first
  |exact Qz ⟨_,rfl,Qz h⟩
  |exact Qq (Qz ⟨_,rfl,Qz h⟩)
  |exact Qq (Qq (Qz ⟨_,rfl,Qz h⟩))
theorem oH{sl:ah}{t:Tok}{n:Nat}{Q:Int×Int×Nat->ak->Prop}(hs:s.heap.IsSliceOf sl .none .none (.int (-1) t))
  (h:Q ((n:Int)-1,-1,n) s):wpAny (model prog w) A (Builtin.Slice.sliceApplied (.ref sl) (pure (n:Int))) Q E s:=by
 obtain⟨os,hos,hcs,hds⟩:=id hs;unfold Builtin.Slice.sliceApplied Builtin.Slice.sliceFields;refine Qq (Qq (Zt hos hds (x:=.none) rfl (Qq (Zt hos hds (x:=.none) rfl (Qq (Zt hos hds (x:=.int (-1) t) rfl (Qz ?_)))))));refine Qq (slicePart_int ?_);show wpAny _ _ (if((-1:Int)==0)=true then _ else _) _ _ s;rw[Qb (by decide)];refine Qq (slicePart_none (Qq (slicePart_none (Qq (Qz ?_)))));have e:Builtin.Slice.slicePlaces ((n:Int)-1) (-1) (-1)=n:=by
  unfold Builtin.Slice.slicePlaces;have h1:¬ ((-1:Int)>0):=by omega
  simp only[h1,Zo];split
  ·rw[show(- -1:Int)=1 by decide,Int.ediv_one];omega
  ·omega
 show wpAny _ _ (pure ((n:Int)-1,(-1:Int),Builtin.Slice.slicePlaces ((n:Int)-1) (-1) (-1))) _ _ s;rw[e];exact Qz h
theorem m9{α β:Type}{f g:α->Option β}:∀{l:List α},(∀x∈l,f x=g x)->l.filterMap f=l.filterMap g
 |[],_=>rfl
 |a::l,h=>by
  rw[Jd,Jd,h a (by simp),m9 (l:=l) fun x hx=>h x (by simp[hx])]
theorem sD(xs:az):((List.range xs.size).filterMap fun(m:Nat)=>xs[(((xs.size:Int)-1)+(m:Int) * (-1)).toNat]?).toArray=xs.toList.reverse.toArray:=by
 have h:=PySem.W.krv_all xs;have h2:=Yz List.reverse h;rw[←List.filterMap_reverse,←PySem.W.krv_range,List.filterMap_map]at h2;rw[←h2]
 congr 1
 apply m9;intro m hm;have:=Yp.mp hm;show xs[_]? =xs[xs.size-1-m]?
 congr 1
 omega
theorem n9{t sl:ah}{items:az}{tk:Tok}(ht:IsTup s.heap t items)(hs:s.heap.IsSliceOf sl .none .none (.int (-1) tk))
  (h:Q (.ref s.heap.objs.size) {s with heap:=s.heap.push {cls:=.type "tuple",data:=.seq items.toList.reverse.toArray}})
  (hsz:items.size≤sizeLine):wpAny (model prog w) A (getItem (.ref t) (.ref sl)) Q E s:=by
 have htake:sizeOk (.seq items.toList.reverse.toArray):=by
  show items.toList.reverse.toArray.size≤sizeLine;simpa using hsz
 obtain⟨os,hos,hcs,hds⟩:=id hs;have hTs:s.TypeIs (.ref sl) "slice":=⟨os,hos,hcs⟩;unfold getItem
 try with_reducible refine Ze ?_
 first|refine Qq (Qz ?_)|skip
 refine Qq (wpAny_sequenceKey ht.typeIs (by decide) ?_);refine Qq (Zk (name:=Str.ofString "__getitem__") ht.typeIs Zh
  (Zz Zh ht.typeIs entry_tuple_getitem ?_ (args_tuple_getitem _ _)))
 show wpAny _ _ (Builtin.Tuple.tupleItemsOf (.ref t)>>=_) _ _ s;refine Qq (tupleItemsOf_ ht ?_);refine Qq (Xd hTs ?_);rw[Qg (by decide)];refine Qq (oH hs ?_);have hno:¬ ((((items.size:Int)-1)==0&&(-1:Int)==1&&items.size==items.size)=true):=by
  rw[show((-1:Int)==1)=false by decide];simp
 show wpAny _ _ (if(((items.size:Int)-1)==0&&(-1:Int)==1&&items.size==items.size)=true then _ else _) _ _ s;rw[Qb hno,sD]
 first
  |exact Qq (m:=Builtin.Tuple.tupleExact _) (Qi (Qz ⟨_,rfl,Qz h⟩) htake)
  |exact Qq (m:=Builtin.Tuple.tupleExact _) (Qi (Qq (Qz (Qz ⟨_,rfl,Qz h⟩))) htake)
  |exact Qq (Qq (m:=Builtin.Tuple.tupleExact _) (Qi (Qz (Qz ⟨_,rfl,Qz h⟩)) htake))
  |exact Qq (Qq (m:=Builtin.Tuple.tupleExact _) (Qi (Qz ⟨_,rfl,Qz h⟩) htake))
end
end HT
namespace L2.Mir
open PySem PySem.Spec PyProof.Rows
variable{A:Around}{B:OE}{C i1 i2 it l l1 l2 z:ah}{E Q:OU}{G H:Hp}{K:Qj}{M:Model}{N ps:ar}{P prog:af}{T:String}{X:Cx}{a e:Expr}{apos cpos p p2 pos tp:Pos}{as:Mo (List Ar)}{av:List Ar}{b y:aj}{base h h':Heap}{c c2:Bool}{ch:List ah}{d:D}{ds:bb}{elts es:au}{env:a9}{fd:FuncData}{i k k1 k2 kk more n t':Nat}{m ma:Mo D}{mb:Mo Fl}{mg:OI}{mi ms:Mo bb}{o:HO}{pins:OA}{qual x:Str}{r:Rr}{s:ak}{scope:Scope}{tk:Tok}{w:ag}{ws ws':bf}{xs ys:az}{σ:St}
section
variable{lo hi st:Expr}{ml mh:Mo D}
def XB(K:Qj):V->Option Int->Option Int->Hp->VK->Prop:=fun x lo hi H Q=>∃a xs,x=.ref a/\n5 K H a xs/\
 ((HT.j6 xs.length 0 lo=0/\HT.j6 xs.length xs.length hi=xs.length)->Q (.ref a) H)/\∀p,H p=none->Q (.ref p) (upd H p (.tup (BS xs lo hi)))
theorem XC:wQ X (XB X.K):=by
 intro pins s σ H x v vl vu lo hi sl Q I rx hs pl pu h;obtain⟨a,xs,rfl,hx,qw,q⟩:=h
 by_cases hw:HT.j6 xs.length 0 lo=0/\HT.j6 xs.length xs.length hi=xs.length
 ·cases rx;obtain⟨its,r,ht,hz⟩:=I.tuple hx;have hlen:its.toArray.size=xs.length:=by rw[Qh];exact r.length.symm
  refine⟨"tuple",_,Zh.lookup,ht.typeIs,?_⟩;exact HT.nR ht hs pl pu (by rw[hlen];exact hw) ⟨.ref a,H,I,rfl,qw hw⟩
 ·exact LA pins s σ H (.ref a) v vl vu lo hi sl Q I rx hs pl pu ⟨a,xs,rfl,hx,hw,q⟩
def X2(xs:bb)(lo hi:Option Int):bb:=(xs.drop (HT.j6 xs.length 0 lo)).take (HT.j6 xs.length xs.length hi-HT.j6 xs.length 0 lo)
def P4:Mo (Option Int):=fun env=>some (none,env)
def P5(m:Mo D):Mo (Option Int):=fun env=>(m env).bind fun p=>match p.1 with
 |.int i=>some (some i,p.2)
 |_=>none
def zU(K:Qj)(B:OE)(m:Mo (Option Int)):TO:=fun σ H Q=>∃G env o env',Rel K B G σ env H/\m env=some (o,env')/\∀G' H',Ev K B G σ env H G' σ env' H'->Q o H'
abbrev EO(X:Cx)(B:OE)(e:Option Expr)(m:Mo (Option Int)):Prop:=PO X e (zU X.K B m)
theorem Lm{e:Option Expr}{t t':TO}(h:PO X e t)(i:∀σ H Q,t' σ H Q->t σ H Q):PO X e t':=fun pins s σ H Q I q=>h pins s σ H Q I (i σ H Q q)
theorem Aw:EO X B none P4:=by
 refine Lm VD ?_;rintro σ H Q ⟨G,env,o,env',rl,e,k⟩;cases e;exact k G H (.refl rl)
theorem Ax(h:ED X B e ma):EO X B (some e) (P5 ma):=by
 refine Lm (VE h) ?_;rintro σ H Q ⟨G,env,o,env',rl,e,k⟩;obtain⟨⟨d,a8⟩,e1,e2⟩:=B9 e;dsimp only at e2;split at e2
 ·rename_i i;cases e2;refine .bind rl e1 fun v G1 H1 ev r=>?_;simp only[b0]at r;exact⟨i,r,k G1 H1 ev⟩
 ·cases e2
def pC(m:Mo D)(ml mh:Mo (Option Int)):Mo D:=fun env=>(m env).bind fun p=>(ml p.2).bind fun q=>(mh q.2).bind fun r=>match p.1 with
 |.tup ds=>some (.tup (X2 ds q.1 r.1),r.2)
 |_=>none
theorem B4.cut{xs:ba}(r:B4 K G xs ds)(lo hi:Option Int):B4 K G (BS xs lo hi) (X2 ds lo hi):=by
 unfold BS X2;rw[r.length];exact(r.drop _).take _
theorem XD{lo hi:Option Int}(h:HT.j6 ds.length 0 lo=0/\HT.j6 ds.length ds.length hi=ds.length):X2 ds lo hi=ds:=by
 unfold X2;rw[h.1,h.2];simp
theorem Ay{lo hi:Option Expr}{ml mh:Mo (Option Int)}(he:ED X B e ma)(hl:EO X B lo ml)(hh:EO X B hi mh):ED X B (.Subscript e (.Slice lo hi none p2) pos) (pC ma ml mh):=by
 refine c9 (VF XC he hl hh) ?_;rintro σ H Q ⟨G,env,d,env',rl,e,k⟩;obtain⟨⟨d1,a8⟩,e1,e2⟩:=B9 e;obtain⟨⟨l,g0⟩,e3,e4⟩:=B9 e2;obtain⟨⟨u,rD⟩,e5,e6⟩:=B9 e4;dsimp only at e3 e5 e6;split at e6
 ·rename_i ds;cases e6;refine .bind rl e1 fun v G1 H1 j3 r1=>⟨G1,a8,l,g0,j3.rel,e3,fun G2 H2 f9=>⟨G2,g0,u,_,f9.rel,e5,fun G3 H3 pG=>?_⟩⟩;have r3:=b0.mono (f9.same.trans pG.same) _ r1;have r30:=r3;simp only[b0]at r3;obtain⟨p,xs,rfl,q,t⟩:=r3;refine⟨p,xs,rfl,pG.rel.sub.sqT q,fun hw=>?_,fun l' hp=>?_⟩
  ·rw[t.length]at hw;exact k _ G3 H3 ((j3.trans f9).trans pG) (by rw[XD hw];exact r30)
  ·exact k _ _ _ (((j3.trans f9).trans pG).trans (pG.rel.alloc hp)) (Aj D7 (B4.mono (Le.upd (pG.rel.gnone hp)) _ (t.cut l u)))
 ·cases e6
theorem XE{te:TE}(he:PE X e te)(hst:PE X st (tC (.int (-1)))):PE X (.Subscript e (.Slice none none (some st) p2) pos) (fun σ H Q=>te σ H fun x H1=>∃a xs,x=.ref a/\n5 X.K H1 a xs/\∀p,H1 p=none->Q (.ref p) (upd H1 p (.tup xs.reverse))):=by
 intro pins s σ H Q I h;refine Subscript_ (i6 (he pins s σ H _ I h) fun v s1 ⟨x,H1,I1,r1,q1⟩=>?_);refine wpAny_Slice ?_;rw[evalPart_none];refine Qz (Qz ?_);rw[evalPart_some];refine i6 (hst pins s1 σ H1 (fun x H2=>x=.int (-1)/\H2=H1) I1 ⟨rfl,rfl⟩) fun vst s3 ⟨y,H3,I3,r3,q3⟩=>?_;obtain⟨rfl,rfl⟩:=q3;obtain⟨tk,rfl⟩:=r3;obtain⟨a,xs,rfl,hx,q⟩:=q1;cases r1;have I4:Inv X pins σ H3 {s3 with heap:=s3.heap.push {cls:=.type "slice",data:=.fields #[.none,.none,.int (-1) tk]}}:=I3.kept (t':=s3.toks) fun b ob q=>Qx _ q;obtain⟨its,r,ht,hz⟩:=I4.tuple hx;have hlen:its.toArray.size=xs.length:=by rw[Qh];exact r.length.symm
 show wpAny (model X.prog X.w) X.A (subscriptTail e (.Slice none none (some st) p2) (.ref a) (.ref s3.heap.objs.size)) (EP X pins σ Q) X.xe {s3 with heap:=s3.heap.push {cls:=.type "slice",data:=.fields #[.none,.none,.int (-1) tk]}};refine tail_any (ops:=[.ref a,.ref s3.heap.objs.size]) ht.typeIs Zh.lookup ?_ (by with_unfolding_all rfl);refine HT.n9 (tk:=tk) ht (Heap.IsSliceOf.new ..) ?_ (by rw[hlen];exact hz);refine⟨.ref _,_,I4.laid (t':=s3.toks) (o:=.tup xs.reverse) (fun b ob q=>Qx _ q) (Qy _) ?_,rfl,q _ (I4.hok.fresh (Qy _))⟩;exact⟨by rw[List.length_reverse];exact hz,_,r.reverse,W0.new _ _⟩
def He(m:Mo D):Mo D:=fun env=>(m env).bind fun p=>match p.1 with
 |.tup ds=>some (.tup ds.reverse,p.2)
 |_=>none
theorem Ln(he:ED X B e ma)(hst:PE X st (tC (.int (-1)))):ED X B (.Subscript e (.Slice none none (some st) p2) pos) (He ma):=by
 refine c9 (XE he hst) ?_;rintro σ H Q ⟨G,env,d,env',rl,e,k⟩;obtain⟨⟨d1,a8⟩,e1,e2⟩:=B9 e;dsimp only at e2;split at e2
 ·rename_i ds;cases e2;refine .bind rl e1 fun v G1 H1 j3 r1=>?_;simp only[b0]at r1;obtain⟨p,xs,rfl,q,t⟩:=r1;exact⟨p,xs,rfl,j3.rel.sub.sqT q,fun l' hp=>k _ _ _ (j3.trans (j3.rel.alloc hp)) (Aj D7 (B4.mono (Le.upd (j3.rel.gnone hp)) _ t.reverse))⟩
 ·cases e2
theorem Lo{j:Nat}:PE X (.UnaryOp .USub (.Constant (.int 1) j p) pos) (tC (.int (-1))):=c9 (Kj Kl KW) fun σ H Q q=>⟨1,rfl,q⟩
end
theorem Hf(I:Inv X pins σ H s)(k:∀b o,b∉ch->s.heap.get? b=some o->h'.get? b=some o)(hf:∀b∈ch,P7 X pins H b):Inv X pins σ H {s with heap:=h',toks:=t'}:=by
 have nit:∀b u,H b=some u->b∉ch:=fun b u e z=>by rw[(hf b z).1]at e;cases e
 refine I.step (g':=s.gens) (d':=s.drawn) (ch:=ch) (fun b hb=>⟨(hf b hb).2.2.2.1,(hf b hb).2.1,(hf b hb).2.2.2.2.1,(hf b hb).2.2.2.2.2⟩) (fun b o _ _ hc e _=>k b o hc e) (fun b o _ _ hc e _=>⟨o.slots,k b o hc e⟩) (fun _ _ _ _ n=>n)
  (fun b o hc e=>⟨o,k b o hc e⟩) (fun _ _ e=>e) (fun _ _ _ e=>e) (fun b ps e=>⟨#[],by rw[e];simp⟩) (fun m hm=>?_) (fun b u e=>?_) I.bare
 ·obtain⟨o,es,ep,ho,r⟩:=hm;exact⟨o,es,ep,k _ o (fun z=>(hf _ z).2.1 rfl) ho,r⟩
 ·refine(I.hok b u e).stay (fun c v hc q=>k c v ?_ q) (fun _ q=>q) fun _ _ q=>q;rcases hc with z|z
  ·rw[z];exact nit b u e
  ·exact nit c _ z
theorem Lp{p:ah}(I:Inv X pins σ H s)(k:∀b o,b∉ch->s.heap.get? b=some o->h'.get? b=some o)(hf:∀b∈ch,P7 X pins H b)
  (hp:s.heap.objs.size≤p)(new:F3 X.prog X.w (upd H p o) h' p o):Inv X pins σ (upd H p o) {s with heap:=h',toks:=t'}:=by
 have nit:∀b u,H b=some u->b∉ch:=fun b u e z=>by rw[(hf b z).1]at e;cases e
 have hn:H p=none:=I.hok.fresh hp;have np:∀b u,s.heap.get? b=some u->b≠p:=fun b u q=>Qd (Ql (Qu q) hp);refine I.step (g':=s.gens) (d':=s.drawn) (ch:=ch) (fun b hb=>⟨(hf b hb).2.2.2.1,(hf b hb).2.1,(hf b hb).2.2.2.2.1,(hf b hb).2.2.2.2.2⟩) (fun b o _ _ hc e _=>k b o hc e) (fun b o _ _ hc e _=>⟨o.slots,k b o hc e⟩) (fun b o _ e n=>by rw[C6 (np b o e)];exact n)
  (fun b o hc e=>⟨o,k b o hc e⟩) (fun b xs q=>by rw[C6 (L6 q hn)];exact q) (fun b u xs q=>by rw[C6 (L6 q hn)];exact q) (fun b ps e=>⟨#[],by rw[C6 (L6 e hn),e];simp⟩) (fun m hm=>?_) (fun b u e=>?_) I.bare
 ·obtain⟨o,es,ep,ho,r⟩:=hm;exact⟨o,es,ep,k _ o (fun z=>(hf _ z).2.1 rfl) ho,r⟩
 ·by_cases hb:b=p
  ·subst hb;rw[D7]at e;cases e;exact new
  ·rw[C6 hb]at e;refine(I.hok b u e).stay (fun c v hc q=>k c v ?_ q) (fun c q=>by rw[C6 (L6 q hn)];exact q) fun c xs q=>by rw[C6 (L6 q hn)];exact q
   rcases hc with z|z
   ·rw[z];exact nit b u e
   ·exact nit c _ z
def oQ(k:Bool)(h:Heap)(l:ah)(xs:az):Prop:=if k then h.IsTuple l xs else h.IsList l xs
def oA(k:Bool)(h:Heap)(i l:ah)(n:Nat):Prop:=if k then h.IsTupleIter i l n else h.IsListIter i l n
section
variable{k:Bool}{i b:ah}
theorem oQ.at'(x:oQ k h l xs)(e:∀o,h.get? l=some o->h'.get? l=some o):oQ k h' l xs:=by
 cases k
 ·exact Heap.IsList.at (show h.IsList l xs from x) e
 ·obtain⟨o,ho,r⟩:=(show h.IsTuple l xs from x);exact(⟨o,e _ ho,r⟩:h'.IsTuple l xs)
theorem oA.at'(x:oA k h i l n)(e:∀o,h.get? i=some o->h'.get? i=some o):oA k h' i l n:=by
 cases k
 ·exact Heap.IsListIter.at (show h.IsListIter i l n from x) e
 ·exact Heap.IsTupleIter.at (show h.IsTupleIter i l n from x) e
theorem oA.get(x:oA k h i l n):∃o,h.get? i=some o/\∀v,o.data≠.cell v:=by
 cases k
 ·obtain⟨o,ho,_,d⟩:=(show h.IsListIter i l n from x);exact⟨o,ho,fun v z=>by rw[d]at z;cases z⟩
 ·obtain⟨o,ho,_,d⟩:=(show h.IsTupleIter i l n from x);exact⟨o,ho,fun v z=>by rw[d]at z;cases z⟩
theorem oA.but(x:oA k h i l n)(hs:Heap.ExtBut b h h')(hb:i≠b):oA k h' i l n:=x.at' fun o e=>hs i o hb e
theorem oQ.but(x:oQ k h l xs)(hs:Heap.ExtBut b h h')(hb:l≠b):oQ k h' l xs:=x.at' fun o e=>hs l o hb e
end
theorem XF{items:az}{x:aj}(hit:s.heap.IsTupleIter it l i)(hl:s.heap.IsTuple l items)(hx:items[i]? =some x)
  (hQ:∀h',h'.IsTupleIter it l (i+1)->Heap.SameBut it s.heap h'->Q x {s with heap:=h'}):wpAny (model prog w) A (Builtin.SmallTypes.nextOf (.ref it)) Q E s:=by
 obtain⟨o,ho,hc,hd⟩:=id hit;obtain⟨ol,hol,_,nl,hdl⟩:=hl;unfold Builtin.SmallTypes.nextOf;refine Qq (Zk (name:=Str.ofString "__next__") hit.typeIs Ji (Zz Ji hit.typeIs Tr ?_ (Th _)));show wpAny _ _ (field (.ref it) 0>>=_) _ _ s;refine Qq (Zt ho hd (x:=.ref l) rfl ?_);rw[Qb (show ¬ ((Value.ref l==Value.none)=true)from Qa)];refine Qq (Zt ho hd (x:=.int i 0) rfl ?_);refine Qq (Up hol hdl ?_);simp only[Yj,hx];refine Qq (Jn ho hd (by simp) (Qz ⟨x,rfl,Qz (hQ _ ⟨_,Jp _ ho (Ur (Ye hd _)),(Va ..).trans hc,?_⟩ (Zc ..))⟩));rw[Ye hd];simp[rawInt]
theorem XG{items:az}(hh:A.handled=none)(hit:s.heap.IsTupleIter it l i)(hl:s.heap.IsTuple l items)(hx:items[i]? =none)
  (hE:∀h' e,Heap.ExtBut it s.heap h'->(∃o,h'.get? e=some o/\o.cls=.type "StopIteration")->E (.ref e) {s with heap:=h'}):wpAny (model prog w) A (Builtin.SmallTypes.nextOf (.ref it)) Q E s:=by
 obtain⟨o,ho,hc,hd⟩:=id hit;obtain⟨ol,hol,_,nl,hdl⟩:=hl;unfold Builtin.SmallTypes.nextOf;refine Qq (Zk (name:=Str.ofString "__next__") hit.typeIs Ji (Zz Ji hit.typeIs Tr ?_ (Th _)));show wpAny _ _ (field (.ref it) 0>>=_) _ _ s;refine Qq (Zt ho hd (x:=.ref l) rfl ?_);rw[Qb (show ¬ ((Value.ref l==Value.none)=true)from Qa)];refine Qq (Zt ho hd (x:=.int i 0) rfl ?_);refine Qq (Up hol hdl ?_);simp only[Yj,hx];refine Qq (Xv (Qq (Jn ho hd (by simp) ?_)));refine Qq ?_;simp only[newExc,newTuple];refine Qq (Qi ?_ (by size_fits));refine Qq (m:=firstArgMember _ _) (Vt (a:=Value.none) (by first|rfl|(simp only[firstArgMember];rfl)) ?_);refine Qi ?_ (by size_fits);simp only[raiseNew];refine Qq (Ta ?_)
 first|rw[show A.in1.handled=none from hh]|rw[hh]
 refine Qq (Qz (Rk ?_));exact hE _ _ (((Zc ..).extBut.push _).push _) ⟨_,Qw _ rfl,rfl⟩
theorem Hg{k:Bool}{items:az}{x:aj}(hit:oA k s.heap it l i)(hl:oQ k s.heap l items)(hx:items[i]? =some x)
  (hQ:∀h',oA k h' it l (i+1)->Heap.SameBut it s.heap h'->Q x {s with heap:=h'}):wpAny (model prog w) A (Builtin.SmallTypes.nextOf (.ref it)) Q E s:=by
 cases k
 ·exact wpAny_nextOf_list_item hit hl hx hQ
 ·exact XF hit hl hx hQ
theorem Lq{k:Bool}{items:az}(hh:A.handled=none)(hit:oA k s.heap it l i)(hl:oQ k s.heap l items)(hx:items[i]? =none)
  (hE:∀h' e,Heap.ExtBut it s.heap h'->(∃o,h'.get? e=some o/\o.cls=.type "StopIteration")->E (.ref e) {s with heap:=h'}):wpAny (model prog w) A (Builtin.SmallTypes.nextOf (.ref it)) Q E s:=by
 cases k
 ·exact wpAny_nextOf_list_end hh hit hl hx hE
 ·exact XG hh hit hl hx hE
section
variable{c1:Bool}
theorem XH{TI TO:ah}{x a:aj}(D:ZipApart z TI TO i1 i2 l1 l2)
  (hz:IsZip s.heap z TI TO .none)(hTI:IsPair s.heap TI (.ref i1) (.ref i2))(hTO:IsPair s.heap TO a b)
  (h1:oA c1 s.heap i1 l1 k1)(h2:oA c2 s.heap i2 l2 k2)(hl1:oQ c1 s.heap l1 xs)(hl2:oQ c2 s.heap l2 ys)(hx:xs[k1]? =some x)(hy:ys[k2]? =some y)
  (hQ:∀h',IsZip h' z TI TO (rawInt s.heap.objs.size)->IsPair h' TO x y->oA c1 h' i1 l1 (k1+1)->oA c2 h' i2 l2 (k2+1)->IsPair h' s.heap.objs.size x y->h'.objs.size=s.heap.objs.size+1->
   (∀c o,c≠z->c≠TO->c≠i1->c≠i2->s.heap.get? c=some o->h'.get? c=some o)->Q (.ref s.heap.objs.size) {s with heap:=h'}):
  wpAny (model prog w) A (Builtin.«zip.__next__» ⟨[.ref z],[]⟩) (fun fin s'=>∃v,fin=.done (.ret v)/\Q v s') E s:=by
 show wpAny _ _ (field (.ref z) 2>>=_) _ _ _;refine Qq (Zt hz rfl (x:=.bool false) rfl (Qq (Zt hz rfl (x:=.ref TI) rfl ?_)));refine Qq (Up hTI rfl (Qq ?_));unfold Builtin.SmallTypes.ownedTupleIsFree;refine Qq (Zt hz rfl (x:=.none) rfl (Qz ?_));simp only[Yw];refine Qq (Xv (Qq (Zt hz rfl (x:=.ref TO) rfl ?_)));refine Qq (Yn hz (by simp) fun g1 (z1:IsZip g1 z TI TO .ellipsis) s1=>Qq ?_);simp only[List.zipIdx_cons,List.zipIdx_nil,Sz,Rq];refine Qq (Qq (Te (Qq (m:=Builtin.SmallTypes.nextOf (.ref i1)) ?_)));refine Hg (h1.but s1.extBut D.i1z) (hl1.but s1.extBut D.l1z) hx fun g2 a2 s2=>Qz ?_;have p2:IsPair g2 TO a b:=s2.extBut _ _ D.TOi1 (s1.extBut _ _ D.TOz hTO);refine Qq (Up p2 rfl (Qq (Pf p2 fun g3 (p3:IsPair g3 TO x b) s3=>?_)));refine Qq (wpAny_letGo (Qz (Qq (Qq (Te (Qq (m:=Builtin.SmallTypes.nextOf (.ref i2)) ?_))))));refine Hg (((h2.but s1.extBut D.i2z).but s2.extBut D.i12.symm).but s3.extBut D.TOi2.symm) (((hl2.but s1.extBut D.l2z).but s2.extBut D.l2i1).but s3.extBut D.l2TO) hy fun g4 a4 s4=>Qz ?_;have p4:IsPair g4 TO x b:=s4.extBut _ _ D.TOi2 p3;refine Qq (Up p4 rfl (Qq (Pf p4 fun g5 (p5:IsPair g5 TO x y) s5=>?_)));refine Qq (wpAny_letGo (Qz (Qz (Qq (Up p5 rfl (Qq (Rz ?_)))))));have hsz:g5.objs.size=s.heap.objs.size:=by rw[s5.1,s4.1,s3.1,s2.1,s1.1]
 have z5:IsZip g5 z TI TO .ellipsis:=s5.extBut _ _ D.TOz.symm (s4.extBut _ _ D.i2z.symm (s3.extBut _ _ D.TOz.symm (s2.extBut _ _ D.i1z.symm z1)));have k5:∀c o,c≠z->c≠TO->c≠i1->c≠i2->s.heap.get? c=some o->g5.get? c=some o:=fun c o n1 n2 n3 n4 e=>
  s5.extBut _ _ n2 (s4.extBut _ _ n4 (s3.extBut _ _ n2 (s2.extBut _ _ n3 (s1.extBut _ _ n1 e))))
 have b1:oA c1 g5 i1 l1 (k1+1):=((a2.but s3.extBut D.TOi1.symm).but s4.extBut D.i12).but s5.extBut D.TOi1.symm;have b2:oA c2 g5 i2 l2 (k2+1):=a4.but s5.extBut D.TOi2.symm;refine Qq (m:=Builtin.SmallTypes.ownedTupleHandOut (.ref z) (.ref g5.objs.size)) ?_;unfold Builtin.SmallTypes.ownedTupleHandOut;have z6:IsZip (g5.push {cls:=.type "tuple",data:=.seq #[x,y]}) z TI TO .ellipsis:=Qx _ z5;refine Qq (Yn z6 (by simp) fun g7 (z7:IsZip g7 z TI TO (rawInt g5.objs.size)) s7=>?_);refine Yn z7 (by simp) fun g8 (z8:IsZip g8 z TI TO (rawInt g5.objs.size)) s8=>?_;have up:∀c o,c≠z->g5.get? c=some o->g8.get? c=some o:=fun c o n1 e=>s8.extBut _ _ n1 (s7.extBut _ _ n1 (Qx _ e));have t8:IsPair g8 g5.objs.size x y:=s8.extBut _ _ (Pp (Qu z5)) (s7.extBut _ _ (Pp (Qu z5)) (Qw _ rfl));have e8:g8.objs.size=g5.objs.size+1:=by rw[s8.1,s7.1,Jj]
 rw[hsz]at z8 t8 e8;refine Qz ⟨_,rfl,?_⟩;show Q (.ref g5.objs.size) _;rw[hsz];exact hQ g8 z8 (up _ _ D.TOz p5) (b1.at' fun o e=>up _ o D.i1z e) (b2.at' fun o e=>up _ o D.i2z e) t8 e8 fun c o n1 n2 n3 n4 e=>up c o n1 (k5 c o n1 n2 n3 n4 e)
theorem XI{TI TO:ah}{a:aj}{Q:PySem.Fin->ak->Prop}(hh:A.handled=none)(D:ZipApart z TI TO i1 i2 l1 l2)
  (hz:IsZip s.heap z TI TO .none)(hTI:IsPair s.heap TI (.ref i1) (.ref i2))(hTO:IsPair s.heap TO a b)
  (h1:oA c1 s.heap i1 l1 k1)(h2:oA c2 s.heap i2 l2 k2)(hl1:oQ c1 s.heap l1 xs)(hl2:oQ c2 s.heap l2 ys)(hend:xs[k1]? =none\/ys[k2]? =none)
  (hE:∀h' e,(∀c o,c≠z->c≠TO->c≠i1->c≠i2->s.heap.get? c=some o->h'.get? c=some o)->(∃o,h'.get? e=some o/\o.cls=.type "StopIteration")->E (.ref e) {s with heap:=h'}):
  wpAny (model prog w) A (Builtin.«zip.__next__» ⟨[.ref z],[]⟩) Q E s:=by
 show wpAny _ _ (field (.ref z) 2>>=_) _ _ _;refine Qq (Zt hz rfl (x:=.bool false) rfl (Qq (Zt hz rfl (x:=.ref TI) rfl ?_)));refine Qq (Up hTI rfl (Qq ?_));unfold Builtin.SmallTypes.ownedTupleIsFree;refine Qq (Zt hz rfl (x:=.none) rfl (Qz ?_));simp only[Yw];refine Qq (Xv (Qq (Zt hz rfl (x:=.ref TO) rfl ?_)));refine Qq (Yn hz (by simp) fun g1 (z1:IsZip g1 z TI TO .ellipsis) s1=>Qq ?_);simp only[List.zipIdx_cons,List.zipIdx_nil,Sz,Rq];refine Qq (Qq (Te (Qq (m:=Builtin.SmallTypes.nextOf (.ref i1)) ?_)));cases hx:xs[k1]? with
 |none=>
  refine Lq hh (h1.but s1.extBut D.i1z) (hl1.but s1.extBut D.l1z) hx fun g2 e s2 he=>?_;obtain⟨oe,q1,q2⟩:=he;have z2:IsZip g2 z TI TO .ellipsis:=s2 _ _ D.i1z.symm z1;have ne:e≠z:=fun x=>by subst x;rw[z2]at q1;cases q1;simp at q2
  exact Yn z2 (by simp) fun g3 _ s3=>hE g3 e (fun c o n1 _ n3 _ x=>s3.extBut _ _ n1 (s2 _ _ n3 (s1.extBut _ _ n1 x))) ⟨oe,s3.extBut _ _ ne q1,q2⟩
 |some x=>
  have hy:ys[k2]? =none:=by
   rcases hend with h|h
   ·rw[hx]at h;cases h
   ·exact h
  refine Hg (h1.but s1.extBut D.i1z) (hl1.but s1.extBut D.l1z) hx fun g2 a2 s2=>Qz ?_;have p2:IsPair g2 TO a b:=s2.extBut _ _ D.TOi1 (s1.extBut _ _ D.TOz hTO);refine Qq (Up p2 rfl (Qq (Pf p2 fun g3 p3 s3=>?_)));refine Qq (wpAny_letGo (Qz (Qq (Qq (Te (Qq (m:=Builtin.SmallTypes.nextOf (.ref i2)) ?_))))));refine Lq hh (((h2.but s1.extBut D.i2z).but s2.extBut D.i12.symm).but s3.extBut D.TOi2.symm) (((hl2.but s1.extBut D.l2z).but s2.extBut D.l2i1).but s3.extBut D.l2TO) hy fun g4 e s4 he=>?_;obtain⟨oe,q1,q2⟩:=he;have z4:IsZip g4 z TI TO .ellipsis:=s4 _ _ D.i2z.symm (s3.extBut _ _ D.TOz.symm (s2.extBut _ _ D.i1z.symm z1));have ne:e≠z:=fun x=>by subst x;rw[z4]at q1;cases q1;simp at q2
  exact Yn z4 (by simp) fun g5 _ s5=>hE g5 e (fun c o n1 n2 n3 n4 x=>s5.extBut _ _ n1 (s4 _ _ n4 (s3.extBut _ _ n2 (s2.extBut _ _ n3 (s1.extBut _ _ n1 x))))) ⟨oe,s5.extBut _ _ ne q1,q2⟩
theorem XJ{TI TO:ah}{x a:aj}{Q:Option aj->ak->Prop}(D:ZipApart z TI TO i1 i2 l1 l2)
  (hz:IsZip s.heap z TI TO .none)(hTI:IsPair s.heap TI (.ref i1) (.ref i2))(hTO:IsPair s.heap TO a b)
  (h1:oA c1 s.heap i1 l1 k1)(h2:oA c2 s.heap i2 l2 k2)(hl1:oQ c1 s.heap l1 xs)(hl2:oQ c2 s.heap l2 ys)(hx:xs[k1]? =some x)(hy:ys[k2]? =some y)
  (hQ:∀h',IsZip h' z TI TO (rawInt s.heap.objs.size)->IsPair h' TO x y->oA c1 h' i1 l1 (k1+1)->oA c2 h' i2 l2 (k2+1)->IsPair h' s.heap.objs.size x y->h'.objs.size=s.heap.objs.size+1->
   (∀c o,c≠z->c≠TO->c≠i1->c≠i2->s.heap.get? c=some o->h'.get? c=some o)->Q (some (.ref s.heap.objs.size)) {s with heap:=h'}):
  wpAny (model prog w) A (pyNext (.ref z)) Q E s:=by
 have hT:s.TypeIs (.ref z) "zip":=⟨_,hz,rfl⟩;unfold pyNext;exact Qq (Jh (Zk (name:=Str.ofString "__next__") hT Xz (Zz Xz hT PySem.F.entry_zip_next
  (XH D hz hTI hTO h1 h2 hl1 hl2 hx hy fun h' a1 a2 a3 a4 a5 a6 a7=>Qz (hQ h' a1 a2 a3 a4 a5 a6 a7)) (PySem.F.args_zip_next_1 _))))
theorem XM{TI TO:ah}{a:aj}{Q:Option aj->ak->Prop}(hh:A.handled=none)(D:ZipApart z TI TO i1 i2 l1 l2)
  (hz:IsZip s.heap z TI TO .none)(hTI:IsPair s.heap TI (.ref i1) (.ref i2))(hTO:IsPair s.heap TO a b)
  (h1:oA c1 s.heap i1 l1 k1)(h2:oA c2 s.heap i2 l2 k2)(hl1:oQ c1 s.heap l1 xs)(hl2:oQ c2 s.heap l2 ys)(hend:xs[k1]? =none\/ys[k2]? =none)
  (hQ:∀h',(∀c o,c≠z->c≠TO->c≠i1->c≠i2->s.heap.get? c=some o->h'.get? c=some o)->Q none {s with heap:=h'}):wpAny (model prog w) A (pyNext (.ref z)) Q E s:=by
 have hT:s.TypeIs (.ref z) "zip":=⟨_,hz,rfl⟩;unfold pyNext;refine Qq (Jh (Zk (name:=Str.ofString "__next__") hT Xz (Zz Xz hT PySem.F.entry_zip_next
  (XI hh D hz hTI hTO h1 h2 hl1 hl2 hend fun h' e hk he=>?_) (PySem.F.args_zip_next_1 _))))
 obtain⟨o,ho,hc⟩:=he;exact Qq (Vw (T:="StopIteration") (b:=true) ⟨o,ho,hc⟩ Tz (Qz (hQ _ hk)))
end
def Lr(c:Bool):String:=if c then "tuple_iterator" else "list_iterator"
abbrev uS(c1:Bool)(h:Heap)(l1:ah):Heap:=h.push {cls:=.type (Lr c1),data:=.fields #[.ref l1,.int 0 0]}
abbrev vX(c1 c2:Bool)(h:Heap)(l1 l2:ah):Heap:=(uS c1 h l1).push {cls:=.type (Lr c2),data:=.fields #[.ref l2,.int 0 0]}
abbrev vY(c1 c2:Bool)(h:Heap)(l1 l2:ah):Heap:=(vX c1 c2 h l1 l2).push {cls:=.type "tuple",data:=.seq #[.ref h.objs.size,.ref (uS c1 h l1).objs.size]}
abbrev vZ(c1 c2:Bool)(h:Heap)(l1 l2:ah):Heap:=(vY c1 c2 h l1 l2).push {cls:=.type "tuple",data:=.seq #[.none,.none]}
abbrev uH(c1 c2:Bool)(h:Heap)(l1 l2:ah):Heap:=(vZ c1 c2 h l1 l2).push {cls:=.type "zip",data:=.fields #[.none,.bool false,.bool false,.ref (vX c1 c2 h l1 l2).objs.size,.ref (vY c1 c2 h l1 l2).objs.size]}
theorem Ls{items:az}(hl:oQ c s.heap l items)(hQ:Q (.ref s.heap.objs.size) {s with heap:=uS c s.heap l}):wpAny (model prog w) A (pyIter (.ref l)) Q E s:=by
 cases c
 ·exact Tf hl hQ
 ·exact Xr hl hQ
theorem XN(c1 c2:Bool)(l1 l2:ah)(xs ys:az):
  Meets (Builtin.«zip.__new__» ⟨[.type "zip",.ref l1,.ref l2],[]⟩) (fun _ R s=>oQ c1 s.heap l1 xs/\oQ c2 s.heap l2 ys/\R (.ok (.ret (.ref (vZ c1 c2 s.heap l1 l2).objs.size))) {s with heap:=uH c1 c2 s.heap l1 l2}):=
 .of_wp fun prog w A R s h=>by
  obtain⟨hp,g,d,tk,os⟩:=s;obtain⟨hl1,hl2,h⟩:=h;have hsub:=sub_zip;have hL1:oQ c1 (Shared.heap ⟨hp,g,d,tk,os⟩) l1 xs:=hl1;have hL2:oQ c2 (Shared.heap ⟨uS c1 hp l1,g,d,tk,os⟩) l2 ys:=oQ.at' hl2 fun o e=>Qx _ e
  wp_walk using Ls hL1,Ls hL2
  exact⟨_,rfl,h⟩
theorem XO{c1:Bool}(hl1:oQ c1 s.heap l1 xs)(hl2:oQ c2 s.heap l2 ys)
  (h:∀h',IsZip h' (s.heap.objs.size+4) (s.heap.objs.size+2) (s.heap.objs.size+3) .none->IsPair h' (s.heap.objs.size+2) (.ref s.heap.objs.size) (.ref (s.heap.objs.size+1))->
   IsPair h' (s.heap.objs.size+3) .none .none->oA c1 h' s.heap.objs.size l1 0->oA c2 h' (s.heap.objs.size+1) l2 0->h'.objs.size=s.heap.objs.size+5->
   (∀c o,s.heap.get? c=some o->h'.get? c=some o)->Q (.ref (s.heap.objs.size+4)) {s with heap:=h'}):
  wpAny (model prog w) A (call (.type "zip") [.ref l1,.ref l2]) Q E s:=by
 refine callType_new PySem.F.called_zip (by decide) (PySem.F.typeCall_zip_2 _ _) (PySem.F.newCall_zip_2 _ _) (fun obj=>PySem.F.args_object_init_3 obj _ _) PySem.F.entry_zip_new (XN c1 c2 l1 l2 xs ys) ⟨hl1,hl2,?_⟩;have z1:(uS c1 s.heap l1).objs.size=s.heap.objs.size+1:=Jj ..;have z2:(vX c1 c2 s.heap l1 l2).objs.size=s.heap.objs.size+2:=by rw[Jj,z1]
 have z3:(vY c1 c2 s.heap l1 l2).objs.size=s.heap.objs.size+3:=by rw[Jj,z2]
 have z4:(vZ c1 c2 s.heap l1 l2).objs.size=s.heap.objs.size+4:=by rw[Jj,z3]
 have z5:(uH c1 c2 s.heap l1 l2).objs.size=s.heap.objs.size+5:=by rw[Jj,z4]
 have g5:(uH c1 c2 s.heap l1 l2).get? (vZ c1 c2 s.heap l1 l2).objs.size=some _:=Qw _ rfl;have g4:(uH c1 c2 s.heap l1 l2).get? (vY c1 c2 s.heap l1 l2).objs.size=some _:=Qx _ (Qw _ rfl);have g3:(uH c1 c2 s.heap l1 l2).get? (vX c1 c2 s.heap l1 l2).objs.size=some _:=Qx _ (Qx _ (Qw _ rfl));have g2:(uH c1 c2 s.heap l1 l2).get? (uS c1 s.heap l1).objs.size=some _:=Qx _ (Qx _ (Qx _ (Qw _ rfl)));have g1:(uH c1 c2 s.heap l1 l2).get? s.heap.objs.size=some _:=Qx _ (Qx _ (Qx _ (Qx _ (Qw _ rfl))));show _/\_;rw[z2,z3,z4]at g5;rw[z1,z2]at g3;rw[z3]at g4;rw[z1]at g2;rw[z4];refine⟨⟨_,g5,rfl⟩,h _ g5 g3 g4 ?_ ?_ z5 fun c o x=>Qx _ (Qx _ (Qx _ (Qx _ (Qx _ x))))⟩
 ·cases c1
  ·exact(⟨_,g1,rfl,rfl⟩:Heap.IsListIter _ _ _ _)
  ·exact(⟨_,g1,rfl,rfl⟩:Heap.IsTupleIter _ _ _ _)
 ·cases c2
  ·exact(⟨_,g2,rfl,rfl⟩:Heap.IsListIter _ _ _ _)
  ·exact(⟨_,g2,rfl,rfl⟩:Heap.IsTupleIter _ _ _ _)
def rF(c:Bool)(K:Qj)(H:Hp)(a:ah)(xs:ba):Prop:=if c then n5 K H a xs else nT K H a xs
theorem Le.sqA{G':Hp}(l:Le G G'){a:ah}{xs:ba}(h:rF c K G a xs):rF c K G' a xs:=by
 cases c
 ·exact l.sqL h
 ·exact l.sqT' h
section
variable{a b:ah}{xs:ba}
theorem CM(I:Inv X pins σ H s)(h:rF c X.K H a xs):∃its:ao,C7 xs its/\oQ c s.heap a its.toArray/\xs.length≤sizeLine:=by
 cases c
 ·obtain⟨its,r,p,z⟩:=I.list h;exact⟨its,r,p.isList,z⟩
 ·obtain⟨its,r,p,z⟩:=I.tuple h;exact⟨its,r,p,z⟩
theorem FP(I:Inv X pins σ H s)(f:P7 X pins H b)(h:rF c X.K H a xs):a≠b:=by
 have k:∀{u:HO},Rd H a u->a≠b:=fun r z=>by
  subst z;rcases r with r|⟨_,r⟩
  ·rw[f.1]at r;cases r
  ·rw[f.1]at r;cases r
 have m:∀{o:Obj},X.K.lookup a=some o->a≠b:=fun{o} q z=>by
  subst z;have e:X.base.get? a=some o:=I.mod.kin a o q;rcases f.2.2.2.1 with z|z
  ·exact I.ok.noex a o e z
  ·exact absurd (Ql (Qu e) (Qn I.ok.bsz z)) (Jf _)
 cases c
 ·rcases h with h|⟨o,_,_,q,_⟩
  ·exact k h
  ·exact m q
 ·rcases h with h|⟨o,_,_,q,_⟩
  ·exact k h
  ·exact m q
end
def xA(K:Qj)(c1 c2:Bool)(l1 l2:ah)(xs ys:ba):It:=
 ⟨fun i H=>i<min xs.length ys.length/\rF c1 K H l1 xs/\rF c2 K H l2 ys,
  fun i H x H'=>∃p a b,H p=none/\x=.ref p/\H'=upd H p (.tup [a,b])/\xs[i]? =some a/\ys[i]? =some b,
  fun i H=>min xs.length ys.length≤i/\rF c1 K H l1 xs/\rF c2 K H l2 ys⟩
def XQ(c1 c2:Bool)(n:Nat)(l1 l2:ah)(i:Nat)(h:Heap):Prop:=
 IsZip h (n+4) (n+2) (n+3) .none/\IsPair h (n+2) (.ref n) (.ref (n+1))/\(∃a b,IsPair h (n+3) a b)/\oA c1 h n l1 i/\oA c2 h (n+1) l2 i
theorem apart{n:ah}(h1:∀j,j<5->l1≠n+j)(h2:∀j,j<5->l2≠n+j):ZipApart (n+4) (n+2) (n+3) n (n+1) l1 l2:=by
 constructor<;>first
  |(show(_:Nat)≠_;omega)
  |exact h1 4 (by decide)
  |exact h1 3 (by decide)
  |exact h1 1 (by decide)
  |exact h1 0 (by decide)
  |exact h2 4 (by decide)
  |exact h2 3 (by decide)
  |exact h2 1 (by decide)
  |exact h2 0 (by decide)
abbrev sE(n:Nat):List ah:=[n+4,n+2,n+3,n,n+1]
abbrev yC(n:Nat):List ah:=[n+4,n+3,n,n+1]
theorem FQ(n:Nat):∀{j:Nat},j<5->(n+j:Nat)∈sE n
 |0,_=>by simp[sE]
 |1,_=>by simp[sE]
 |2,_=>by simp[sE]
 |3,_=>by simp[sE]
 |4,_=>by simp[sE]
 |j+5,h=>by omega
theorem Lu{c:ah}(h:c∈yC n):c∈sE n:=by
 simp only[yC,sE,Qp,Zr,Uu]at h ⊢;rcases h with h|h|h|h<;>simp[h]
theorem XR{c:ah}(h:c∈[n+4]):c∈sE n:=by
 simp only[Qp,Zr,Uu]at h;rw[h];simp
theorem zV{c:ah}(h:c∈sE n):n≤c:=by
 simp only[sE,Qp,Zr,Uu]at h;rcases h with rfl|rfl|rfl|rfl|rfl
 ·exact Zs _ _
 ·exact Zs _ _
 ·exact Zs _ _
 ·exact Qy _
 ·exact Zs _ _
theorem XS(c1 c2:Bool)(n l1 l2:ah)(xs ys:ba):
  Turn P w K (.Tuple elts kk tp) (xA K c1 c2 l1 l2 xs ys) [n+4,n+2,n+3,n,n+1] (n+4) (XQ c1 c2 n l1 l2)where
 mem:=by simp
 obj:=fun i h st b hb=>by
  obtain⟨hz,hI,⟨a,b',hO⟩,h1,h2⟩:=st;simp only[Qp,Zr,Uu]at hb;rcases hb with rfl|rfl|rfl|rfl|rfl
  ·exact⟨_,hz,fun v z=>by cases z⟩
  ·exact⟨_,hI,fun v z=>by cases z⟩
  ·exact⟨_,hO,fun v z=>by cases z⟩
  ·exact h1.get
  ·exact h2.get
 keep:=fun i h h' st k=>by
  obtain⟨hz,hI,⟨a,b',hO⟩,h1,h2⟩:=st;exact⟨k _ (by simp) _ hz,k _ (by simp) _ hI,⟨a,b',k _ (by simp) _ hO⟩,h1.at' fun o e=>k _ (by simp) o e,h2.at' fun o e=>k _ (by simp) o e⟩
 item:=by
  intro X hP hw hK hc i pins s σ H E I hf st hg;subst hP hw hK;obtain⟨hi,q1,q2⟩:=hg;obtain⟨hz,hI,⟨a,b,hO⟩,h1,h2⟩:=st;obtain⟨its,r1,p1,_⟩:=CM I q1;obtain⟨jts,r2,p2,_⟩:=CM I q2;have ex:xs[i]? =some (xs[i]'(by omega)):=by simp
  have ey:ys[i]? =some (ys[i]'(by omega)):=by simp
  obtain⟨u,hu,ru⟩:=r1.get ex;obtain⟨v,hv,rv⟩:=r2.get ey;have D:ZipApart (n+4) (n+2) (n+3) n (n+1) l1 l2:=apart
   (fun j hj=>FP I (hf _ (FQ n hj)) q1)
   (fun j hj=>FP I (hf _ (FQ n hj)) q2)
  refine XJ D hz hI hO h1 h2 p1 p2 (x:=u) (y:=v) (by simpa using hu) (by simpa using hv) fun h' a1 a2 a3 a4 a5 a6 a7=>?_;have hn:H s.heap.objs.size=none:=I.fresh;have I1:Inv X pins σ (upd H s.heap.objs.size (.tup [xs[i]'(by omega),ys[i]'(by omega)])) {s with heap:=h'}:=Lp (ch:=[n+4,n+3,n,n+1]) (t':=s.toks) I
   (fun c o hc e=>a7 c o (fun z=>hc (by simp[z])) (fun z=>hc (by simp[z])) (fun z=>hc (by simp[z])) (fun z=>hc (by simp[z])) e)
   (fun c hc=>hf c (Lu hc)) (Qy _)
   ⟨by show 2≤sizeLine;decide,[u,v],.cons ru (.cons rv .nil),_,a5,rfl,rfl,0,rfl⟩
  have lt5:∀c∈[n+4,n+2,n+3,n,n+1],c≠s.heap.objs.size:=fun c hc=>by
   have:∃o,s.heap.get? c=some o:=by
    simp only[Qp,Zr,Uu]at hc;rcases hc with rfl|rfl|rfl|rfl|rfl
    ·exact⟨_,hz⟩
    ·exact⟨_,hI⟩
    ·exact⟨_,hO⟩
    ·obtain⟨o,e,_⟩:=h1.get;exact⟨o,e⟩
    ·obtain⟨o,e,_⟩:=h2.get;exact⟨o,e⟩
   obtain⟨o,e⟩:=this;exact Qd (Qu e)
  have hf2:∀c∈[n+4,n+2,n+3,n,n+1],P7 X pins (upd H s.heap.objs.size (.tup [xs[i]'(by omega),ys[i]'(by omega)])) c:=fun c hc=>⟨by rw[C6 (lt5 c hc)];exact(hf c hc).1,(hf c hc).2⟩;have hI':IsPair h' (n+2) (.ref n) (.ref (n+1)):=a7 _ _ D.TIz D.TITO D.TIi1 D.TIi2 hI;refine⟨.ref s.heap.objs.size,rfl,wpAny_letOwnedTupleGo_zip (s:={s with heap:=h'}) a1 fun h2' b1 b2=>?_⟩;have I2:Inv X pins σ (upd H s.heap.objs.size (.tup [xs[i]'(by omega),ys[i]'(by omega)])) {s with heap:=h2'}:=Hf (s:={s with heap:=h'}) (ch:=[n+4]) (t':=s.toks) I1
   (fun c o hc e=>b2.extBut _ _ (fun z=>hc (by simp[z])) e) (fun c hc=>hf2 c (XR hc))
  exact⟨.ref s.heap.objs.size,_,I2,rfl,⟨_,_,_,hn,rfl,rfl,ex,ey⟩,
   ⟨b1,b2.extBut _ _ D.TIz hI',⟨_,_,b2.extBut _ _ D.TOz a2⟩,a3.but b2.extBut D.i1z,a4.but b2.extBut D.i2z⟩,fun c hc=>(hf2 c hc).1⟩
 done:=by
  intro X hP hw hK hc i pins s σ H E I hf st hg;subst hP hw hK;obtain⟨hi,q1,q2⟩:=hg;obtain⟨hz,hI,⟨a,b,hO⟩,h1,h2⟩:=st;obtain⟨its,r1,p1,_⟩:=CM I q1;obtain⟨jts,r2,p2,_⟩:=CM I q2;have D:ZipApart (n+4) (n+2) (n+3) n (n+1) l1 l2:=apart
   (fun j hj=>FP I (hf _ (FQ n hj)) q1)
   (fun j hj=>FP I (hf _ (FQ n hj)) q2)
  have e1:=r1.length;have e2:=r2.length;have hend:its.toArray[i]? =none\/jts.toArray[i]? =none:=by
   by_cases h:its.length≤i
   ·exact .inl (by simp;omega)
   ·exact .inr (by simp;omega)
  exact XM (I.ok.hd hc) D hz hI hO h1 h2 p1 p2 hend fun h' hk=>⟨rfl,Hf (ch:=[n+4,n+3,n,n+1]) (t':=s.toks) I
   (fun c o hc e=>hk c o (fun z=>hc (by simp[z])) (fun z=>hc (by simp[z])) (fun z=>hc (by simp[z])) (fun z=>hc (by simp[z])) e)
   (fun c hc=>hf c (Lu hc))⟩
 self:=fun _ _ _ _ _ st h=>wpAny_pyIter_zip st.1 h
theorem XT:bootBuiltins "zip"=some (.type "zip"):=by rfl'
section
variable{b:Expr}
def XU(K:Qj)(ta:TA):TI:=fun σ H R=>ta σ H fun vs H1=>∃c1 c2 l1 l2 xs ys,vs=[.ref l1,.ref l2]/\rF c1 K H1 l1 xs/\rF c2 K H1 l2 ys/\R (xA K c1 c2 l1 l2 xs ys) H1
theorem XV{ta:TA}(hg:Gl X "zip")(hm:X.mg "zip"=none)(ha:PA X [a,b] ta)(hs:starEach [a,b] X.env=[(false,eval a X.env),(false,eval b X.env)]:=by rfl)(hs2:starEach [b] X.env=[(false,eval b X.env)]:=by rfl):
  PI X (.Tuple elts kk tp) (.Call (.Name "zip" p) [a,b] [] pos) (XU X.K ta):=by
 intro pins s σ H R I h;refine Call_ (Bu I hg hm XT (Uh (i6 (ha pos pins s σ H _ I h) fun us s1 ⟨vs,H1,I1,r1,q1⟩=>?_) (by rw[hs,hs2]) (by rw[hs2];rfl)));obtain⟨c1,c2,l1,l2,xs,ys,rfl,h1,h2,q⟩:=q1;obtain⟨u,v,rfl,ru,rv⟩:=AN r1;cases ru;cases rv;obtain⟨its,r1,p1,_⟩:=CM I1 h1;obtain⟨jts,r2,p2,_⟩:=CM I1 h2;refine XO p1 p2 fun h' a1 a2 a3 a4 a5 a6 a7=>?_;refine wpAny_pyIter_zip a1 ?_;refine⟨s1.heap.objs.size+4,_,_,_,H1,rfl,I1.kept (t':=s1.toks) a7,XS c1 c2 s1.heap.objs.size l1 l2 xs ys,⟨a1,a2,⟨_,_,a3⟩,a4,a5⟩,fun c hc=>?_,q⟩;have hle:s1.heap.objs.size≤c:=zV hc;exact I1.fpOk hle (I1.hok.fresh hle)
def Az(xs ys:bb):bb:=(xs.zip ys).map fun p=>.tup [p.1,p.2]
def CN(ms:Mo bb):Mo bb:=fun env=>(ms env).bind fun p=>match p.1 with
 |[d,e]=>d.items.bind fun xs=>e.items.map fun ys=>(Az xs ys,p.2)
 |_=>none
theorem Lv{v:V}(r:b0 K G v d)(h:d.items=some ds):∃c a xs,v=.ref a/\rF c K G a xs/\B4 K G xs ds:=by
 cases d<;>first|(exact absurd (show(none:Option bb)=some ds from h) (by simp))|skip
 ·cases h;simp only[b0]at r;obtain⟨a,xs,e,q,t⟩:=r;exact⟨true,a,xs,e,q.t,t⟩
 ·cases h;simp only[b0]at r;obtain⟨a,xs,e,q,t⟩:=r;exact⟨false,a,xs,e,q,t⟩
theorem XX{c1:Bool}{xs ys:ba}{es:bb}(h1:rF c1 K G l1 xs)(h2:rF c2 K G l2 ys)(r1:B4 K G xs ds)(r2:B4 K G ys es):tO K (xA K c1 c2 l1 l2 xs ys) G (Az ds es)where
 go:=fun i H l hi=>⟨by rw[r1.length,r2.length];simpa [Az]using hi,l.sqA h1,l.sqA h2⟩
 stop:=fun i H l hi=>⟨by rw[r1.length,r2.length];simpa [Az]using hi,l.sqA h1,l.sqA h2⟩
 yld:=fun i H x H' d l y e=>by
  obtain⟨p,a,b,hp,rfl,rfl,ea,eb⟩:=y;obtain⟨da,e1,ra⟩:=r1.get' ea;obtain⟨db,e2,rb⟩:=r2.get' eb;have ed:d=.tup [da,db]:=by
   unfold Az at e;rw[Zw,List.getElem?_zip_eq_some.mpr (⟨e1,e2⟩:ds[i]? =some (da,db).1/\es[i]? =some (da,db).2)]at e;cases e;rfl
  subst ed;have gp:G p=none:=by
   cases q:G p with
   |none=>rfl
   |some o=>rw[l p o q]at hp;cases hp
  exact .inr ⟨p,_,rW,hp,rfl,Aj D7 (f6 (b0.mono (Le.upd gp) _ ra) (f6 (b0.mono (Le.upd gp) _ rb) f7))⟩
theorem Lw(hg:Gl X "zip")(hm:X.mg "zip"=none)(ha:pN X B [a,b] ms)(hs:starEach [a,b] X.env=[(false,eval a X.env),(false,eval b X.env)]:=by rfl)(hs2:starEach [b] X.env=[(false,eval b X.env)]:=by rfl):
  EI X B (.Tuple elts kk tp) (.Call (.Name "zip" p) [a,b] [] pos) (CN ms):=by
 refine FJ (XV hg hm ha hs hs2) ?_;rintro σ H R ⟨G,env,ds,env',rl,e,k⟩;obtain⟨⟨ds',a8⟩,e1,e2⟩:=B9 e;dsimp only at e2;split at e2
 ·rename_i d1 d2;obtain⟨xs,e3,e4⟩:=B9 e2;obtain⟨ys,e5,e6⟩:=D9 e4;cases e6;refine⟨G,env,_,_,rl,e1,fun vs G1 H1 ev r=>?_⟩;obtain⟨v,w,rfl,r1,r2⟩:=CC r;obtain⟨c1,l1,us,rfl,q1,t1⟩:=Lv r1 e3;obtain⟨c2,l2,ws,rfl,q2,t2⟩:=Lv r2 e5;exact⟨c1,c2,l1,l2,us,ws,rfl,ev.rel.sub.sqA q1,ev.rel.sub.sqA q2,k _ G1 H1 ev (XX q1 q2 t1 t2)⟩
 ·cases e2
end
theorem XY{a:ah}(x:F3 P w H h a o):∃ob,h.get? a=some ob:=by
 cases o with
 |lst xs=>obtain⟨_,_,_,_,e⟩:=x;exact⟨_,e⟩
 |tup xs=>obtain⟨_,_,_,ob,e,_⟩:=x;exact⟨_,e⟩
 |dK kvs=>obtain⟨_,_,_,_,o,_,_,e,_⟩:=x;exact⟨_,e⟩
 |dT C kvs=>obtain⟨_,_,_,_,o,_,_,e,_⟩:=x;exact⟨_,e⟩
 |dX es ep=>obtain⟨_,_,o,e,_⟩:=x;exact⟨_,e⟩
 |set S n=>obtain⟨o,_,_,_,e,_⟩:=x;exact⟨_,e⟩
 |ins C dx fs=>obtain⟨_,_,_,e,_⟩:=x;exact⟨_,e⟩
 |own y=>obtain⟨_,e⟩:=x;exact⟨_,e⟩
 |xd fs=>obtain⟨_,⟨_,_,_,e,_⟩,_⟩:=x;exact⟨_,e⟩
 |rng lo hi=>obtain⟨_,_,_,e⟩:=x;exact⟨_,e⟩
 |frz ob u=>obtain⟨e,_⟩:=x;exact⟨_,e⟩
 |tbl ps=>exact⟨_,(show h.get? a=some _ from x)⟩
 |met f y=>exact⟨_,(show h.get? a=some _ from x)⟩
 |ext φ=>obtain⟨_,⟨_,e⟩,_⟩:=x;exact⟨_,e⟩
section
variable{fin:Bool}{Q:Bool->ak->Prop}
end
theorem XZ{m:OI}(I:Inv X pins σ H s)(hm:s.heap.Ns X.env.locals m)(hm':h'.Ns X.env.locals m)(k:∀b o,b≠X.env.locals->s.heap.get? b=some o->h'.get? b=some o):Inv X pins σ H {s with heap:=h',toks:=t'}:=by
 refine I.step (g':=s.gens) (d':=s.drawn) (ch:=[]) (fun _ z=>nomatch z) (fun b o hL _ _ e _=>k b o hL e) (fun b o hL _ _ e _=>⟨o.slots,k b o hL e⟩) (fun _ _ _ _ n=>n) (fun b o _ e=>?_) (fun _ _ e=>e) (fun _ _ _ e=>e) (fun b ps e=>⟨#[],by rw[e];simp⟩) (fun m2 hm2=>?_) (fun b u e=>?_) I.bare
 ·by_cases hb:b=X.env.locals
  ·subst hb;obtain⟨o',_,_,ho,_⟩:=hm';exact⟨o',ho⟩
  ·exact⟨o,k b o hb e⟩
 ·have e:m2=m:=by
   funext x
   obtain⟨o1,es1,ep1,h1,h2,_,h3⟩:=hm;obtain⟨o2,es2,ep2,g1,g2,_,g3⟩:=hm2;rw[h1]at g1;cases g1;rw[h2]at g2;injection g2 with g4 _
   subst g4;rw[←h3,←g3]
  rw[e];exact hm'
 ·refine(I.hok b u e).stay (fun c v hc q=>k c v ?_ q) (fun _ q=>q) fun _ _ q=>q;rcases hc with z|z
  ·rw[z];intro z2;rw[z2,I.free]at e;cases e
  ·intro z2;rw[z2,I.free]at z;cases z
theorem Hh{p:ah}(I:Inv X pins σ H s)(np:∀b u,s.heap.get? b=some u->b≠p):H p=none:=by
 cases e:H p with
 |none=>rfl
 |some o=>
  obtain⟨ob,q⟩:=XY (I.hok p o e);exact absurd rfl (np p ob q)
theorem Lx{m:OI}{p:ah}{ys:ba}{its:ao}(I:Inv X pins σ H s)(hm:s.heap.Ns X.env.locals m)(hm':h'.Ns X.env.locals m)(k:∀b o,b≠X.env.locals->s.heap.get? b=some o->h'.get? b=some o)
  (np:∀b u,s.heap.get? b=some u->b≠p)(hv:C7 ys its)(hz:ys.length≤sizeLine)(hn:h'.get? p=some {cls:=.type "list",data:=.seq its.toArray n}):Inv X pins σ (upd H p (.lst ys)) {s with heap:=h',toks:=t'}:=by
 have I1:Inv X pins σ H {s with heap:=h',toks:=t'}:=XZ I hm hm' k;have hf:H p=none:=Hh I np;refine I.step (g':=s.gens) (d':=s.drawn) (ch:=[]) (fun _ z=>nomatch z) (fun b o hL _ _ e _=>k b o hL e) (fun b o hL _ _ e _=>⟨o.slots,k b o hL e⟩) (fun b o _ e n=>by rw[C6 (np b o e)];exact n) (fun b o _ e=>?_) (fun b xs q=>by rw[C6 (L6 q hf)];exact q) (fun b u xs q=>by rw[C6 (L6 q hf)];exact q) (fun b ps e=>⟨#[],by rw[C6 (L6 e hf),e];simp⟩) (fun m2 hm2=>?_) (fun b u e=>?_) I.bare
 ·by_cases hb:b=X.env.locals
  ·subst hb;obtain⟨o',_,_,ho,_⟩:=hm';exact⟨o',ho⟩
  ·exact⟨o,k b o hb e⟩
 ·have e:m2=m:=by
   funext x
   obtain⟨o1,es1,ep1,h1,h2,_,h3⟩:=hm;obtain⟨o2,es2,ep2,g1,g2,_,g3⟩:=hm2;rw[h1]at g1;cases g1;rw[h2]at g2;injection g2 with g4 _
   subst g4;rw[←h3,←g3]
  rw[e];exact hm'
 ·by_cases hb:b=p
  ·subst hb;rw[D7]at e;cases e;exact⟨hz,its,n,hv,hn⟩
  ·rw[C6 hb]at e;exact(I1.hok b u e).stay (fun c v hc q=>q) (fun c q=>by rw[C6 (L6 q hf)];exact q) fun c xs q=>by rw[C6 (L6 q hf)];exact q
def keys(ds:bb):Option (OO):=ds.mapM fun d=>match d with
 |.tup es=>(i9 es).bind fun ns=>if ns.isEmpty then none else some ns
 |_=>none
theorem YA{vs:ao}(I:Inv X pins σ H s)(hl:s.heap.IsList l vs.toArray)(h2:vs.length<2)
  (h:∀D c h' m,(∀b u,s.heap.get? b=some u->b≠D)->s.heap.Ns X.env.locals m->h'.Ns X.env.locals m->(∀b o,b≠X.env.locals->s.heap.get? b=some o->h'.get? b=some o)->
   h'.get? D=some {cls:=.type "list",data:=.seq vs.toArray c}->Q (.ref D) {s with heap:=h'}):
  wpAny (model X.prog X.w) X.A (call (.builtin "sorted") [.ref l]) Q E s:=by
 obtain⟨m,F⟩:=I.fr;have hm:s.heap.Ns X.env.locals m:=F.ns;refine Xn kind_sorted plain_sorted entry_sorted (args_sorted1 _) ?_;unfold Builtin.«sorted»;refine Qq (m:=checkCount "sorted" 1 1 _) (Qz (Qq (collect_list hl ?_ (by rw[Jr];omega))));refine Qq (To ?_ (by rw[Jr];omega));have hsz:((s.heap.push (seqObj "list" #[] 0)).update s.heap.objs.size (Obj.mapSeq (· ++vs.toArray))).objs.size=s.heap.objs.size+1:=by rw[Heap.size_update,size_push']
 generalize eg:((s.heap.push (seqObj "list" #[] 0)).update s.heap.objs.size (Obj.mapSeq (· ++vs.toArray)))=g1 at hsz;have k1:∀b o,s.heap.get? b=some o->g1.get? b=some o:=fun b o q=>by
  have hlt:b<s.heap.objs.size:=Qu q;rw[←eg,Xp _ _ _ _ (Qd hlt),Heap.get?_push_ne _ _ _ (Qd hlt)];exact q
 generalize eg2:g1.push (seqObj "list" vs.toArray 0)=g2;have hg2:({cls:=.type "list",data:=.seq vs.toArray}:Obj)=seqObj "list" vs.toArray 0:=rfl;show wpAny _ _ _ _ _ {s with heap:=g2};dsimp only;rw[hsz];have k2:∀b o,s.heap.get? b=some o->g2.get? b=some o:=fun b o q=>by rw[←eg2];exact Qx _ (k1 b o q)
 have hD:g2.get? (s.heap.objs.size+1)=some (seqObj "list" vs.toArray 0):=by rw[←eg2,←hsz];exact Qw _ rfl
 have hs2:g2.objs.size=s.heap.objs.size+2:=by rw[←eg2,size_push',hsz]
 refine Qq (Ze (Zz slot_list_sort ⟨_,hD,rfl⟩ entry_list_sort ?_ (args_list_sort _)));rw[list_sort_plain];refine Qq (listItems_at hD rfl (Qq (listUpdate_at hD rfl ?_ (by rw[Qh,Jr];omega) (Yt _))));obtain⟨e1,ho1⟩:∃e1,(g2.update (s.heap.objs.size+1) (Obj.mapSeq fun _=>#[])).get? (s.heap.objs.size+1)=some (seqObj "list" #[] e1):=⟨_,Ph hD fun _=>#[]⟩;refine Qq (seqEpoch_at ho1 rfl (Qq (Rz (Qq (To (Ze ?_) (by rw[Jr];simp))) (by rw[Jr];simp;omega))));generalize eg3:(g2.update (s.heap.objs.size+1) (Obj.mapSeq fun _=>#[]))=g3 at ho1 ⊢;have hs3:g3.objs.size=s.heap.objs.size+2:=by rw[←eg3,Heap.size_update];exact hs2
 have k3:∀b o,s.heap.get? b=some o->g3.get? b=some o:=fun b o q=>by
  rw[←eg3,Xp _ _ _ _ (Qd (Jz (Qu q)))];exact k2 b o q
 generalize eg4:(g3.push {cls:=.type "tuple",data:=.seq vs.toArray}).push {cls:=.type "list",data:=.seq #[]}=g4;have up4:∀b o,g3.get? b=some o->g4.get? b=some o:=fun b o q=>by rw[←eg4];exact Qx _ (Qx _ q)
 have ho4:g4.get? (s.heap.objs.size+1)=some (seqObj "list" #[] e1):=up4 _ _ ho1;dsimp only;have hlt2:vs.toArray.size<2:=by simpa using h2
 rw[Qg hlt2,Qg hlt2];refine Qq (Qz ?_);rw[StateT.run_pure];refine Qq (Qz ?_);dsimp only;have ez:Array.map (fun(x:Keyed)=>x.snd) (arrOf (SortSt.mk' general' (vs.toArray.zip vs.toArray) #[] 7 none))=vs.toArray:=by
  show Array.map (fun(x:Keyed)=>x.snd) (vs.toArray.zip vs.toArray)=vs.toArray;apply Array.toList_inj.mp;rw[Ra,Array.toList_zip];exact List.map_snd_zip (Qy _)
 rw[ez];refine Qq (seqEpoch_at ho4 rfl (Qq (listUpdate_at ho4 rfl ?_ (by rw[Jr];simp) (by rw[Qh,Jr];omega))));rw[Qb (by simp)];have ho5:=Ph ho4 fun _=>vs.toArray;refine Qz ⟨_,rfl,Qz ⟨_,rfl,?_⟩⟩;have k5:∀b o,s.heap.get? b=some o->(g4.update (s.heap.objs.size+1) (Obj.mapSeq fun _=>vs.toArray)).get? b=some o:=fun b o q=>by
  rw[Xp _ _ _ _ (Qd (Jz (Qu q)))];exact up4 b o (k3 b o q)
 obtain⟨ol,es,ep,q1,q2⟩:=id hm;exact h (s.heap.objs.size+1) _ _ m (fun b u q=>Qd (Jz (Qu q))) hm ⟨ol,es,ep,k5 _ _ q1,q2⟩ (fun b o _ q=>k5 b o q) ho5
theorem Ly{K:Qj}{G:Hp}{ds:bb}{xs:ba}{us:ao}(r:B4 K G xs ds)(v:C7 xs us):∀{p:List Nat}{es:bb},(p.mapM fun i=>ds[i]?)=some es->∃ys,C7 ys (p.map fun i=>us.getD i Value.none)/\B4 K G ys es
 |[],es,e=>by cases e;exact⟨[],.nil,f7⟩
 |i::p,es,e=>by
  rw[List.mapM_cons]at e;obtain⟨d,e1,e2⟩:=B9 e;obtain⟨es',e3,e4⟩:=B9 e2;cases e4;obtain⟨ys,h1,h2⟩:=Ly r v e3;obtain⟨x,g1,g2⟩:=r.get e1;obtain⟨u,g3,g4⟩:=v.get g1;refine⟨x::ys,?_,f6 g2 h2⟩;rw[Qm];have:us.getD i Value.none=u:=by simp[g3]
  rw[this];exact .cons g4 h1
theorem YB(I:Inv X pins σ H s):sysModules<s.heap.objs.size:=by
 have h:mainGlobals<s.heap.objs.size:=(I.mod.glob.keeps I.bk).lt;exact Vk (by decide) h
theorem YC:PE X (.Dict [] [] pos) (fun _ H Q=>∀p,H p=none->Q (.ref p) (upd H p (.dK []))):=fun pins s σ H Q I h=>
 wpAny_Dict_empty ⟨.ref s.heap.objs.size,_,I.laid (a:=s.heap.objs.size) (o:=.dK []) (t':=s.toks) (fun _ _ q=>Qx _ q) (Qy _)
  ⟨Yt _,Pa.mpr (Za (Qd (YB I))),[],.nil,Heap.DictOf.new s.heap⟩,rfl,h _ (I.hok.fresh (Qy _))⟩
theorem Lz:ED X B (.Dict [] [] pos) (mC .emp):=by
 refine c9 YC ?_;rintro σ H Q ⟨G,env,d,env',rl,e,k⟩;cases e;exact fun p hp=>k _ _ _ (rl.alloc hp) (by simp only[b0];exact⟨p,[],rfl,D7⟩)
section
variable{fn:Fn}{f:ah}
structure Def(P:af)(w:ag)(K:Qj)(mg:OI)(base:Heap)(x:Str)(k n:Nat)(fn:Fn):Prop where
 ex:∃(f:ah) (fd:FuncData) (ps:ar),i4 P w K mg base mZ k f fd ps (nY K n fn)/\ps.length=n/\mg x=some (.ref f)/\PySem.W.keepIn K (.ref f)=true/\Q7 K fd ps []
theorem F6(D:Def X.prog X.w X.K X.mg X.base x k n fn)(hr:g9 k X.A)(hg:Gl X x)(ha:sO X B (e::es) as)(hdb:(x==("__debug__":Str))=false:=by decide)
  (he:starEach (e::es) X.env=(false,eval e X.env)::starEach es X.env:=by rfl)(hpl:(backTo pos (starEach es X.env)).any (·.1)=false:=by rfl):
  ED X B (.Call (.Name x p) (e::es) [] pos) (i7 n fn as):=by
 obtain⟨f,fd,ps,F,rfl,hm,hk,hb⟩:=D.ex;exact Wd F hr hg hm hk hb ha hdb he hpl
theorem CO(D:Def X.prog X.w X.K X.mg X.base x k n fn)(hr:g9 k X.A)(hg:Gl X x)(ha:sO X B (e::es) as)(hdb:(x==("__debug__":Str))=false:=by decide)
  (he:starEach (e::es) X.env=(false,eval e X.env)::starEach es X.env:=by rfl)(hpl:(backTo pos (starEach es X.env)).any (·.1)=false:=by rfl):
  EL X B (.Call (.Name x p) (e::es) [] pos) (O7 n fn as):=by
 obtain⟨f,fd,ps,F,rfl,hm,hk,hb⟩:=D.ex;exact We F hr hg hm hk hb ha hdb he hpl
def BA:Option NameKind->Option NameKind->Bool:=fun a b=>decide (a=b)
def MA(outN N':ar)(outNames:List (Str×NameKind))(cells:List (Str×ah))(scope:Scope)(keep:ay)(more:Nat):Bool:=
 (decide (scope.kind=.function)&&(scope.names.all (fun y=>BA (scope.names.lookup y.1) (some y.2))&&(scope.names.all (fun y=>!BA (some y.2) (some .free)||(cells.lookup y.1).isSome)&&(decide (keep.length=outN.length)&&(decide (N'.length=outN.length+more)&&
  (List.range keep.length).all fun i=>!(keep.getD i false)||match N'[i]?,outN[i]? with
   |some x,some y=>decide (x=y)&&(!BA (scope.names.lookup x) (some .local)&&(!BA (scope.names.lookup x) (some .cell)&&(!BA (scope.names.lookup x) (some .free)||(BA (outNames.lookup x) (some .cell)||BA (outNames.lookup x) (some .free)))))
   |_,_=>false)))))
theorem YD{N':ar}{keep:ay}(c:closureFor scope X.env=pure (M9 X.env.cells scope.names []))(h:MA X.N N' X.env.scope.names X.env.cells scope keep more=true):mY X N' scope keep more:=by
 unfold MA at h;simp only[Qr,Yk,Zb,BA]at h;obtain⟨h1,h2,h3,h4,h5,h6⟩:=h;have gt:∀(i:Nat) (x:Str),keep[i]? =some true->N'[i]? =some x->∃y,X.N[i]? =some y/\x=y/\ ¬ (scope.names.lookup x=some .local)/\ ¬ (scope.names.lookup x=some .cell)/\(scope.names.lookup x=some .free->X.env.scope.names.lookup x=some .cell\/X.env.scope.names.lookup x=some .free):=fun i x e1 e2=>by
  have hi:i<keep.length:=(Qc.mp e1).1;have q:=h6 i (Yp.mpr hi);have e3:keep.getD i false=true:=by simp[e1]
  rw[e3,e2]at q;cases e4:X.N[i]? with
  |none=>rw[e4]at q;simp at q
  |some y=>
   rw[e4]at q;simp only[Bool.not_true,Bool.false_or,Qr,Yk,Rf,decide_eq_false_iff_not,Bool.or_eq_true]at q;obtain⟨q1,q2,q3,q4⟩:=q;exact⟨y,rfl,q1,q2,q3,fun z=>q4.elim (fun n=>absurd z n) id⟩
 refine⟨h1,h2,c,fun y hy hf=>?_,h4,h5,fun i x e1 e2=>?_,fun i x e1 e2 e3=>?_⟩
 ·have q:=h3 y hy;rw[hf]at q;simpa using q
 ·obtain⟨y,g1,g2,g3,g4,_⟩:=gt i x e1 e2;exact⟨by rw[g1,g2],g3,g4⟩
 ·have hi:i<keep.length:=(Qc.mp e1).1;have hN:i<N'.length:=by omega
  obtain⟨y,g1,g2,g3,g4,g5⟩:=gt i _ e1 (Qe hN);rw[e2]at g1;cases g1;rw[g2]at g5;exact g5 e3
end
theorem BB{i:Int}(hg:Gl X x)(hm:∃t,X.mg x=some (.int i t))(hd:(x==("__debug__":Str))=false:=by decide):ED X B (.Name x pos) (mC (.int i)):=by
 obtain⟨t,hm⟩:=hm;exact WD hg hm hd
def Kp(i:Nat)(m:Mo D):Prop:=∀env d env' w ds,m env=some (d,env')->env'[i]? =some w->w.mut=some ds->∃w0 ds0,env[i]? =some w0/\w0.mut=some ds0
theorem MB:Kp i (mC d):=fun env d' env' w ds e h1 h2=>by cases e;exact⟨w,ds,h1,h2⟩
theorem YE:bootBuiltins "int"=some (.type "int"):=by rfl'
theorem YF:bootBuiltins "bool"=some (.type "bool"):=by rfl'
theorem MC:bootBuiltins "tuple"=some (.type "tuple"):=by rfl'
theorem MD:bootBuiltins "list"=some (.type "list"):=by rfl'
theorem YG:bootBuiltins "all"=some (.builtin "all"):=by rfl'
theorem YH:bootBuiltins "max"=some (.builtin "max"):=by rfl'
theorem YI:bootBuiltins "min"=some (.builtin "min"):=by rfl'
theorem ME:bootBuiltins "sorted"=some (.builtin "sorted"):=by rfl'
theorem DW{K:Qj}{G:Hp}:∀ns:aq,B4 K G (ns.map V.int) (ns.map D.int)
 |[]=>f7
 |n::ns=>f6 (by simp only[b0]) (DW ns)
def DX:Expr->Bool
 |.Starred _ _=>true
 |_=>false
theorem FR{env:Env}(h:DX e=false):starEach (e::es) env=(false,eval e env)::starEach es env:=by
 cases e<;>first|rfl|cases h
theorem yD{env:Env}(h:DX a=false):starEach [a] env=[(false,eval a env)]:=by rw[FR h];rfl
theorem zW{b:Expr}{env:Env}(h:DX a=false)(h2:DX b=false):starEach [a,b] env=[(false,eval a env),(false,eval b env)]:=by rw[FR h,yD h2]
theorem MF{pos:Pos}{env:Env}:∀{es:au},es.all (fun e=>!DX e)=true->(backTo pos (starEach es env)).any (·.1)=false
 |[],_=>rfl
 |e::es,h=>by
  rw[Uk,Qr,Rf]at h;rw[FR h.1];show(false||(backTo pos (starEach es env)).any (·.1))=false;rw[MF h.2];rfl
theorem Y4{m n:Mo Fl}{e e1:a9}(h:m e=some (.nx,e1)):C1 m n e=n e1:=by unfold C1;rw[h];rfl
theorem Aa{m n:Mo Fl}{e e1:a9}(h:m e=some (.ret d,e1)):C1 m n e=some (.ret d,e1):=by unfold C1;rw[h];rfl
theorem FT{t:Mo Bool}{m n:Mo Fl}{e e1:a9}(h:t e=some (true,e1)):E2 t m n e=m e1:=by unfold E2;rw[h];rfl
theorem FU{t:Mo Bool}{m n:Mo Fl}{e e1:a9}(h:t e=some (false,e1)):E2 t m n e=n e1:=by unfold E2;rw[h];rfl
theorem YJ(neg:Bool)(i j:Int):nW neg (.int i) (.int j)=some (.bl (if neg then !(i==j)else(i==j))):=rfl
theorem MG{g:OX}{m:Mo D}{P:a9->Prop}{f:D->D}:∀{ds:bb}{env:a9},(∀d∈ds,∀e,P e->∃e1 e2,g d e=some e1/\m e1=some (f d,e2)/\P e2)->P env->
  ∃env',O0 g F7 m ds env=some (ds.map f,env')/\P env'
 |[],env,_,p=>⟨env,rfl,p⟩
 |d::ds,env,h,p=>by
  obtain⟨e1,e2,h1,h2,h3⟩:=h d (by simp) env p;obtain⟨e3,h4,h5⟩:=MG (ds:=ds) (fun x hx=>h x (by simp[hx])) h3;refine⟨e3,?_,h5⟩;unfold O0;rw[h1];simp only[Qk,F7,Yw];rw[h2];simp only[Qk];rw[h4];rfl
theorem MH{g:OX}{b:Mo Fl}{P:a9->Prop}:∀{ds:bb}{env:a9},(∀d∈ds,∀e,P e->∃e1 e2,g d e=some e1/\b e1=some (.nx,e2)/\P e2)->P env->∃env',loop g b ds env=some (.nx,env')/\P env'
 |[],env,_,p=>⟨env,rfl,p⟩
 |d::ds,env,h,p=>by
  obtain⟨e1,e2,h1,h2,h3⟩:=h d (by simp) env p;obtain⟨e3,h4,h5⟩:=MH (ds:=ds) (fun x hx=>h x (by simp[hx])) h3;refine⟨e3,?_,h5⟩;unfold loop;rw[h1];simp only[Qk];rw[h2];exact h4
theorem FV{α:Type}(f:α->Bool):∀l:List α,U4 (l.map fun x=>D.bl (f x))=some (l.all f)
 |[]=>rfl
 |x::l=>by simp[U4,FV f l]
theorem O1{N:Nat}{env:bf}(h:mb (ws++List.replicate (N-ws.length) .nil)=some (.ret d,env)):nP N mb ws=some (.d d,X1 ws env):=by unfold nP;rw[h]
theorem FW{N:Nat}{env:bf}{d:bb}(h:mb (ws++List.replicate (N-ws.length) .nil)=some (.retL d,env)):nP N mb ws=some (.l d,X1 ws env):=by unfold nP;rw[h]
def stop(b:Bool)(d:D):Fl:=if b then .nx else .ret d
theorem MI{g:OX}{b:Mo Fl}{P:a9->Prop}{ok:D->Bool}{r:D}:∀{ds:bb}{env:a9},(∀d∈ds,∀e,P e->∃e1 e2,g d e=some e1/\b e1=some (stop (ok d) r,e2)/\P e2)->P env->∃env',loop g b ds env=some (stop (ds.all ok) r,env')/\P env'
 |[],env,_,p=>⟨env,rfl,p⟩
 |d::ds,env,h,p=>by
  obtain⟨e1,e2,h1,h2,h3⟩:=h d (by simp) env p
  by_cases hk:ok d=true
  ·obtain⟨e3,h4,h5⟩:=MI (ds:=ds) (fun x hx=>h x (by simp[hx])) h3;refine⟨e3,?_,h5⟩;unfold loop;rw[h1];simp only[Qk];rw[h2,hk,Uk,hk,Ru];exact h4
  ·have hk':ok d=false:=by simpa using hk
   refine⟨e2,?_,h3⟩;unfold loop;rw[h1];simp only[Qk];rw[h2,hk',Uk,hk',Bool.false_and];rfl
theorem Hi{keep:ay}{g:OX}{t:Mo Bool}{e1 e2 e3:a9}{r:bb}(h:mi env=some (ds,e1))(hl:ds.length≤100000)(hc:O0 g t m ds (K5 keep more e1)=some (r,e2))(ho:K6 keep e1 e2=some e3):
  N1 mi keep more g t m env=some (r,e3):=by
 unfold N1;rw[h];show(if ds.length≤100000 then(O0 g t m ds (K5 keep more e1)).bind _ else none)=_;rw[Qg hl,hc];show(K6 keep e1 e2).map _=_;rw[ho];rfl
theorem YK{e1:a9}{j:Int}(h:ms env=some ([.int j],e1))(h1: -1000000<j)(h2:j<1000000):U1 ms env=some (Z7 0 j.toNat,e1):=by
 unfold U1;rw[h];exact Qg ⟨h1,h2⟩
theorem U8{f:bb->Option D}{e1:a9}(h:ms env=some (ds,e1))(hf:f ds=some d):j1 f ms env=some (d,e1):=by unfold j1;rw[h];show(f ds).map _=_;rw[hf];rfl
theorem FX{f:bb->Option bb}{e1:a9}{d:bb}(h:ms env=some (ds,e1))(hf:f ds=some d):rE f ms env=some (d,e1):=by unfold rE;rw[h];show(f ds).map _=_;rw[hf];rfl
theorem F1{e1 e2:a9}(h:m env=some (d,e1))(h2:ms e1=some (ds,e2)):B0 m ms env=some (d::ds,e2):=by unfold B0;rw[h];show(ms e1).map _=_;rw[h2];rfl
theorem Y5{ms:Mo (List Ar)}{e1 e2:a9}{ds:List Ar}(h:m env=some (d,e1))(h2:ms e1=some (ds,e2)):B8 m ms env=some (.d d::ds,e2):=by unfold B8;rw[h];show(ms e1).map _=_;rw[h2];rfl
theorem U9{m:Mo bb}{e1:a9}(h:m env=some (ds,e1)):mF m env=some (.lst ds,e1):=by unfold mF;rw[h];rfl
theorem Bd{e1:a9}(h:m env=some (d,e1))(hd:d.items=some ds):G8 m env=some (ds,e1):=by unfold G8;rw[h];show d.items.map _=_;rw[hd];rfl
theorem D6{f:D->D->Option D}{mb:Mo D}{e1 e2:a9}{a b c:D}(h1:ma env=some (a,e1))(h2:mb e1=some (b,e2))(hf:f a b=some c):B5 f ma mb env=some (c,e2):=by
 unfold B5;rw[h1];show(mb e1).bind _=_;rw[h2];show(f a b).map _=_;rw[hf];rfl
theorem V0{e1:a9}(h:m env=some (d,e1)):E1 m env=some (.ret d,e1):=by unfold E1;rw[h];rfl
theorem FY{m:Mo bb}{e1:a9}{d:bb}(h:m env=some (d,e1)):AV m env=some (.retL d,e1):=by unfold AV;rw[h];rfl
theorem Ab{e1:a9}(h:m env=some (d,e1)):E3 i m env=some (.nx,e1.set i (.dat d)):=by unfold E3;rw[h];rfl
theorem Hj{m:Mo bb}{e1:a9}{d:bb}(h:m env=some (d,e1)):K8 i m env=some (.nx,e1.set i (.own d)):=by unfold K8;rw[h];rfl
theorem L7{e1:a9}{b:Bool}(h:m env=some (.bl b,e1)):mT m env=some (b,e1):=by unfold mT;rw[h];rfl
theorem X3{m:Mo Bool}{e1:a9}{b:Bool}(h:m env=some (b,e1)):F5 m env=some (!b,e1):=by unfold F5;rw[h];rfl
theorem X4{g:OX}{b:Mo Fl}{e1:a9}(h:mi env=some (ds,e1)):J1 mi g b env=loop g b ds e1:=by unfold J1;rw[h];rfl
theorem CP{f:Fn}{e1:a9}(h:as env=some (av,e1))(hn:av.length=n)(hs:slots av=[])(hf:f (av.map (N9 (.l [])))=some (r,ws')):AY n f as env=some (r,e1):=by
 unfold AY;rw[h];show(if av.length=n then _ else none)=_;rw[Qg hn];simp only[hs];rw[hf];rfl
theorem Hk{f:Fn}{e1:a9}{w:W}{c c':bb}(h:as env=some (av,e1))(hn:av.length=n)(hs:slots av=[i])(hw:e1[i]? =some w)(hm:w.mutL=some c)(hf:f (av.map (N9 (.l c)))=some (r,ws'))(hp:AX ws'=some (.l c')):
  AY n f as env=some (r,e1.set i (w.put c')):=by
 unfold AY;rw[h];show(if av.length=n then _ else none)=_;rw[Qg hn];simp only[hs];rw[hw];simp only[Qk];rw[W.mutL_of hm];simp only[Qk];rw[hf];simp only[Qk];rw[hp,W.put_eq hm];rfl
theorem CQ{f:Fn}{e1:a9}(h:AY n f as env=some (.d d,e1)):i7 n f as env=some (d,e1):=by unfold i7;rw[h];rfl
theorem Hl{f:Fn}{e1:a9}{d:bb}(h:AY n f as env=some (.l d,e1)):O7 n f as env=some (d,e1):=by unfold O7;rw[h];rfl
def Be(m:Mo D):Mo Fl:=fun env=>(m env).map fun p=>(.nx,p.2)
theorem DY(h:ED X B e ma)(hsw:swapsWith e none pos.line X.env=pure false:=by rfl):ES X B (.Expr e pos) (Be ma):=by
 refine j8 (Em (te:=TD X.K B ma) h hsw) ?_;rintro D σ H ⟨G,env,fl,env',rl,e,k⟩;obtain⟨⟨d,a8⟩,e1,e2⟩:=D9 e;cases e2;exact .bind rl e1 fun v G' H' ev r=>k σ G' H' ev
theorem Hm{e1:a9}(h:m env=some (d,e1)):Be m env=some (.nx,e1):=by unfold Be;rw[h];rfl
theorem YL{N:Nat}{env:bf}(h:mb (ws++List.replicate (N-ws.length) .nil)=some (.nx,env)):nP N mb ws=some (.d .non,X1 ws env):=by unfold nP;rw[h]
def Bf(x:Int):aq->aq
 |[]=>[x]
 |y::l=>if x≤y then x::y::l else y::Bf x l
def K9:aq->aq
 |[]=>[]
 |x::l=>Bf x (K9 l)
theorem Hn(x:Int):∀l,(Bf x l).Perm (x::l)
 |[]=>.refl _
 |y::l=>by
  unfold Bf;split
  ·exact .refl _
  ·exact((Hn x l).cons y).trans (.swap x y l)
theorem Ac:∀l,(K9 l).Perm l
 |[]=>.refl _
 |x::l=>(Hn x (K9 l)).trans ((Ac l).cons x)
theorem MJ{x:Int}:∀{l:aq},l.Pairwise (· ≤ ·)->(Bf x l).Pairwise (· ≤ ·)
 |[],_=>by simp[Bf]
 |y::l,h=>by
  unfold Bf;obtain⟨h1,h2⟩:=Yc.mp h;split
  ·rename_i hx;refine Yc.mpr ⟨fun z hz=>?_,h⟩;rcases Qp.mp hz with rfl|hz
   ·exact hx
   ·exact Int.le_trans hx (h1 z hz)
  ·rename_i hx;refine Yc.mpr ⟨fun z hz=>?_,MJ h2⟩;rcases Qp.mp ((Hn x l).mem_iff.mp hz)with rfl|hz
   ·omega
   ·exact h1 z hz
theorem DZ:∀l,(K9 l).Pairwise (· ≤ ·)
 |[]=>.nil
 |x::l=>MJ (DZ l)
theorem MK:∀{l k:aq},l.Perm k->l.Pairwise (· ≤ ·)->k.Pairwise (· ≤ ·)->l=k
 |[],k,p,_,_=>p.nil_eq
 |x::l,k,p,h1,h2=>by
  cases k with
  |nil=>exact absurd p.symm.nil_eq (by simp)
  |cons y k=>
   obtain⟨a1,a2⟩:=Yc.mp h1;obtain⟨b1,b2⟩:=Yc.mp h2;have e:x=y:=by
    have m1:x∈y::k:=p.mem_iff.mp (by simp);have m2:y∈x::l:=p.mem_iff.mpr (by simp);rcases Qp.mp m1 with z|z
    ·exact z
    ·rcases Qp.mp m2 with w|w
     ·exact w.symm
     ·have:=a1 y w;have:=b1 x z;omega
   subst e;rw[MK (p.cons_inv) a2 b2]
def ML(X:Cx):ba->Hp->VK->Prop:=fun xs H Q=>∃p ns,xs=[.ref p]/\nT X.K H p (ns.map V.int)/\ns.length<64/\∀l,H l=none->Q (.ref l) (upd H l (.lst ((K9 ns).map V.int)))
theorem MM:∀{us:ao}{ns:aq},IntsAre us ns->C7 (ns.map V.int) us
 |_,_,.nil=>.nil
 |_,_,.cons n t r=>.cons ⟨t,rfl⟩ (MM r)
theorem Ho:J3 X (.builtin "sorted") (ML X):=by
 intro pins s σ H xs us Q I r h;obtain⟨p,ns,rfl,hq,h64,q⟩:=h;obtain⟨u,rfl,rx⟩:=Q5 r;cases rx;obtain⟨vs,rv,pl,hz⟩:=I.list hq;have hi:IntsAre vs ns:=Et rv;have hlen:vs.length=ns.length:=hi.length;refine sorted_ints pl.isList hi (by omega) fun out ns' a1 a2 a3=>?_;obtain⟨e,he⟩:=sortedAll_at s.heap vs out;have es:ns'=K9 ns:=MK (a2.trans (Ac ns).symm) a3 (DZ ns);subst es;have hl2:((K9 ns).map V.int).length≤sizeLine:=by
  rw[Qv,(Ac ns).length_eq];exact Zy (By (by omega))
 exact⟨.ref (s.heap.objs.size+1),_,I.laid (t':=s.toks) (a:=s.heap.objs.size+1) (o:=.lst ((K9 ns).map V.int)) (fun _ _ q=>sortedAll_old q) (Xu _) ⟨hl2,out.toList,e,MM a1,by simpa using he⟩,rfl,q _ (I.hok.fresh (Xu _))⟩
section
variable{b c:Expr}{mb mc:Mo D}
theorem Da{t:aj}{U:String}{b c:Bool}(h1:PySem.W.kitOne K t (.type T)=some b)(h2:PySem.W.kitOne K t (.type U)=some c):PySem.W.kitAny K t [.type T,.type U]=some (b||c):=by
 unfold PySem.W.kitAny;rw[h1];cases b with
 |true=>rfl
 |false=>
  dsimp only;unfold PySem.W.kitAny;rw[h2];cases c<;>rfl
theorem YM{tp:ah}{U:String}{x:V}{u:aj}(I:Inv X pins σ H s)(l:Le G H)(rx:D1 x u)(rp:b0 X.K G x d)
  (ht:IsTup s.heap tp [Value.type T,.type U].toArray)(kt:J2 X.K T)(ku:J2 X.K U)(h:∀tk,Q (.bool (R4 (qU d) T||R4 (qU d) U)) {s with toks:=tk}):wpAny (model X.prog X.w) A (call (.builtin "isinstance") [u,.ref tp]) Q E s:=by
 obtain⟨⟨oc,od,odt,os⟩,t1,t2,n,t3⟩:=ht;dsimp only at t2 t3;subst t2 t3;have e:(∀o,d≠.obj o)->_:=fun hd=>Da (Hb kt d hd) (Hb ku d hd);cases d with
 |non=>simp only[b0]at rp;subst rp;cases (show u=Value.none from rx);exact Yd PySem.W.kitx_none I.kIn True.intro t1 (e nofun) (fun z=>nomatch z) h
 |bl b=>simp only[b0]at rp;subst rp;cases (show u=Value.bool b from rx);exact Yd PySem.W.kitx_bool I.kIn True.intro t1 (e nofun) (fun z=>nomatch z) h
 |int i=>simp only[b0]at rp;subst rp;obtain⟨t,q⟩:=(show∃t,u=Value.int i t from rx);cases q;exact Yd PySem.W.kitx_int I.kIn True.intro t1 (e nofun) (fun z=>nomatch z) h
 |str z=>simp only[b0]at rp;obtain⟨rp,_⟩:=rp;subst rp;obtain⟨t,q⟩:=(show∃t,u=Value.str z t from rx);cases q;exact Yd PySem.W.kitx_str I.kIn True.intro t1 (e nofun) (fun z=>nomatch z) h
 |tup ds=>
  simp only[b0]at rp;obtain⟨a,xs,rfl,q,_⟩:=rp;cases rx;obtain⟨its,_,⟨o,h1,h2,_⟩,_⟩:=I.tuple (l.sqT q);exact Yd Rv I.kIn ⟨o,h1,h2⟩ t1 (e nofun) (fun z=>nomatch z) h
 |lst ds=>
  simp only[b0]at rp;obtain⟨a,xs,rfl,q,_⟩:=rp;cases rx;obtain⟨its,_,⟨o,n,h1,h2,_⟩,_⟩:=I.list (l.sqL q);exact Yd Tg I.kIn ⟨o,h1,h2⟩ t1 (e nofun) (fun z=>nomatch z) h
 |emp=>
  simp only[b0]at rp;obtain⟨a,kvs,rfl,q⟩:=rp;cases rx;obtain⟨_,_,vs,_,dd⟩:=(show F3 X.prog X.w H s.heap a (.dK _)from I.hok a _ (l _ _ q));obtain⟨o,h1,h2⟩:∃o,s.heap.get? a=some o/\o.cls=.type "dict":=by
   obtain⟨o,es,ep,g1,g2,_⟩:=dd;exact⟨o,g1,g2.1⟩
  exact Yd Jq I.kIn ⟨o,h1,h2⟩ t1 (e nofun) (fun z=>nomatch z) h
 |dct ks vs=>
  simp only[b0]at rp;obtain⟨a,kvs,rfl,q,_⟩:=rp;cases rx;obtain⟨_,_,_,_,o,_,_,h1,h2,_⟩:=(show F3 X.prog X.w H s.heap a (.dT _ _)from I.hok a _ (l _ _ q));exact Yd Jq I.kIn ⟨o,h1,h2.1⟩ t1 (e nofun) (fun z=>nomatch z) h
 |dcx ks vs=>
  simp only[b0]at rp;obtain⟨a,es,ep,xs,rfl,q,_⟩:=rp;cases rx;obtain⟨_,_,o,h1,h2,_⟩:=(show F3 X.prog X.w H s.heap a (.dX _ _)from I.hok a _ (l _ _ q));exact Yd Jq I.kIn ⟨o,h1,h2.1⟩ t1 (e nofun) (fun z=>nomatch z) h
 |obj o=>
  have h0:∀{T:String},J2 X.K T->R4 "object" T=false:=fun{T} kt=>by
   unfold J2 at kt;simp only[Qp,Zr,Uu]at kt;rcases kt with rfl|rfl|rfl|rfl|rfl<;>rfl
  have hf:∀{T:String},J2 X.K T->PySem.W.kitOne X.K (.type "function") (.type T)=some false:=fun{T} kt=>by
   unfold J2 at kt;simp only[Qp,Zr,Uu]at kt;rcases kt with rfl|rfl|rfl|rfl|rfl<;>rfl
  have h':∀tk,Q (.bool false) {s with toks:=tk}:=fun tk=>by have:=h tk;rwa [show R4 (qU (.obj o)) T=false from h0 kt,show R4 (qU (.obj o)) U=false from h0 ku]at this
  simp only[b0]at rp;cases o with
  |exc n=>
   obtain⟨a,C,HP,rfl,_,h3,h4,h5⟩:=rp;cases rx;exact Yd h4 I.kIn (I.hok a _ (l _ _ h3)).1 t1 (Da (h5 T kt) (h5 U ku)) (fun z=>nomatch z) h'
  |fn n=>
   obtain⟨f,rfl,_,h4⟩:=rp;cases rx;exact Yd h4 I.kIn True.intro t1 (Da (hf kt) (hf ku)) (fun z=>nomatch z) h'
  |dk kvs=>
   obtain⟨a,rfl,q⟩:=rp;cases rx;obtain⟨_,_,vs,_,dd⟩:=(show F3 X.prog X.w H s.heap a (.dK _)from I.hok a _ (l _ _ q));obtain⟨o,h1,h2⟩:∃o,s.heap.get? a=some o/\o.cls=.type "dict":=by
    obtain⟨o,es,ep,g1,g2,_⟩:=dd;exact⟨o,g1,g2.1⟩
   have hd:∀{T:String},J2 X.K T->PySem.W.kitOne X.K (.type "dict") (.type T)=some false:=fun{T} kt=>by
    unfold J2 at kt;simp only[Qp,Zr,Uu]at kt;rcases kt with rfl|rfl|rfl|rfl|rfl<;>rfl
   exact Yd Jq I.kIn ⟨o,h1,h2⟩ t1 (Da (hd kt) (hd ku)) (fun z=>nomatch z) h'
  |dt kvs=>
   obtain⟨a,ps,rfl,q,_⟩:=rp;cases rx;obtain⟨_,_,vs,_,dd⟩:=(show F3 X.prog X.w H s.heap a (.dK _)from I.hok a _ (l _ _ q));obtain⟨o,h1,h2⟩:∃o,s.heap.get? a=some o/\o.cls=.type "dict":=by
    obtain⟨o,es,ep,g1,g2,_⟩:=dd;exact⟨o,g1,g2.1⟩
   have hd:∀{T:String},J2 X.K T->PySem.W.kitOne X.K (.type "dict") (.type T)=some false:=fun{T} kt=>by
    unfold J2 at kt;simp only[Qp,Zr,Uu]at kt;rcases kt with rfl|rfl|rfl|rfl|rfl<;>rfl
   exact Yd Jq I.kIn ⟨o,h1,h2⟩ t1 (Da (hd kt) (hd ku)) (fun z=>nomatch z) h'
def MN(T U:String)(m:Mo D):Mo D:=fun env=>(m env).map fun p=>(.bl (R4 (qU p.1) T||R4 (qU p.1) U),p.2)
theorem MO{U:String}{y z:Str}{p3 p4:Pos}{x1:Nat}(kt:J2 X.K T)(ku:J2 X.K U)(ha:ED X B a ma)(hg:Gl X "isinstance")(hm:X.mg "isinstance"=none)(hgT:Gl X y)(hmT:X.mg y=none)(hvT:bootBuiltins y=some (.type T))(hgU:Gl X z)(hmU:X.mg z=none)(hvU:bootBuiltins z=some (.type U))
  (hnT:y≠"__name__":=by decide)(hdT:(y==("__debug__":Str))=false:=by decide)(hnU:z≠"__name__":=by decide)(hdU:(z==("__debug__":Str))=false:=by decide)
  (he:starEach [a,.Tuple [.Name y p2,.Name z p3] x1 p4] X.env=[(false,eval a X.env),(false,eval (.Tuple [.Name y p2,.Name z p3] x1 p4) X.env)]:=by rfl):ED X B (.Call (.Name "isinstance" p) [a,.Tuple [.Name y p2,.Name z p3] x1 p4] [] pos) (MN T U ma):=by
 have hT:PE X (.Name y p2) (tC (.ty T)):=El hgT hmT hvT rfl hnT hdT;have hU:PE X (.Name z p3) (tC (.ty U)):=El hgU hmU hvU rfl hnU hdU;have htup:PE X (.Tuple [.Name y p2,.Name z p3] x1 p4) (Kr (Gp (tC (.ty T)) (Gp (tC (.ty U)) Kq))):=Ks (M3 hT (M3 hU Q6));have hc:J3 X (.builtin "isinstance") (fun xs H Q=>∃x q G d,xs=[x,.ref q]/\H q=some (.tup [.ty T,.ty U])/\Le G H/\b0 X.K G x d/\Q (.bl (R4 (qU d) T||R4 (qU d) U)) H):=by
  intro pins s σ H xs us Q I r h;obtain⟨x,q,G,d,rfl,hq,l,rp,qq⟩:=h;obtain⟨u,w',rfl,r1,r2⟩:=AN r;cases r2;obtain⟨_,its,v,ht⟩:=(show F3 X.prog X.w H s.heap q (.tup [.ty T,.ty U])from I.hok q _ hq);obtain⟨v1,v2,rfl,e1,e2⟩:=AN v;cases e1;cases e2;exact YM I l r1 rp ht.tup kt ku fun tk=>⟨.bl _,H,I.tok _,rfl,qq⟩
 refine c9 (AO (pos:=pos) (p:=p) hc hg hm (by rfl') (M3 ha (M3 htup Q6) he) (he:=he)) ?_;rintro σ H Q ⟨G,env,d,env',rl,e,k⟩;obtain⟨⟨d1,a8⟩,e1,e2⟩:=D9 e;cases e2;refine .bind rl e1 fun v G1 H1 ev r=>⟨(by decide:2≤sizeLine),fun q hq=>?_⟩;have al:=ev.rel.allocM (o:=.tup [.ty T,.ty U]) hq;exact⟨v,q,G1,d1,rfl,D7,al.rel.sub,r,k _ G1 _ (ev.trans al) (by simp only[b0])⟩
end
def MP:bb->Option Bool
 |[]=>some false
 |.bl b::r=>(MP r).map fun k=>b||k
 |_::_=>none
def zX:bb->Option D
 |[.lst ds]=>(MP ds).map fun k=>.bl k
 |_=>none
def Dc:bb->Option D
 |[.lst ds]=>(i9 ds).map fun ns=>.int ns.sum
 |[.tup ds]=>(i9 ds).map fun ns=>.int ns.sum
 |_=>none
theorem Hq:∀{us:ao}{ns:aq},IntsAre us ns->∀(i:Nat) (v:aj),us[i]? =some v->∃t,v=.int (ns.getD i 0) t
 |_,_,.nil,i,v,h=>by simp at h
 |_,_,.cons n t r,i,v,h=>by
  cases i with
  |zero=>simp at h;exact⟨t,by simp[←h]⟩
  |succ i=>exact Hq r i v (by simpa using h)
def MQ(X:Cx):ba->Hp->VK->Prop:=fun xs H Q=>∃(p:ah) (ns:aq),xs=[.ref p]/\(nT X.K H p (ns.map V.int)\/n5 X.K H p (ns.map V.int))/\Q (.int ns.sum) H
theorem Hr(hc:X.calm=true):J3 X (.builtin "sum") (MQ X):=by
 intro pins s σ H xs us Q I r h;obtain⟨p,ns,rfl,hq,q⟩:=h;obtain⟨u,rfl,rx⟩:=Q5 r;cases rx;have hh:X.A.handled=none:=I.ok.hd hc;rcases hq with hq|hq
 ·obtain⟨its,r',pl,hz⟩:=I.list hq;have hi:IntsAre its ns:=Et r';have hl:=pl.isList;have hlt:p<s.heap.objs.size:=by obtain⟨_,e,_⟩:=hl;exact Qu e
  refine call_sum_walkG (Tf hl ?_);refine⟨s.heap.objs.size,[s.heap.objs.size,p],[s.heap.objs.size],its.toArray.size,_,_,fun i=>ns.getD i 0,rfl,Walks.list (A:=X.A.in1) hh _ p (Qd hlt) its.toArray,
   ⟨⟨_,Qw _ rfl,rfl,rfl⟩,hl.push _⟩,fun b hb=>?_,fun i v hP=>Hq hi i v (by simpa using hP),fun h' tk t' hk'=>?_⟩
  ·have hs:=Qu (Qw s.heap (o:={cls:=.type "list_iterator",data:=.fields #[.ref p,.int 0 0]}) rfl);rcases Qp.mp hb with rfl|hb
   ·exact hs
   ·rcases Qp.mp hb with rfl|hb
    ·exact Vk hlt hs
    ·cases hb
  ·rw[Qh,hi.length,Xi,Js (Qy _)];exact⟨.int ns.sum,H,I.kept (t':=tk) (LSm.kept_iter hk'),⟨t',rfl⟩,q⟩
 ·obtain⟨its,r',pl,hz⟩:=I.tuple hq;have hi:IntsAre its ns:=Et r';have hl:s.heap.IsTuple p its.toArray:=pl;have hlt:p<s.heap.objs.size:=by obtain⟨_,e,_⟩:=hl;exact Qu e
  refine call_sum_walkG (Xr hl ?_);refine⟨s.heap.objs.size,[s.heap.objs.size,p],[s.heap.objs.size],its.toArray.size,_,_,fun i=>ns.getD i 0,rfl,Walks.tuple (A:=X.A.in1) hh _ p (Qd hlt) its.toArray,
   ⟨⟨_,Qw _ rfl,rfl,rfl⟩,hl.push _⟩,fun b hb=>?_,fun i v hP=>Hq hi i v (by simpa using hP),fun h' tk t' hk'=>?_⟩
  ·have hs:=Qu (Qw s.heap (o:={cls:=.type "tuple_iterator",data:=.fields #[.ref p,.int 0 0]}) rfl);rcases Qp.mp hb with rfl|hb
   ·exact hs
   ·rcases Qp.mp hb with rfl|hb
    ·exact Vk hlt hs
    ·cases hb
  ·rw[Qh,hi.length,Xi,Js (Qy _)];exact⟨.int ns.sum,H,I.kept (t':=tk) (LSm.kept_iter hk'),⟨t',rfl⟩,q⟩
theorem YN:Z5 X B (MQ X) Dc:=by
 intro G σ env H xs ds c Q rl r e k;unfold Dc at e;split at e
 ·rename_i ds;obtain⟨x,rfl,q⟩:=U0 r;obtain⟨ns,e1,e2⟩:=D9 e;subst e2;simp only[b0]at q;obtain⟨a,ys,rfl,h1,h2⟩:=q;have:=AZ h2 e1;subst this;exact⟨a,ns,rfl,.inl (rl.sub.sqL h1),k _ G H (.refl rl) (by simp only[b0])⟩
 ·rename_i ds;obtain⟨x,rfl,q⟩:=U0 r;obtain⟨ns,e1,e2⟩:=D9 e;subst e2;simp only[b0]at q;obtain⟨a,ys,rfl,h1,h2⟩:=q;have:=AZ h2 e1;subst this;exact⟨a,ns,rfl,.inr (rl.sub.sqT h1),k _ G H (.refl rl) (by simp only[b0])⟩
 ·cases e
theorem MR:bootBuiltins "sum"=some (.builtin "sum"):=by rfl'
theorem YO{f:ah}:i4 P w K mg base mZ k f fd ps (nY K n fun _=>none):=
 ⟨fun _ _ _ _ h=>(by obtain⟨_,_,_,_,_,_,_,e,_⟩:=h;cases e),fun _ _ _ _ _ _ _ _ _ _ _ _ _ h=>(by obtain⟨_,_,_,_,_,_,_,e,_⟩:=h;cases e)⟩
section
variable{b c:Expr}
def YQ:ba->Hp->VK->Prop:=fun xs H Q=>∃i j:Int,(xs=[.int i,.int j]\/(i=0/\xs=[.int j]))/\∀r,H r=none->Q (.ref r) (upd H r (.rng i j))
theorem MS:J3 X (.type "range") YQ:=by
 intro pins s σ H xs us Q I r h;obtain⟨i,j,hx,q⟩:=h;rcases hx with rfl|⟨rfl,rfl⟩
 ·obtain⟨u,v,rfl,r1,r2⟩:=AN r;obtain⟨t,rfl⟩:=r1;obtain⟨t',rfl⟩:=r2;exact call_range_2 ⟨.ref s.heap.objs.size,upd H s.heap.objs.size (.rng i j),I.laid (t':=s.toks+1) (fun b u e=>Qx _ e) (Qy _) ⟨t,t',s.toks,Qw _ rfl⟩,rfl,q _ (I.hok.fresh (Qy _))⟩
 ·obtain⟨u,rfl,r1⟩:=Q5 r;obtain⟨t,rfl⟩:=r1;exact call_range_1 ⟨.ref s.heap.objs.size,upd H s.heap.objs.size (.rng 0 j),I.laid (t':=s.toks+1+1) (fun b u e=>Qx _ e) (Qy _) ⟨s.toks,t,s.toks+1,Qw _ rfl⟩,rfl,q _ (I.hok.fresh (Qy _))⟩
theorem Hs:∀(l:ao) (f:Nat->Int),(∀(j:Nat) (v:aj),l[j]? =some v->∃t,v=Value.int (f j) t)->C7 ((List.range l.length).map fun k=>V.int (f k)) l
 |[],_,_=>.nil
 |x::l,f,h=>by
  rw[Zd,List.range_succ_eq_map,Qm,Ys];exact .cons (h 0 x rfl) (Hs l (fun k=>f (k+1)) fun j v hv=>h (j+1) v (by simpa using hv))
def Z9(i:Int)(n:Nat):ba:=(List.range n).map fun(k:Nat)=>V.int (i+k)
def YR:ba->Hp->VK->Prop:=fun xs H Q=>∃(r:ah) (i j:Int),xs=[.ref r]/\H r=some (.rng i j)/\(-1000000<i/\i<1000000/\ -1000000<j/\j<1000000)/\∀l,H l=none->Q (.ref l) (upd H l (.lst (Z9 i (j-i).toNat)))
theorem YS(hc:X.calm=true):J3 X (.type "list") YR:=by
 intro pins s σ H xs us Q I r h;obtain⟨p,i,j,rfl,hp,⟨b1,b2,b3,b4⟩,q⟩:=h;obtain⟨u,rfl,rx⟩:=Q5 r;cases rx;have hh:X.A.handled=none:=I.ok.hd hc;obtain⟨t,u,v,hr⟩:=(show F3 X.prog X.w H s.heap p (.rng i j)from I.hok p _ hp);have hn:Builtin.Range.rangeSize i j 1=((j-i).toNat:Nat):=by rw[rangeSize_one];split<;>omega
 refine call_list_range hh (show IsRange s.heap p i j 1 t u v from hr) (small_one (by omega) (by omega) (by omega) (by omega)) hn (by omega) fun h' tk acc' c' hk hl hacc=>?_;have hs:acc'.toList.length=(j-i).toNat:=by rw[Yq];exact hacc.1
 have hv:=Hs acc'.toList (fun k=>i+k) (fun k v e=>by
  obtain⟨t,ht⟩:=hacc.2 k v (by simpa using e);exact⟨t,by rw[ht];congr 1;omega⟩)
 rw[hs]at hv;refine⟨.ref s.heap.objs.size,_,I.laid (t':=tk) (a:=s.heap.objs.size) (o:=.lst (Z9 i (j-i).toNat)) hk (Qy _) ⟨?_,acc'.toList,c',hv,by simpa using hl⟩,rfl,q _ (I.hok.fresh (Qy _))⟩;show(Z9 i (j-i).toNat).length≤sizeLine;unfold Z9;rw[Qv,Ve];have:(2000000:Nat)≤sizeLine:=by decide
 omega
theorem Ht{K:Qj}{G:Hp}(i:Int):∀l:List Nat,B4 K G (l.map fun(k:Nat)=>V.int (i+k)) (l.map fun(k:Nat)=>D.int (i+k))
 |[]=>by simp only[Ri,B4]
 |k::l=>by
  simp only[Qm,B4];exact⟨_,_,rfl,by simp only[b0],Ht i l⟩
theorem MT{p1 pos2:Pos}(hc:X.calm=true)(hgl:Gl X "list")(hml:X.mg "list"=none)(hg:Gl X "range")(hm:X.mg "range"=none)(ha:pN X B [a,b] ms)
  (hs:starEach [a,b] X.env=[(false,eval a X.env),(false,eval b X.env)]:=by rfl)(hs2:starEach [b] X.env=[(false,eval b X.env)]:=by rfl):EL X B (.Call (.Name "list" p1) [.Call (.Name "range" p2) [a,b] [] pos2] [] pos) (Q1 ms):=by
 have h0:=BR (p:=p2) (pos:=pos2) MS hg hm boot_range ha (by decide) (by decide) (by rw[hs,hs2]) (by rw[hs2];rfl);refine c9 (BR (p:=p1) (pos:=pos) (YS hc) hgl hml MD (M3 h0 Q6)) ?_;rintro σ H Q ⟨G,env,ds,env',rl,e,k⟩;obtain⟨⟨ds',a8⟩,e1,e2⟩:=B9 e;dsimp only at e2;split at e2
 ·rename_i i j;split at e2
  ·rename_i hj;cases e2;refine⟨G,env,_,_,rl,e1,fun vs G1 H1 ev r=>?_⟩;obtain⟨v,w,rfl,r1,r2⟩:=CC r;simp only[b0]at r1 r2;subst r1 r2;refine⟨i,j,.inl rfl,fun q hq=>⟨q,i,j,rfl,D7,hj,fun l hl=>?_⟩⟩;exact DM (ev.trans (ev.rel.allocM hq)) hl (Ht i _) k
  ·cases e2
 ·cases e2
end
section
variable{c:Expr}{t:Mo Bool}
end
theorem B4.erase{K:Qj}{G:Hp}:∀{ds:bb}{xs:ba}(n:Nat),B4 K G xs ds->B4 K G (xs.eraseIdx n) (ds.eraseIdx n)
 |[],_,n,r=>by simp only[B4]at r;subst r;simp only[List.eraseIdx_nil,B4]
 |d::ds,_,n,r=>by
  simp only[B4]at r;obtain⟨x,t,rfl,q,r⟩:=r;cases n with
  |zero=>simpa using r
  |succ n=>
   simp only[Uy,B4];exact⟨_,_,rfl,q,B4.erase n r⟩
section
variable{ml:Mo bb}
def De(i:Nat)(m:Mo D):Mo D:=fun env=>((env[i]?).bind W.mutL).bind fun _=>(m env).bind fun p=>(p.2[i]?).bind fun w=>w.mutL.bind fun ds=>match p.1 with
 |.int k=>if-1000000<k/\k<1000000 then(sM ds.length k).bind fun j=>(ds[j]?).map fun d=>(d,p.2.set i (w.put (ds.eraseIdx j)))else none
 |_=>none
theorem MU(ho:PE X (.Name x p) (T0 i))(ha:pN X B [e] (B0 ma B6))
  (hbase:attributeBase (.Name x p) "pop" X.env (eval (.Name x p) X.env)=eval (.Name x p) X.env:=by rfl)
  (hfew:((backTo cpos (starEach [e] X.env)).all (fun x=>!x.1)&&(backToKw cpos (keywordEach [] X.env)).all (fun x=>x.1.isSome)
   &&decide ([e].length+([]:List Keyword).length+(if([]:List Keyword).isEmpty then 0 else 1)<30))=true:=by rfl)
  (hline:(apos.endLine==cpos.line)=true:=by rfl)(hs:starEach [e] X.env=(false,eval e X.env)::starEach [] X.env:=by rfl)(hplain:(backTo cpos (starEach [] X.env)).any (·.1)=false:=by rfl):
  ED X B (.Call (.Attribute (.Name x p) "pop" apos) [e] [] cpos) (De i ma):=by
 refine c9 (DF Vf PySem.F.slot_list_pop PySem.F.type_list_pop VX ho ha hbase hfew hline hs hplain) ?_;rintro σ H Q ⟨G,env,d,env',rl,e,k⟩;obtain⟨ds0,e0,e⟩:=B9 e;obtain⟨w0,e00,em0⟩:=B9 e0;obtain⟨⟨d1,a8⟩,e1,e2⟩:=B9 e;obtain⟨w,e3,e4⟩:=B9 e2;obtain⟨ds,e5,e6⟩:=B9 e4;dsimp only at e3 e6;split at e6
 ·rename_i n;split at e6
  ·rename_i hn;obtain⟨j,e7,e8⟩:=B9 e6;obtain⟨d2,e9,e10⟩:=D9 e8;cases e10;obtain⟨q,xs0,h1,h2,h3,h4⟩:=rl.ownL i w0 ds0 e00 em0;refine⟨_,h1,.inl ⟨rfl,xs0,.inl (.inl h2)⟩,G,env,[.int n],a8,rl,by show(ma env).bind _=_;rw[e1];rfl,fun vs G1 H1 ev r1=>?_⟩;obtain⟨v,rfl,rv⟩:=U0 r1;simp only[b0]at rv;subst rv;obtain⟨q',xs,g1,g2,g3,g4⟩:=ev.rel.ownL i w ds e3 e5;rw[h1]at g1;cases g1;obtain⟨y,hy,ry⟩:=g3.get e9;have hl:ds.length=xs.length:=g3.length.symm;rw[hl]at e7;exact⟨q,xs,n,j,y,rfl,rfl,g2,by omega,by omega,(Gr e7).1,hy,k _ G1 _ (ev.write e3 e5 h1 (g3.erase j)) ry⟩
  ·cases e6
 ·cases e6
def Dg(i:Nat)(m:Mo bb):Mo Fl:=fun env=>((env[i]?).bind W.mutL).bind fun _=>(m env).bind fun p=>(p.2[i]?).bind fun w=>w.mutL.bind fun ds=>if ds.length+p.1.length≤100000 then some (.nx,p.2.set i (w.put (ds++p.1)))else none
theorem MV(ho:PE X (.Name x p) (T0 i))(ha:EL X B e ml)
  (hbase:attributeBase (.Name x p) "extend" X.env (eval (.Name x p) X.env)=eval (.Name x p) X.env:=by rfl)
  (hfew:((backTo cpos (starEach [e] X.env)).all (fun x=>!x.1)&&(backToKw cpos (keywordEach [] X.env)).all (fun x=>x.1.isSome)
   &&decide ([e].length+([]:List Keyword).length+(if([]:List Keyword).isEmpty then 0 else 1)<30))=true:=by rfl)
  (hline:(apos.endLine==cpos.line)=true:=by rfl)(hs:starEach [e] X.env=(false,eval e X.env)::starEach [] X.env:=by rfl)(hplain:(backTo cpos (starEach [] X.env)).any (·.1)=false:=by rfl)
  (hsw:swapsWith (.Call (.Attribute (.Name x p) "extend" apos) [e] [] cpos) none pos.line X.env=pure false:=by rfl):
  ES X B (.Expr (.Call (.Attribute (.Name x p) "extend" apos) [e] [] cpos) pos) (Dg i ml):=by
 refine j8 (Em (DF Vf PySem.F.slot_list_extend PySem.F.type_list_extend VV ho (M3 ha Q6 hs) hbase hfew hline hs hplain) hsw) ?_;rintro D σ H ⟨G,env,fl,env',rl,e,k⟩;obtain⟨ds0,e0,e⟩:=B9 e;obtain⟨w0,e00,em0⟩:=B9 e0;obtain⟨⟨es,a8⟩,e1,e2⟩:=B9 e;obtain⟨w,e3,e4⟩:=B9 e2;obtain⟨ds,e5,e6⟩:=B9 e4;dsimp only at e3 e6;split at e6
 ·rename_i hl;cases e6;obtain⟨q,xs0,h1,h2,h3,h4⟩:=rl.ownL i w0 ds0 e00 em0;refine⟨_,h1,.inl ⟨rfl,xs0,.inl (.inl h2)⟩,G,env,es,a8,rl,e1,fun a zs G1 H1 ev ha0 hno hla hga rz=>?_⟩;obtain⟨q',xs,g1,g2,g3,g4⟩:=ev.rel.ownL i w ds e3 e5;rw[h1]at g1;cases g1;have hz:xs.length+zs.length≤sizeLine:=by
   rw[g3.length,rz.length];exact Qn hl (by decide)
  exact⟨q,a,xs,zs,rfl,rfl,g2,hla,hz,k _ G1 _ (ev.write e3 e5 h1 (g3.append rz))⟩
 ·cases e6
end
theorem MW(x:nX P w H h)(k:∀b u o,H b=some u->h.get? b=some o->h'.get? b=some o):nX P w H h':=fun a o e=>
 (x a o e).stay (fun b u hb q=>by
  rcases hb with rfl|hb
  ·exact k _ _ _ e q
  ·exact k _ _ _ hb q) (fun _ q=>q) fun _ _ q=>q
def pD(P:af)(w:ag):tM:=fun outer H s E ev s'=>
 ∃(e t C:ah) (H':Hp) (Bh:Heap),ev=.ref e/\s'.os=s.os/\AllBare s'.gens/\Heap.FlyingW Bh outer e (.ref C) (.ref t) s'.heap/\
  Un (nI outer) [] H H' s.heap s'.heap/\nX P w H' Bh/\(∀b o,s.heap.get? b=some o->H b=none->b∉nI outer->Bh.get? b=some o)/\
  (∀b o,s.heap.get? b=some o->b∉nI outer->∃o',Bh.get? b=some o')/\E (.ref C) none H'
section
variable{H':Hp}{s':ak}{E:XK}{e t:ah}{Bh:Heap}
theorem FZ(hst:X.stack=X.env::X.outer)(hfr:X.env.frame=some X.env.locals)(hex:X.ex=[])(I:Inv X pins σ H s)(os:s'.os=s.os)(bare:AllBare s'.gens)(fly:Heap.FlyingW Bh X.outer e (.ref C) (.ref t) s'.heap)
  (kept:∀b o,s.heap.get? b=some o->H b=none->b∉nI X.stack->Bh.get? b=some o)
  (thr:∀b o,s.heap.get? b=some o->b∉nI X.stack->∃o',Bh.get? b=some o')
  (slots:∀b o,s.heap.get? b=some o->H b=none->b∈X.fs->∃sl,s'.heap.get? b=some {o with slots:=sl})
  (free:∀b o,s.heap.get? b=some o->H b=none->H' b=none)(tups:∀b xs,H b=some (.tup xs)->H' b=some (.tup xs))(frzs:∀b o u,H b=some (.frz o u)->H' b=some (.frz o u))
  (tbls:∀b ps,H b=some (.tbl ps)->∃more,H' b=some (.tbl (ps++more)))(hok:nX X.prog X.w H' Bh)(hE:E (.ref C) none H'):
  pD X.prog X.w X.outer X.H₀ X.s₀ E (.ref e) s':=by
 have nb:∀b o,X.s₀.heap.get? b=some o->b∉X.fs->b∉nI X.stack:=fun b o q n z=>by
  rw[hst]at z;unfold nI at z;rw[Jd,hfr]at z;rcases Qp.mp z with z|z
  ·exact absurd (Qu q) (Pm.mpr (by rw[z];exact I.ok.above))
  ·exact n z
 have nx:∀b,b∉X.ex:=fun b z=>by rw[hex]at z;cases z
 refine⟨e,t,C,H',Bh,rfl,os.trans I.os,bare,fly,⟨fun b o q n hb _=>?_,fun b o q n hb _=>?_,fun b o q n _=>?_,fun b o q _=>?_,fun b xs q=>tups b xs (I.base.tups b xs q),fun b o u q=>frzs b o u (I.base.frzs b o u q),fun b ps q=>?_⟩,hok,fun b o q n hb=>?_,fun b o q hb=>?_,hE⟩
 ·exact fly.1 b o (kept b o (I.base.keep b o q n hb (nx b)) (I.base.free b o q n (nx b)) (nb b o q hb))
 ·obtain⟨sl,q1⟩:=I.base.slot b o q n hb (nx b);obtain⟨sl',q2⟩:=slots b _ q1 (I.base.free b o q n (nx b)) hb;exact⟨sl',q2⟩
 ·obtain⟨o',q1⟩:=I.base.there b o q (nx b);exact free b o' q1 (I.base.free b o q n (nx b))
 ·obtain⟨o',q1⟩:=I.base.there b o q (nx b)
  by_cases hb:b∈X.fs
  ·obtain⟨sl,q2⟩:=slots b _ q1 (I.base.free b o q (I.ok.frf b hb) (nx b)) hb;exact⟨_,q2⟩
  ·obtain⟨o2,q2⟩:=thr b o' q1 (nb b o q hb);exact⟨o2,fly.1 b o2 q2⟩
 ·obtain⟨m1,e1⟩:=I.base.tbls b ps q;obtain⟨m2,e2⟩:=tbls b _ e1;exact⟨m1++m2,by rw[e2,Array.append_assoc]⟩
 ·exact kept b o (I.base.keep b o q n hb (nx b)) (I.base.free b o q n (nx b)) (nb b o q hb)
 ·obtain⟨o',q1⟩:=I.base.there b o q (nx b);exact thr b o' q1 (nb b o q hb)
structure u9(X:Cx)(E:XK):Prop where
 pass:Er (pD X.prog X.w) X E
 made:∀(pins:OA) (σ:St) (H:Hp) (s:ak) (h':Heap) (e C:ah) (vs:ao),Inv X pins σ H s->Heap.MadeExcOf s.heap h' e (.ref C) vs->E (.ref C) none H->X.xe (.ref e) {s with heap:=h'}
end
theorem YT{f:ah}{cd:aj}{outer:List Env}{s₀:ak}{H₀:Hp}{E:XK}:
  u9 (M4 (pD P w) P w K mg base N qual scope f cd A outer s₀ H₀ E) E:=by
 refine⟨fun pins σ H s ev s' I h=>?_,fun pins σ H s h' e C vs I hm hE=>?_⟩
 ·obtain⟨e,t,C,H',Bh,rfl,os,bare,fly,un,hok,kept,thr,hE⟩:=h;refine wpAny_leaves_onW (L:=s₀.heap.objs.size) I.ok.frames rfl fly fun h2 fly2 ups=>?_;refine FZ (X:=M4 (pD P w) P w K mg base N qual scope f cd A outer s₀ H₀ E) rfl rfl rfl I os bare fly2 kept thr (fun b o q n hb=>?_) (fun b o q n=>un.free b o q n (by simp)) un.tups un.frzs un.tbls hok hE;obtain⟨sl,q1⟩:=un.any q n (by simp);obtain⟨_,o1,g1,g2⟩:=I.funs.mem hb;rw[q]at g1;cases g1;obtain⟨sl2,q2⟩:=ups b _ q1 g2;exact⟨sl2,q2⟩
 ·have hst:=I.stack;have hmem:∀{b:ah},b∈nI (M4 (pD P w) P w K mg base N qual scope f cd A outer s₀ H₀ E).stack->H b=none:=fun{b} hb=>I.stkFree b hb;refine wpAny_leaves_madeW (L:=s₀.heap.objs.size) (base:=PySem.W.hideAll s.heap (nI (M4 (pD P w) P w K mg base N qual scope f cd A outer s₀ H₀ E).stack)) (h:=s.heap) I.ok.frames rfl (fun b o q=>PySem.W.of_hideAll _ q)
   (PySem.W.funFrames_hide hst fun env he b hb=>Um.mpr ⟨env,he,hb⟩) hm fun h2 t fly _ hn ups=>?_
  refine FZ (X:=M4 (pD P w) P w K mg base N qual scope f cd A outer s₀ H₀ E) (s:=s) (s':={s with heap:=h2}) rfl rfl rfl I rfl I.bare fly (fun b o q _ hb=>Ug _ q hb) (fun b o q hb=>⟨o,Ug _ q hb⟩) (fun b o q n hb=>?_) (fun b o q n=>n) (fun _ _ q=>q) (fun _ _ _ q=>q) (fun b ps q=>⟨#[],by rw[q];simp⟩) ?_ hE
  ·obtain⟨_,o1,g1,g2⟩:=I.funs.mem hb;rw[q]at g1;cases g1;obtain⟨sl2,q2⟩:=ups b _ (hm.keeps b o q) g2;exact⟨sl2,q2⟩
  ·exact MW (P:=P) (w:=w) I.hok fun b u o q1 q2=>Ug _ q2 fun z=>by rw[hmem z]at q1;cases q1
theorem PS.nox{st:Stmt}{t:TS}(h:PS X.nox st t):PS X st t:=fun pins s σ H D I hw=>
 Zj (h pins s σ H D (I.wish _) hw) (fun _ _ q=>q.unwish) fun _ _ z=>False.elim z
theorem PA.nox{t:TA}(h:PA X.nox es t):PA X es t:=fun pos pins s σ H Q I hw=>
 Zj (h pos pins s σ H Q (I.wish _) hw) (fun _ _ ⟨v,H',I',r,q⟩=>⟨v,H',I'.unwish,r,q⟩) fun _ _ z=>False.elim z
def vA:ao:=[.type "ValueError",.type "Exception",.type "BaseException",.type "object"]
def BC(K:Qj)(n:Str):Bool:=match PySem.W.nsIn K mainGlobals n with
 |some (some (.ref C))=>PySem.W.excIn K C vA "ValueError.__new__"
 |_=>false
theorem MX{n:Str}(h:BC K n=true):∃C,PySem.W.nsIn K mainGlobals n=some (some (.ref C))/\PySem.W.excIn K C vA "ValueError.__new__"=true:=by
 unfold BC at h;split at h
 ·rename_i C hC;exact⟨C,hC,h⟩
 ·cases h
theorem YU{h₀:Heap}{bmB:ao}{newId:String}(X:K.In h₀)(G:h₀.Ns mainGlobals mg)(e:PySem.W.nsIn K mainGlobals x=some (some (.ref C)))(q:PySem.W.excIn K C bmB newId=true):OwnCls x C bmB newId mg h₀:=by
 refine⟨Xy X G e,?_⟩;unfold PySem.W.excIn at q;split at q
 ·rename_i dd cd sl ho;split at q
  ·rename_i C' bm k0 k1 k2 k3 n k5 hm hs;simp only[Qr,Vn,Rf]at q;obtain⟨⟨⟨⟨⟨rfl,rfl⟩,hdel⟩,ht⟩,hok⟩,hni⟩:=q;obtain⟨nm,bs,mro,ns,qn,hd,sn,sub,ab,col,del⟩:=cd;dsimp only at hm hdel hok hni;subst hm hdel;have pX:sl= #[k0,k1,k2,k3,some (.builtin n),k5]:=by
    obtain⟨l⟩:=sl;simp only at hs;rw[hs]
   subst pX;exact⟨bm,ns,nm,qn,bs,hd,sn,sub,ab,col,dd,k0,k1,k2,k3,k5,_,X _ _ ho,.of_isNs (PySem.W.isNs_of_in X hok),PySem.W.nsMap_none_of_in X hok hni,PySem.W.tail_of_in X ht⟩
  ·cases q
 ·cases q
abbrev Mx:=a9->Option Str
section
variable(K:Qj)(B:OE)(E:XK)
def XW(G:Hp)(σ:St)(env:a9)(H:Hp)(n:Str):Prop:=∃C,PySem.W.nsIn K mainGlobals n=some (some (.ref C))/\∀σ' G' env' H',Ev K B G σ env H G' σ' env' H'->E (.ref C) none H'
def TX(m:Mx)(σ:St)(H:Hp):Prop:=∃G env n,Rel K B G σ env H/\m env=some n/\XW K B E G σ env H n
end
theorem XW.after{E:XK}{G1:Hp}{σ1:St}{a8:a9}{H1:Hp}{n:Str}(w:XW K B E G σ env H n)(ev:Ev K B G σ env H G1 σ1 a8 H1):XW K B E G1 σ1 a8 H1 n:=by
 obtain⟨C,h,k⟩:=w;exact⟨C,h,fun σ' G' env' H' f9=>k σ' G' env' H' (ev.trans f9)⟩
def vB(X:Cx)(B:OE)(E:XK)(e:Expr)(m:Mx):Prop:=PE X e fun σ H _=>TX X.K B E m σ H
def zY(X:Cx)(B:OE)(E:XK)(e:Expr)(m:Mx):Prop:=PT X e fun σ H _=>TX X.K B E m σ H
def zZ(X:Cx)(B:OE)(E:XK)(es:au)(m:Mx):Prop:=PA X es fun σ H _=>TX X.K B E m σ H
def uI(X:Cx)(B:OE)(E:XK)(st:Stmt)(m:Mx):Prop:=PS X st fun _ σ H=>TX X.K B E m σ H
def BD(X:Cx)(B:OE)(E:XK)(st:List Stmt)(m:Mx):Prop:=o8 X st fun _ σ H=>TX X.K B E m σ H
def sF:Mx:=fun _=>none
def xOr(x y:Mx):Mx:=fun env=>match x env with
 |some n=>some n
 |none=>y env
def V1(x:Mx)(s:Mo Fl)(y:Mx):Mx:=fun env=>match x env with
 |some n=>some n
 |none=>match s env with
  |some (.nx,a8)=>y a8
  |_=>none
def tP(t:Mo Bool)(x y:Mx):Mx:=fun env=>(t env).bind fun p=>if p.1 then x p.2 else y p.2
section
variable{E:XK}{st:Stmt}{rest:List Stmt}{x1 x2:Mx}{s1:Mo Fl}
theorem Bg:uI X B E st sF:=fun _ _ _ _ _ _ ⟨_,_,_,_,e,_⟩=>nomatch e
theorem Fa:BD X B E [] sF:=fun _ _ _ _ _ _ ⟨_,_,_,_,e,_⟩=>nomatch e
theorem Ad(h1:uI X B E st x1)(n1:ES X B st s1)(h2:BD X B E rest x2):BD X B E (st::rest) (V1 x1 s1 x2):=by
 intro pins s σ H D I ⟨G,env,n,rl,e,w⟩;unfold V1 at e;cases q:x1 env with
 |some m=>
  rw[q]at e;cases e;exact Bv h1 Kf pins s σ H D I ⟨G,env,_,rl,q,w⟩
 |none=>
  rw[q]at e;dsimp only at e;split at e
  ·rename_i a8 q1;exact Bv n1 h2 pins s σ H D I ⟨G,env,.nx,a8,rl,q1,fun σ1 G1 H1 ev=>⟨G1,a8,n,ev.rel,e,w.after ev⟩⟩
  ·cases e
theorem Bi(h1:uI X B E st x1):BD X B E [st] x1:=by
 intro pins s σ H D I h;exact Bv h1 Kf pins s σ H D I h
theorem Fb{c:Expr}{s t:List Stmt}{tc:Mo Bool}(hc:ET X B c tc)(h1:BD X B E s x1)(h2:BD X B E t x2):uI X B E (.If c s t pos) (tP tc x1 x2):=by
 intro pins sh σ H D I ⟨G,env,n,rl,e,w⟩;obtain⟨⟨b1,a8⟩,e1,e2⟩:=B9 e;dsimp only at e2;refine Kd hc h1 h2 pins sh σ H D I ⟨G,env,b1,a8,rl,e1,fun G1 H1 ev=>?_⟩;cases b1 with
 |true=>simp only[Yw]at e2 ⊢;exact⟨G1,a8,n,ev.rel,e2,w.after ev⟩
 |false=>simp only[Zq,Zo]at e2 ⊢;exact⟨G1,a8,n,ev.rel,e2,w.after ev⟩
theorem Hu(h:vB X B E e x1)(hsw:swapsWith e none pos.line X.env=pure false:=by rfl):uI X B E (.Expr e pos) x1:=fun pins s σ H D I q=>Em h hsw pins s σ H D I q
def Fc(n:Str)(ms:Mo bb):Mx:=fun env=>(ms env).bind fun p=>if p.1.length≤1000 then some n else none
theorem Fd{n:Str}{np:Pos}(hx:u9 X E)(hc:X.calm=true)(ho:BC X.K n=true)(hg:Gl X n)(ha:pN X B (e::es) ms)
  (he:starEach (e::es) X.env=(false,eval e X.env)::starEach es X.env:=by rfl)(hpl:(backTo cpos (starEach es X.env)).any (·.1)=false:=by rfl)(hd:(n==("__debug__":Str))=false:=by decide):
  uI X B E (.Raise (some (.Call (.Name n np) (e::es) [] cpos)) none pos) (Fc n ms):=by
 intro pins s σ H D I ⟨G,env,c,rl,em,w⟩;obtain⟨⟨ds,a8⟩,e1,e2⟩:=B9 em;dsimp only at e2;split at e2
 ·rename_i hl;cases e2;obtain⟨C,hC,hw⟩:=w;obtain⟨C',hC',hex⟩:=MX ho;rw[hC]at hC';cases hC';have O:=YU I.mod.kin I.mod.glob hC hex;obtain⟨tl,N,nm,q,bs,hdct,sn,sub,ab,col,dd,k0,k1,k2,k3,k5,mN,hCo,hN,hni,T⟩:=O.obj;refine wpAny_Raise_call_subU (C:=C) (nm:=nm) (q:=q) (N:=N) (bs:=bs) (bm:=tl) (hdct:=hdct) (sn:=sn) (sub:=sub) (ab:=ab) (col:=col) (dd:=dd) (k0:=k0) (k1:=k1) (k2:=k2) (k3:=k3) (k5:=k5)
   PySem.F.excBase_ValueError (by rfl') PySem.F.excBase_ValueError (mN:=mN) (T.hasType PySem.F.excBase_ValueError.hasBase) (I.ok.hd hc) (by rw[he];show(false||(backTo cpos (starEach es X.env)).any (·.1))=false;rw[hpl];rfl) hni (DB I hg O.bound ⟨rfl,?_⟩ hd)
  have h1:=ha cpos pins s σ H (fun vs H1=>vs.length≤sizeLine/\E (.ref C) none H1) I ⟨G,env,ds,a8,rl,e1,fun vs G1 H1 ev r=>⟨by rw[r.length];exact Zy (By hl),hw σ G1 a8 H1 ev⟩⟩;rw[he]at h1 ⊢;refine Calls.evalArgs_plain (Zj h1 (fun us s2 ⟨vs,H2,I2,r2,q1,q2⟩=>⟨rfl,by rw[←r2.length];exact q1,I2.bk _ _ hCo,hN.keeps I2.bk,T.keeps I2.bk,fun h' e hm=>?_⟩) fun _ _ y=>y);exact hx.made pins σ H2 s2 h' e C us I2 hm q2
 ·cases e2
def uJ(K:Qj)(n:Nat)(g:bf->Option Str):Sp:=fun vs H _ E=>∃G ws c C,ws.length=n/\DR ws/\Rel K M7 G (vs.map some) ws H/\g ws=some c/\PySem.W.nsIn K mainGlobals c=some (some (.ref C))/\
 ∀G' ws' H',Ev K M7 G (vs.map some) ws H G' (vs.map some) ws' H'->E (.ref C) none H'
structure qL(P:af)(w:ag)(K:Qj)(mg:OI)(base:Heap)(x:Str)(k n:Nat)(g:bf->Option Str):Prop where
 ex:∃(f:ah) (fd:FuncData) (ps:ar),i4 P w K mg base (pD P w) k f fd ps (uJ K n g)/\ps.length=n/\mg x=some (.ref f)/\PySem.W.keepIn K (.ref f)=true/\Q7 K fd ps []
def V2(n:Nat)(g:bf->Option Str)(as:Mo (List Ar)):Mx:=fun env=>(as env).bind fun p=>if p.1.length=n then(match slots p.1 with
 |[]=>g (p.1.map (N9 (.l [])))
 |_=>none)else none
theorem CS{g:bf->Option Str}(hx:u9 X E)(Df:qL X.prog X.w X.K X.mg X.base x k n g)(hr:g9 k X.A)(hg:Gl X x)(ha:sO X B (e::es) as)(hdb:(x==("__debug__":Str))=false:=by decide)
  (he:starEach (e::es) X.env=(false,eval e X.env)::starEach es X.env:=by rfl)(hpl:(backTo pos (starEach es X.env)).any (·.1)=false:=by rfl):
  vB X B E (.Call (.Name x p) (e::es) [] pos) (V2 n g as):=by
 obtain⟨f,fd,ps,F,rfl,hm,hk,hb⟩:=Df.ex;intro pins s σ H Q I ⟨G,env,c,rl,em,C,hC,w⟩;refine Es F hr hg hm hk hb .nil hx.pass ha hdb he hpl pins s σ H Q I ?_;obtain⟨⟨av,a8⟩,e1,e2⟩:=B9 em;dsimp only at e2;split at e2
 ·rename_i hn;split at e2
  ·rename_i hs;refine⟨G,env,av,a8,rl,e1,fun vs G1 H1 ev ra=>?_⟩;show uJ X.K ps.length g (vs++[]) H1 Q E;rw[Jo];exact⟨G1,av.map (N9 (.l [])),c,C,by rw[Qv];exact hn,HS,HU (i:=0) (w:=.nil) ev.rel ra (fun k j e=>absurd e (As hs k j)) (fun k k' j j' e=>absurd e (As hs k j)),e2,hC,
    fun G2 ws' H2 f9=>w σ G2 a8 H2 (ev.trans (HV ev.rel ra hs f9))⟩
  ·cases e2
 ·cases e2
end
def v7(N:Nat)(mx:Mx):bf->Option Str:=fun ws=>mx (ws++List.replicate (N-ws.length) .nil)
theorem Hv{st:Stmt}{f:ah}{mx:Mx}(F:nJ K x qual st f fd)(S:c8 N ps (E5 st))
  (hb:∀(cdv:aj) (A:Around) (outer:List Env) (s:ak) (H:Hp) (E:XK),g9 k (A.deeper (envOfC qual (E5 st) s.heap.objs.size f cdv))->
   BD (M4 (pD P w) P w K mg base N qual (E5 st) f cdv A outer s H E) (fun b=>H b≠none) E (W9 st) mx):i4 P w K mg base (pD P w) (k+1) f fd ps (uJ K ps.length (v7 N.length mx)):=by
 have hpl:ps.length≤N.length:=by have:=Yz List.length S.pre;rw[Yr]at this;omega
 obtain⟨oc,od,kV,doc,pm,an,cdv,ct,osl,rfl,lk,hcd⟩:=F.ex;refine Gq lk hcd S (fun vs H Q E h=>?_) fun A outer s H vs Q E hr h=>?_
 ·obtain⟨G,ws,c,C,hl,ok,rl,_⟩:=h;have:=rl.len;rw[Qv]at this;omega
 ·obtain⟨G,ws,c,C,hl,ok,rl,e,hC,k⟩:=h;have hv:ws.length=vs.length:=by have:=rl.len;rwa [Qv]at this
  exact⟨_,hb cdv A outer s H E hr,G,_,c,HN (N:=N) rl ok (by omega),e,C,hC,fun σ' G' env' H' ev=>k G' (X1 ws env') H' (BY rl ok (by omega) ev)⟩
open PySem.W Builtin Builtin.ObjectAttr Builtin.Getset_descriptor PySem.Calls
def R6(e C:ah)(h:Heap):Prop:=∃o,h.get? e=some o/\o.cls=.ref C
theorem R6.type{e:ah}(p:R6 e C h):Looks M h (typeOf (.ref e)) (.ref C):=by
 obtain⟨o,h1,h2⟩:=p;exact h2 ▸ (Looks.ld h1).andThen .now
section
variable{K:Frag}{x:ah}{g:Array GenState}{d:Drawn}{t:Nat}{os:OsState}
theorem YV{R:Result->ak->Prop}{tp:aj}(X:K.In h)(I:R6 x C h)(hm:mroIn K C (.type "object")=some true)
  (hq:R (.ok (.ret (.ref C))) ⟨h,g,d,t,os⟩):codeAny (model prog w) A (.call (.builtin "getset_descriptor.__get__") ⟨[.builtin "object.__class__",.ref x,tp],[]⟩) R ⟨h,g,d,t,os⟩:=by
 have L0:=I.type (M:=model prog w);have L1:=looks_mroIn (M:=model prog w) X hm;refine Pn KF.slot_gs.plain KF.entry_gs (KF.slot_gs.check _ _ _ _ _ _ _ _ KF.type_class (KF.args_gs _ _ _) ?_);unfold Builtin.«getset_descriptor.__get__» descrGet;rw[dga_obj];refine Qq (Qz ?_);unfold descrGetter descrCheckInstance descrNameAndClass isInstance;simp only[KF.owner_class]
 repeat (first|with_reducible refine L0.at ?_|with_reducible refine L1.at ?_|wp_step)
 refine⟨Code.quiet_builtin _ (by rfl'),Uz KF.entry_class ?_⟩;unfold Builtin.«object.__class__» shownTypeOf
 repeat (first|with_reducible refine L0.at ?_|with_reducible refine L1.at ?_|wp_step)
 exact hq
theorem YW(X:K.In h)(I:R6 x C h)(ha:findIn K (.ref C) "__class__"=some (some (.builtin "object.__class__")))
  (hn:specialIn K (.builtin "object.__class__") "__get__"=some (some (.builtin "getset_descriptor.__get__")))(htk:takesIn K (.builtin "object.__class__")=some true)(M:Model):
  Looks M h (find (.ref x) (.ref C) "__class__") (.bind (.builtin "getset_descriptor.__get__") (.builtin "object.__class__")):=by
 have L1:=looks_findIn (M:=M) X ha;have L2:Looks M h (getOf (some (.builtin "object.__class__"))) (some (.builtin "getset_descriptor.__get__")):=looks_specialIn X hn;have L3:=looks_takesIn (M:=M) X htk;exact L1.andThen (L2.andThen ((show Looks M h (dataDescriptor? (some (.builtin "object.__class__")) (some (.builtin "getset_descriptor.__get__"))) (some (.builtin "getset_descriptor.__get__",.builtin "object.__class__"))from L3.andThen .now).andThen (Looks.tag .now)))
theorem YX{Q:Fin->ak->Prop}(X:K.In h)(I:R6 x C h)(hm:mroIn K C (.type "object")=some true)(ha:findIn K (.ref C) "__class__"=some (some (.builtin "object.__class__")))
  (hn:specialIn K (.builtin "object.__class__") "__get__"=some (some (.builtin "getset_descriptor.__get__")))(htk:takesIn K (.builtin "object.__class__")=some true)(hq:Q (.done (.ret (.ref C))) ⟨h,g,d,t,os⟩):
  wpAny (model prog w) A (Builtin.«object.__getattribute__» ⟨[.ref x,.str "__class__" tk],[]⟩) Q E ⟨h,g,d,t,os⟩:=by
 have L0:=I.type (M:=model prog w);have L1:=YW X I ha hn htk (model prog w);unfold Builtin.«object.__getattribute__»
 repeat (any_goals (first|assumption|with_reducible refine L0.at ?_|with_reducible refine L1.at ?_|wp_step))
 refine YV X I hm ?_
 repeat (any_goals (first|assumption|wp_step))
theorem YY{nameV:aj}{Q:Unit->ak->Prop}(X:K.In h)(I:R6 x C h)(hm:mroIn K C (.type "BaseException")=some true)(hq:Q () ⟨h,g,d,t,os⟩):
  wpAny M A (checkBuiltinCall "BaseException.__getattribute__" ⟨[.ref x,nameV],[]⟩) Q E ⟨h,g,d,t,os⟩:=by
 have hk:builtinKind "BaseException.__getattribute__"=some .slot:=by rfl'
 have hsplit:splitId "BaseException.__getattribute__"=some ("BaseException","__getattribute__"):=by rfl'
 have L0:=I.type (M:=M);have L1:=looks_mroIn (M:=M) X hm;have ha:=F.args_bexc_ga (.ref x) nameV;simp only[checkBuiltinCall,hk,hsplit];refine Qq ?_;unfold isInstance
 repeat (first|with_reducible refine L0.at ?_|with_reducible refine L1.at ?_|wp_step)
 exact hq
theorem YZ{fill expr:Bool}(X:K.In h)(I:R6 x C h)(hmB:mroIn K C (.type "BaseException")=some true)(hm:mroIn K C (.type "object")=some true)(ha:findIn K (.ref C) "__class__"=some (some (.builtin "object.__class__")))
  (hn:specialIn K (.builtin "object.__class__") "__get__"=some (some (.builtin "getset_descriptor.__get__")))(htk:takesIn K (.builtin "object.__class__")=some true)
  (hga:findIn K (.ref C) "__getattribute__"=some (some (.builtin "BaseException.__getattribute__")))(hno:findIn K (.ref C) "__getattr__"=some none)(hq:Q (.ref C) ⟨h,g,d,t,os⟩):
  wpAny (model prog w) A (getAttrBy (.ref x) (.str "__class__" tk) fill expr) Q E ⟨h,g,d,t,os⟩:=by
 have L0:=I.type (M:=model prog w);have L1:=looks_findIn (M:=model prog w) X hga;have L2:=looks_findIn (M:=model prog w) X hno;have f3:=F.attrBase_ValueError.ga.bind (.ref x);have hx0:(expr&&onTheHeap (Value.builtin "BaseException.__getattribute__"))=false:=by cases expr<;>rfl
 have hx2:(Value.builtin "BaseException.__getattribute__"==Value.builtin "object.__getattribute__")=false:=by rfl'
 have hx1:(onTheHeap (Value.ref C)&&Value.builtin "BaseException.__getattribute__"==Value.builtin "object.__getattribute__")=false:=by rw[hx2];rfl
 repeat (any_goals (first|assumption|with_reducible refine L0.at ?_|with_reducible refine L1.at ?_|with_reducible refine L2.at ?_|wp_step))
 refine Pn F.attrBase_ValueError.ga.plain F.entry_bexc_ga (YY X I hmB (YX X I hm ha hn htk ?_))
 repeat (any_goals (first|assumption|wp_step))
theorem ZA{Q:Option aj->ak->Prop}(X:K.In h)(I:R6 x C h)(hmB:mroIn K C (.type "BaseException")=some true)(hm:mroIn K C (.type "object")=some true)(ha:findIn K (.ref C) "__class__"=some (some (.builtin "object.__class__")))
  (hn:specialIn K (.builtin "object.__class__") "__get__"=some (some (.builtin "getset_descriptor.__get__")))(htk:takesIn K (.builtin "object.__class__")=some true)
  (hga:findIn K (.ref C) "__getattribute__"=some (some (.builtin "BaseException.__getattribute__")))(hno:findIn K (.ref C) "__getattr__"=some none)(hq:Q (some (.ref C)) ⟨h,g,d,t+1,os⟩):
  wpAny (model prog w) A (getAttr? (.ref x) "__class__") Q E ⟨h,g,d,t,os⟩:=by
 unfold getAttr? getAttrBy?
 repeat (any_goals (first|assumption|with_reducible apply YZ X I hmB hm ha hn htk hga hno|wp_step))
end
def ZB:List String:=["tuple","list","int","bool","str"]
def X5(K:Frag)(C:ah):Bool:=
 (mroIn K C (.type "BaseException")==some true)&&((mroIn K C (.type "object")==some true)&&((findIn K (.ref C) "__class__"==some (some (.builtin "object.__class__")))&&((specialIn K (.builtin "object.__class__") "__get__"==some (some (.builtin "getset_descriptor.__get__")))&&
 ((takesIn K (.builtin "object.__class__")==some true)&&((findIn K (.ref C) "__getattribute__"==some (some (.builtin "BaseException.__getattribute__")))&&((findIn K (.ref C) "__getattr__"==some none)&&((clsIn K C).isSome&&((kitOne K (.ref C) (.type "ValueError")==some true)&&ZB.all fun T=>kitOne K (.ref C) (.type T)==some false))))))))
theorem ZC{K:Frag}{e:ah}(h:X5 K C=true):KitX K (.ref e) (.ref C) (R6 e C):=by
 unfold X5 at h;simp only[Qr,Vn]at h;obtain⟨h1,h2,h3,h4,h5,h6,h7,h8,_,_⟩:=h;obtain⟨cdD,hcD⟩:=Yy.mp h8;refine⟨fun _ _ _ p=>p.type,fun _ _ X _=>?_,fun h tp dd its n sl X htp=>?_,fun{prog w A E Q s} X I k=>?_⟩
 ·unfold clsIn at hcD;split at hcD
  ·rename_i c' d' cd' sl' ho;intro A' Q' E' s' k q;unfold isType loadHead;exact Qq (wpAny_loadPart (k _ _ (X _ _ ho)) (Qz q))
  ·cases hcD
 ·refine Bool.eq_false_iff.mpr fun q=>?_;have e:C=tp:=Value.ref.inj (Vn.mp q);subst e;unfold clsIn at hcD;split at hcD
  ·rename_i c' d' cd' sl' ho;have z:=(X _ _ ho).symm.trans htp;cases z
  ·cases hcD
 ·obtain⟨hh,g,d,t,os⟩:=s;exact ZA X I h1 h2 h3 h4 h5 h6 h7 k
theorem ZD{K:Frag}(h:X5 K C=true):LO K (.ref C):=by
 unfold X5 at h;simp only[Qr]at h;obtain⟨_,_,_,_,_,_,_,_,_,h9⟩:=h;intro T hT;have:=Zb.mp h9 T hT;simpa using this
theorem ZE{K:Frag}(h:X5 K C=true):kitOne K (.ref C) (.type "ValueError")=some true:=by
 unfold X5 at h;simp only[Qr]at h;obtain⟨_,_,_,_,_,_,_,_,h9,_⟩:=h;simpa using h9
def AA(K:Frag)(S:Str)(names:ar):Bool:=names.all fun n=>BC K n&&match nsIn K mainGlobals n with
 |some (some (.ref C))=>X5 K C&&((match nsIn K mainGlobals S with
   |some (some (.ref D))=>mroIn K C (.ref D)==some true&&(BC K S&&X5 K D)
   |_=>false)&&names.all fun m=>match nsIn K mainGlobals m with
   |some (some (.ref D))=>kitOne K (.ref C) (.ref D)==some (n==m)
   |_=>false)
 |_=>false
structure xB(K:Frag)(S:Str)(names:ar)(n:Str)(C:ah):Prop where
 nm:nsIn K mainGlobals n=some (some (.ref C))
 one:BC K n=true
 kit:X5 K C=true
 sub:∃D,nsIn K mainGlobals S=some (some (.ref D))/\mroIn K C (.ref D)=some true/\BC K S=true/\X5 K D=true
 pair:∀m∈names,∃D,nsIn K mainGlobals m=some (some (.ref D))/\kitOne K (.ref C) (.ref D)=some (n==m)
theorem CT{K:Frag}{S:Str}{names:ar}(h:AA K S names=true){n:Str}(hn:n∈names):∃C,xB K S names n C:=by
 have q:=Zb.mp h n hn;simp only[Qr]at q;obtain⟨h1,h2⟩:=q;split at h2
 ·rename_i C hC;simp only[Qr]at h2;obtain⟨h3,h4,h5⟩:=h2;split at h4
  ·rename_i D hD;simp only[Qr,Vn]at h4;refine⟨C,hC,h1,h3,⟨D,hD,h4.1,h4.2.1,h4.2.2⟩,fun m hm=>?_⟩;have:=Zb.mp h5 m hm;split at this
   ·rename_i D' hD';exact⟨D',hD',by simpa using this⟩
   ·cases this
  ·cases h4
 ·cases h2
def V3(names:ar)(m:Str)(ma:Mo D):Mo D:=fun env=>(ma env).bind fun p=>match p.1 with
 |.obj (.exc n)=>if names.contains n then some (.bl (n==m),p.2)else none
 |_=>none
def MY(names:ar)(ma:Mo D):Mo D:=fun env=>(ma env).bind fun p=>match p.1 with
 |.obj (.exc n)=>if names.contains n then some (.bl true,p.2)else none
 |_=>none
section
variable{S m:Str}{names:ar}
theorem V4(hx:AA X.K S names=true)(hm:m∈names)(ha:ED X B a ma)(hg:Gl X "isinstance")(hi:X.mg "isinstance"=none)(hgm:Gl X m)(hdm:(m==("__debug__":Str))=false:=by decide)
  (he:starEach [a,.Name m p2] X.env=[(false,eval a X.env),(false,eval (.Name m p2) X.env)]:=by rfl):ED X B (.Call (.Name "isinstance" p) [a,.Name m p2] [] pos) (V3 names m ma):=by
 obtain⟨C0,F0⟩:=CT hx hm;intro pins0 s0 σ0 H0 Q0 I0;have hT:PE X (.Name m p2) (tC (.ref C0)):=KZ hgm (Xy I0.mod.kin I0.mod.glob F0.nm) rfl hdm;have hc:J3 X (.builtin "isinstance") (fun xs H Q=>∃x G n,xs=[x,.ref C0]/\Le G H/\b0 X.K G x (.obj (.exc n))/\n∈names/\Q (.bl (n==m)) H):=by
  intro pins s σ H xs us Q I r h;obtain⟨x,G,n,rfl,l,rp,hn,q⟩:=h;obtain⟨u,w',rfl,r1,r2⟩:=AN r;cases r2;simp only[b0]at rp;obtain⟨e,C,HP,rfl,h2,h3,h4,h5⟩:=rp;cases r1;obtain⟨C',F⟩:=CT hx hn;have:=F.nm;rw[h2]at this;cases this;obtain⟨D,hD,hk⟩:=F.pair m hm;have:=F0.nm;rw[hD]at this;cases this;exact Zf h4 I.kIn (I.hok e _ (l _ _ h3)).1 hk (fun z=>nomatch z) fun tk=>⟨.bl _,H,I.tok _,rfl,q⟩
 refine c9 (AO (pos:=pos) (p:=p) hc hg hi (by rfl') (M3 ha (M3 hT Q6) he) (he:=he)) ?_ pins0 s0 σ0 H0 Q0 I0;rintro σ H Q ⟨G,env,d,env',rl,e,k⟩;obtain⟨⟨d1,a8⟩,e1,e2⟩:=B9 e;dsimp only at e2;split at e2
 ·rename_i n;split at e2
  ·rename_i hn;cases e2;exact .bind rl e1 fun v G1 H1 ev r=>⟨v,G1,n,rfl,ev.rel.sub,r,by simpa using hn,k _ G1 H1 ev (by simp only[b0])⟩
  ·cases e2
 ·cases e2
theorem MZ(hx:AA X.K S names=true)(ha:ED X B a ma)(hg:Gl X "isinstance")(hi:X.mg "isinstance"=none)(hgm:Gl X "ValueError")(hmv:X.mg "ValueError"=none)
  (he:starEach [a,.Name "ValueError" p2] X.env=[(false,eval a X.env),(false,eval (.Name "ValueError" p2) X.env)]:=by rfl):ED X B (.Call (.Name "isinstance" p) [a,.Name "ValueError" p2] [] pos) (MY names ma):=by
 have hT:PE X (.Name "ValueError" p2) (tC (.ty "ValueError")):=El hgm hmv PyProof.Rows.Boot.«ValueError» rfl;have hc:J3 X (.builtin "isinstance") (fun xs H Q=>∃x G n,xs=[x,.ty "ValueError"]/\Le G H/\b0 X.K G x (.obj (.exc n))/\n∈names/\Q (.bl true) H):=by
  intro pins s σ H xs us Q I r h;obtain⟨x,G,n,rfl,l,rp,hn,q⟩:=h;obtain⟨u,w',rfl,r1,r2⟩:=AN r;cases r2;simp only[b0]at rp;obtain⟨e,C,HP,rfl,h2,h3,h4,h5⟩:=rp;cases r1;obtain⟨C',F⟩:=CT hx hn;have:=F.nm;rw[h2]at this;cases this;exact Zf h4 I.kIn (I.hok e _ (l _ _ h3)).1 (ZE F.kit) (fun z=>nomatch z) fun tk=>⟨.bl _,H,I.tok _,rfl,q⟩
 refine c9 (AO (pos:=pos) (p:=p) hc hg hi (by rfl') (M3 ha (M3 hT Q6) he) (he:=he)) ?_;rintro σ H Q ⟨G,env,d,env',rl,e,k⟩;obtain⟨⟨d1,a8⟩,e1,e2⟩:=B9 e;dsimp only at e2;split at e2
 ·rename_i n;split at e2
  ·rename_i hn;cases e2;exact .bind rl e1 fun v G1 H1 ev r=>⟨v,G1,n,rfl,ev.rel.sub,r,by simpa using hn,k _ G1 H1 ev (by simp only[b0])⟩
  ·cases e2
 ·cases e2
def Ma:D->Bool
 |.non=>true
 |_=>false
def Hw:D->D->Option D
 |a,.non=>some (.bl (Ma a))
 |_,_=>none
theorem ZF{K:Frag}{x:V}{a:D}(r:b0 K G x a):decide (x=.non)=Ma a:=by
 cases a with
 |non=>simp only[b0]at r;subst r;rfl
 |bl _=>simp only[b0]at r;subst r;rfl
 |int _=>simp only[b0]at r;subst r;rfl
 |str _=>simp only[b0]at r;obtain⟨r,_⟩:=r;subst r;rfl
 |tup _=>simp only[b0]at r;obtain⟨_,_,r,_⟩:=r;subst r;rfl
 |lst _=>simp only[b0]at r;obtain⟨_,_,r,_⟩:=r;subst r;rfl
 |emp=>simp only[b0]at r;obtain⟨_,_,r,_⟩:=r;subst r;rfl
 |dct _ _=>simp only[b0]at r;obtain⟨_,_,r,_⟩:=r;subst r;rfl
 |dcx _ _=>simp only[b0]at r;obtain⟨_,_,_,_,r,_⟩:=r;subst r;rfl
 |obj o=>
  simp only[b0]at r;cases o with
  |exc n=>obtain⟨_,_,_,r,_⟩:=r;subst r;rfl
  |fn n=>obtain⟨_,r,_⟩:=r;subst r;rfl
  |dk n=>obtain⟨_,r,_⟩:=r;subst r;rfl
  |dt n=>obtain⟨_,_,r,_⟩:=r;subst r;rfl
theorem ZG:nS X B (fun x y H Q=>y=.non/\Q (.bl (decide (x=.non))) H) Hw:=by
 intro G σ env H x y a b d Q rl ra rb e k;unfold Hw at e;split at e
 ·cases e;simp only[b0]at rb;subst rb;rw[ZF ra];exact⟨rfl,k _ G H (.refl rl) (by simp only[b0])⟩
 ·cases e
end
end L2.Mir
namespace L2.Mir
open PySem PySem.Spec PyProof.Rows PySem.W
variable{A:Around}{B:OE}{C a fl:ah}{E:OU}{G H H':Hp}{K:Frag}{M:Model}{N N' names ps:ar}{P:af}{X:Cx}{base:Heap}{body:Expr}{c cd:aj}{cl:List (Str×ah)}{env a8:a9}{fd:FuncData}{fn:Fn}{i k kc tk:Nat}{mg:OI}{n qual x:Str}{o:Option Str}{od:Option ah}{params:Arguments}{pins:OA}{pos:Pos}{s s₁:ak}{scope:Scope}{ts:List ah}{w:ag}{σ σ1:St}
section
variable{σ':St}{e:ah}{φ:Heap->Prop}
theorem ZH(I:Inv X pins σ H s)(hn:H e=none)(h0:X.s₀.heap.get? e=none)(hL:e≠X.env.locals)(hc:∀x c,X.env.cells.lookup x=some c->c≠e)(hp:∀p∈X.pn++pins,p.1≠e)
  (ph:φ s.heap)(po:∃o,s.heap.get? e=some o)(ps:∀h1 h2:Heap,φ h1->(∀o,h1.get? e=some o->h2.get? e=some o)->φ h2):Inv X pins σ (upd H e (.ext φ)) s:=by
 have ne:∀{b u},H b=some u->b≠e:=fun q z=>by rw[z,hn]at q;cases q
 refine⟨I.ok,I.os,I.bare,⟨I.base.keep,I.base.slot,fun b o q n hx=>?_,I.base.there,fun b xs q=>?_,fun b o u q=>?_,fun b ps q=>?_⟩,I.loc,I.cell,?_,fun x c q=>?_,fun p q=>?_,fun b u q=>?_,I.len⟩
 ·have hb:b≠e:=fun z=>by rw[z,h0]at q;cases q
  rw[C6 hb];exact I.base.free b o q n hx
 ·have:=I.base.tups b xs q;rw[C6 (ne this)];exact this
 ·have:=I.base.frzs b o u q;rw[C6 (ne this)];exact this
 ·obtain⟨m,q'⟩:=I.base.tbls b ps q;exact⟨m,by rw[C6 (ne q')];exact q'⟩
 ·rw[C6 (Za hL)];exact I.free
 ·rw[C6 (hc x c q)];exact I.freeC x c q
 ·obtain⟨h1,h2,h3,h4,h5⟩:=I.pin p q;exact⟨h1,by rw[C6 (hp p q)];exact h2,h3,h4,h5⟩
 ·by_cases hb:b=e
  ·subst hb;rw[D7]at q;cases q;exact⟨ph,po,ps⟩
  ·rw[C6 hb]at q;exact(I.hok b u q).stay (fun _ _ _ z=>z) (fun c z=>by rw[C6 (ne z)];exact z) fun c xs z=>by rw[C6 (ne z)];exact z
theorem ZI{h':Heap}{m':OI}(I:Inv X pins σ H s)(hn':h'.Ns X.env.locals m')(hs:Heap.SameBut X.env.locals s.heap h')(hl:σ'.length=σ.length)
  (hσ:∀(i:Nat) (x:Str) (v:V),X.N[i]? =some x->σ'[i]? =some (some v)->tK X.env.scope x->∃u,D1 v u/\KT X.env h' m' x u):Inv X pins σ' H {s with heap:=h',toks:=tk}:=by
 have cne:=I.cne;refine⟨I.ok,I.os,I.bare,⟨fun b o e n hb hx=>?_,fun b o e n hb hx=>?_,I.base.free,fun b o e hx=>?_,I.base.tups,I.base.frzs,I.base.tbls⟩,⟨_,hn',hσ⟩,fun y c e=>?_,I.free,I.freeC,fun p hp=>?_,fun b ob e=>?_,hl.trans I.len⟩
 ·exact(hs.2 b (Qd (Ql (Qu e) I.ok.above))).trans (I.base.keep b o e n hb hx)
 ·obtain⟨sl,e1⟩:=I.base.slot b o e n hb hx;exact⟨sl,(hs.2 b (Qd (Ql (Qu e) I.ok.above))).trans e1⟩
 ·obtain⟨o',e1⟩:=I.base.there b o e hx;exact⟨o',(hs.2 b (Qd (Ql (Qu e) I.ok.above))).trans e1⟩
 ·obtain⟨w',z⟩:=I.cell y c e;exact⟨w',z.sameBut hs (cne y c e)⟩
 ·obtain⟨e,n,ne,nf,d⟩:=I.pin p hp;exact⟨(hs.2 p.1 ne).trans e,n,ne,nf,d⟩
 ·refine(I.hok b ob e).stay (fun c w' hc q=>(hs.2 c ?_).trans q) (fun _ q=>q) fun _ _ q=>q;rintro rfl;rcases hc with rfl|hc
  ·rw[I.free]at e;cases e
  ·rw[I.free]at hc;cases hc
theorem ZJ{Q:Unit->ak->Prop}(I:Inv X pins σ H s)(hN:X.N.Nodup)(hi:X.N[i]? =some n)(hk:X.env.scope.names.lookup n=some .local)
  (h:∀s',Inv X pins (σ.set i none) H s'->Q () s'):wpAny M A (do bindName X.env n .none;unbindBehindTheSuite X.env n pos) Q E s:=by
 have hcls:(X.env.scope.kind==.class||(X.env.scope.kind==.module&&X.env.locals !=X.env.globals))=false:=by rw[I.ok.kind];rfl
 have hiσ:i<σ.length:=by rw[I.len];exact(Qc.mp hi).1
 refine Qq (wpAny_bindName (Ek (v:=.non) (u:=.none) I hN hi (.inl hk) rfl (fun s1 I1=>?_) (.inr hk)));unfold unbindBehindTheSuite;refine Te ?_;obtain⟨m,hn,hl⟩:=I1.loc;obtain⟨u,ru,lk⟩:=hl i n .non hi (Ym hiσ) (.inl hk);have hm:m n=some u:=by
  rcases lk with⟨_,z⟩|⟨z,_⟩
  ·exact z
  ·have:X.env.kindOf n=some .local:=hk;rcases z with z|z<;>(rw[this]at z;cases z)
 refine wpAny_unbindName_local hk hn hm hcls fun h' u' hn' hs=>?_;obtain⟨hh,g,d,t,o⟩:=s1;refine h _ (ZI (tk:=t) I1 hn' hs (by simp) fun j y v e1 e2 e3=>?_)
 by_cases hj:j=i
 ·subst hj;rw[Ym hiσ]at e2;cases e2
 ·rw[Qs (Za hj)]at e2;obtain⟨w,rw',q⟩:=hl j y v e1 (by rw[Qs (Za hj)];exact e2) e3;refine⟨w,rw',?_⟩;rcases q with⟨k,e⟩|⟨k,c,e,z⟩
  ·refine .inl ⟨k,?_⟩;have:y≠n:=fun e=>hj (Ge hN e1 (e ▸ hi));simp[this,e]
  ·exact .inr ⟨k,c,e,z.sameBut hs (I1.cne y c e)⟩
end
theorem Ev.setNone{G1:Hp}{H1:Hp}(ev:Ev K B G σ env H G1 σ1 a8 H1):Ev K B G σ env H G1 (σ1.set i none) (a8.set i .nil) H1:=by
 have e0:=ev.setNil (i:=i);have rl:=e0.rel;have ne:∀(j:Nat) (w:W),(a8.set i .nil)[j]? =some w->w≠.nil->(σ1.set i none)[j]? =σ1[j]?:=fun j w q1 q2=>by
  rcases K4 q1 with⟨_,z⟩|z
  ·exact absurd z q2
  ·exact Qs (Za z.1)
 have nm:∀(w:W) (es:Mu),w.mut=some es->w≠.nil:=fun w es h z=>by rw[z]at h;cases h
 refine⟨⟨rl.sub,by rw[rl.len];simp,fun j d q=>?_,fun j w es q1 q2=>?_,fun j k w w' es fs b q1 q2 q3 q4 q5 q6=>?_,fun j w b q1 qo q2=>?_,rl.old,rl.tabs,rl.gnt⟩,e0.same,e0.keep,e0.live,e0.stay,fun b z=>?_,fun j w q qp=>?_,by rw[Yg];exact e0.slen⟩
 ·rw[ne j _ q (by simp)];exact rl.dat j d q
 ·rw[ne j _ q1 (nm w es q2)];exact rl.own j w es q1 q2
 ·rw[ne j _ q1 (nm w es q2)]at q5;rw[ne k _ q3 (nm w' fs q4)]at q6;exact rl.inj j k w w' es fs b q1 q2 q3 q4 q5 q6
 ·rw[ne j _ q1 (by rintro rfl;cases qo)]at q2;exact rl.fresh j w b q1 qo q2
 ·obtain⟨j,w,es,q1,q2,q3⟩:=z;rw[ne j _ q1 (nm w es q2)]at q3;exact e0.sub b ⟨j,w,es,q1,q2,q3⟩
 ·rw[ne j _ q (by rintro rfl;cases qp)];exact e0.par j w q qp
theorem ZK{l:List Env}{h h1 h2 Bh:Heap}(un:Un (nI l) [] H H' h h1)(kept:∀b o,h.get? b=some o->H b=none->b∉nI l->Bh.get? b=some o)(thr:∀b o,h.get? b=some o->b∉nI l->∃o',Bh.get? b=some o')
  (stay:Bh.StaysIn h2)(ups:h1.UpToSlots h2)(fr:∀b∈nI l,H b=none/\∃o,h.get? b=some o/\∀vs,o.data≠.fields vs):Un (nI l) [] H H' h h2:=by
 have sl:∀b o,h.get? b=some o->b∈nI l->∃sl,h2.get? b=some {o with slots:=sl}:=fun b o q hb=>by
  obtain⟨n,o1,g1,g2⟩:=fr b hb;rw[q]at g1;cases g1;obtain⟨s1,q1⟩:=un.slot b o q n hb (by simp);obtain⟨s2,q2⟩:=ups b _ q1 g2;exact⟨s2,q2⟩
 exact⟨fun b o q n hb _=>stay b o (kept b o q n hb),fun b o q n hb _=>sl b o q hb,un.free,fun b o q _=>by
  by_cases hb:b∈nI l
  ·obtain⟨s1,q1⟩:=sl b o q hb;exact⟨_,q1⟩
  ·obtain⟨o',q1⟩:=thr b o q hb;exact⟨o',stay b o' q1⟩,un.tups,un.frzs,un.tbls⟩
section
variable{e Dd:ah}{h:Heap}{g:Array GenState}{d:Drawn}{t:Nat}{os:OsState}
theorem ZL{Q:Bool->ak->Prop}{cd:ClassData}{sl:Array (Option aj)}(X:K.In h)(I:R6 e C h)(hsub:mroIn K C (.ref Dd)=some true)(hD:mroIn K Dd (.type "BaseException")=some true)(hk:K.lookup Dd=some ⟨.type "type",od,.cls cd,sl⟩)
  (hq:Q true ⟨h,g,d,t,os⟩):wpAny M A (excMatches (.ref e) (.ref Dd)) Q E ⟨h,g,d,t,os⟩:=by
 have L0:=I.type (M:=M);have L1:=looks_mroIn (M:=M) X hsub;have L2:=looks_mroIn (M:=M) X hD;have f:=tc_notTuple;have hC:=X _ _ hk;unfold excMatches
 repeat (first|with_reducible refine L0.at ?_|with_reducible refine L1.at ?_|with_reducible refine L2.at ?_|with_reducible refine wpAny_loadPart_at hC ?_|wp_step)
 exact hq
end
theorem ZM{bm:ao}{nid:String}(h:excIn K C bm nid=true):∃od cd sl,K.lookup C=some ⟨.type "type",od,.cls cd,sl⟩:=by
 unfold excIn at h;split at h
 ·rename_i dd cd sl ho;exact⟨dd,cd,sl,ho⟩
 ·cases h
theorem ZN(h:X5 K C=true):mroIn K C (.type "BaseException")=some true:=by
 unfold X5 at h;simp only[Qr,Vn]at h;exact h.1
def CU(a:ah)(h:Heap):Prop:=∃o fd,h.get? a=some o/\o.data=.func fd
theorem ZO(h:Heap)(p:CU a h):∃k,(k=Keeper.frame\/k=Keeper.machine\/k=Keeper.boundFrame)/\Looks M h (keeperOf (.ref a)) k:=by
 obtain⟨o,fd,h1,h2⟩:=p;refine⟨.frame,.inl rfl,(Looks.ld (part:=none) h1).andThen ?_⟩;rw[h2];exact .now
def Hx(X:Cx)(B:OE)(fl:ah)(o:Option Str)(G:Hp):Prop:=
 ∀(pins:OA) (s:ak) (σ:St) (env:a9) (Q:VK) (E:XK),Inv X pins σ X.H₀ s->Rel X.K B G σ env X.H₀->
  (o=none->∀v G' H',Ev X.K B G σ env X.H₀ G' σ env H'->Q v H')->
  (∀n C,o=some n->nsIn X.K mainGlobals n=some (some (.ref C))->∀G' H',Ev X.K B G σ env X.H₀ G' σ env H'->E (.ref C) none H')->
  codeAny (model X.prog X.w) X.A (.call (.ref fl) ⟨[],[]⟩) (CR (pD X.prog X.w) X.stack X.prog X.w X.H₀ s Q E) s
section
variable{S y:Str}{i0 j:Nat}{G₀:Hp}{cp cpos epos sp yp np apos hpos tpos:Pos}
abbrev uK(n:Str):D:=.obj (.exc n)
def ZP(X:Cx)(B:OE)(names:ar)(fl:ah)(i0 i j:Nat)(o:Option Str)(G:Hp):TS:=fun D σ H=>σ[i0]? =some (some (.ref fl))/\H=X.H₀/\∃env,Rel X.K B G σ env H/\
 (o=none->∀G' H',Ev X.K B G σ env H G' σ env H'->D.nx σ H')/\∀c,o=some c->c∈names/\∀σ' G' H',Ev X.K B G σ env H G' σ' (((env.set i (.dat (uK c))).set j (.dat (uK c))).set i .nil) H'->D.nx σ' H'
theorem uL{s':ak}{D:Ends}{ev:aj}(hst:X.stack=X.env::X.outer)(hfr:X.env.frame=some X.env.locals)(hex:X.ex=[])(hx:AA X.K S names=true)(hN:X.N.Nodup)
  (hi:X.N[i]? =some n)(hil:X.env.scope.names.lookup n=some .local)(hj:X.N[j]? =some y)(hjl:X.env.scope.names.lookup y=some .local)(hgS:Gl X S)
  (I:Inv X pins σ H s)(rl:Rel X.K B G σ env H)(hX:∀c,o=some c->c∈names/\∀σ' G' H',Ev X.K B G σ env H G' σ' (((env.set i (.dat (uK c))).set j (.dat (uK c))).set i .nil) H'->D.nx σ' H')
  (cx:pD X.prog X.w X.stack H s (fun cls _ H'=>∃c C G',o=some c/\nsIn X.K mainGlobals c=some (some (.ref C))/\cls=.ref C/\Ev X.K B G σ env H G' σ env H') ev s')
  (hdS:(S==("__debug__":Str))=false)(hdn:(n==("__debug__":Str))=false)(hcdn:(n==("__classdict__":Str))=false)(hsw:swapsWith (.Name n np) (some (.Name y yp)) apos.line X.env=pure false):
  wpAny (model X.prog X.w) X.A (noteFrame ev X.env) (fun _ s₂=>wpAny (model X.prog X.w) X.A (setFlight ev none) (fun _ s₃=>
   wpAny (model X.prog X.w) X.A (handleBy ev X.env [.ExceptHandler (some (.Name S sp)) (some n) [.Assign [.Name y yp] (.Name n np) apos] hpos]) (SP X pins D) X.xe s₃) X.xe s₂) X.xe s':=by
 obtain⟨e,t,C,H',Bh,rfl,os,bare,fly,un,hok,kept,thr,c,C',G',ho,hC,hcc,evx⟩:=cx;cases hcc;obtain⟨hcn,hD⟩:=hX c ho;obtain⟨C2,F⟩:=CT hx hcn;have:=F.nm;rw[hC]at this;cases this;obtain⟨Sd,hS,hsub,hoS,hkS⟩:=F.sub;have frF:∀b∈nI X.stack,H b=none/\∃o,s.heap.get? b=some o/\∀vs,o.data≠.fields vs:=fun b hb=>⟨I.stkFree b hb,(I.stack.mem hb).2⟩;have eB:Bh.get? e=none:=fly.2.1;obtain⟨oe0,vs0,he0,_,hd0,_⟩:=fly.first
 have eS:s.heap.get? e=none:=by
  cases q:s.heap.get? e with
  |none=>rfl
  |some o0=>
   by_cases hb:e∈nI X.stack
   ·obtain⟨_,o1,g1,g2⟩:=fly.2.2.1.mem hb;rw[he0]at g1;cases g1;exact absurd hd0 (g2 vs0)
   ·obtain⟨o',q'⟩:=thr e o0 q hb;rw[eB]at q';cases q'
 have e0:X.s₀.heap.get? e=none\/e∈X.ex:=by
  by_cases hx:e∈X.ex
  ·exact .inr hx
  ·refine .inl ?_;cases q:X.s₀.heap.get? e with
   |none=>rfl
   |some o0=>obtain⟨o',q'⟩:=I.base.there e o0 q hx;rw[eS]at q';cases q'
 have eH:H' e=none:=by
  cases q:H' e with
  |none=>rfl
  |some u=>
   have ok:=hok e u q;have:∃o,Bh.get? e=some o:=by
    cases u with
    |lst xs=>obtain⟨_,_,_,_,z⟩:=ok;exact⟨_,z⟩
    |tup xs=>obtain⟨_,_,_,ob,z,_⟩:=ok;exact⟨_,z⟩
    |dK kvs=>obtain⟨_,_,_,_,o,_,_,z,_⟩:=ok;exact⟨_,z⟩
    |dT C kvs=>obtain⟨_,_,_,_,o,_,_,z,_⟩:=ok;exact⟨_,z⟩
    |dX es ep=>obtain⟨_,_,o,z,_⟩:=ok;exact⟨_,z⟩
    |set S n=>obtain⟨o,_,_,_,z,_⟩:=ok;exact⟨_,z⟩
    |ins C dx fs=>obtain⟨_,_,_,z,_⟩:=ok;exact⟨_,z⟩
    |own y=>obtain⟨_,z⟩:=ok;exact⟨_,z⟩
    |xd fs=>obtain⟨_,⟨_,_,_,z,_⟩,_⟩:=ok;exact⟨_,z⟩
    |rng lo hi=>obtain⟨_,_,_,z⟩:=ok;exact⟨_,z⟩
    |frz ob u=>obtain⟨z,_⟩:=ok;exact⟨_,z⟩
    |tbl ps=>exact⟨_,(show Bh.get? e=some _ from ok)⟩
    |met f y=>exact⟨_,(show Bh.get? e=some _ from ok)⟩
    |ext φ=>obtain⟨_,z,_⟩:=ok;exact z
   rw[eB]at this;obtain⟨_,z⟩:=this;cases z
 have invAt:∀h2:Heap,Bh.StaysIn h2->s'.heap.UpToSlots h2->Inv X pins σ H' {s' with heap:=h2}:=fun h2 st ups=>
  I.call' (s':={s' with heap:=h2}) (ch:=[]) os (ZK un kept thr st ups frF) (hok.kept fun b u q=>st b u q) bare (fun b z=>absurd z (by simp))
 rw[hst]at fly;have frames:X.A.frames=some (X.env::X.outer):=by rw[I.ok.frames,hst]
 refine wpAny_looks_onW (L:=X.env.locals) frames hfr fly fun h4 held4 ups4=>?_;refine wpAny_landsW held4 fun h5 fly5 ups5=>?_;have I5:=invAt h5 fly5.1 (ups4.trans ups5);refine wpAny_handleBy_cons (codeAny_handlers_test ?_) (by intro q;cases q);have markI:∀{σ:St}{H:Hp}{s:ak},Inv X pins σ H s->Inv ({X with A:=X.A.mark (some (.ref e)),calm:=false,xe:=fun _ _=>False}:Cx) pins σ H s:=fun J=>
  ⟨⟨J.ok.mod,J.ok.kind,J.ok.glob,J.ok.blt,J.ok.above,J.ok.inj,J.ok.has,J.ok.cab,(fun z=>nomatch z),J.ok.frames,J.ok.stk,J.ok.exf,J.ok.bs,J.ok.bsz,J.ok.noex,J.ok.exfs,J.ok.funs,J.ok.frf⟩,J.os,J.bare,J.base,J.loc,J.cell,J.free,J.freeC,J.pin,J.hok,J.len⟩
 have unmark:∀{σ:St}{H:Hp}{s:ak},Inv ({X with A:=X.A.mark (some (.ref e)),calm:=false,xe:=fun _ _=>False}:Cx) pins σ H s->Inv X pins σ H s:=fun J=>⟨I.ok,J.os,J.bare,J.base,J.loc,J.cell,J.free,J.freeC,J.pin,J.hok,J.len⟩;refine DB (X:=({X with A:=X.A.mark (some (.ref e)),calm:=false,xe:=fun _ _=>False}:Cx)) (markI I5) hgS (mg_of I.mod.kin I.mod.glob hS) ?_ hdS;obtain⟨od,cd,sl,hlk⟩:=ZM (let ⟨Z,z1,z2⟩:=MX hoS;by rw[hS]at z1;cases z1;exact z2);obtain⟨oe5,vs5,he5,hc5,_,_⟩:=fly5.first
 refine ZL I5.kIn ⟨oe5,he5,hc5⟩ hsub (ZN hkS) hlk ?_;dsimp only[if_true];refine codeAny_handlers_suite_as ?_;refine lands_againW fly5 fun h6 fly6 ups6=>?_;have I6:=invAt h6 fly6.1 ((ups4.trans ups5).trans ups6);obtain⟨oe6,vs6,he6,hc6,_,_⟩:=fly6.first
 have hexN:e∉X.ex:=fun z=>by rw[hex]at z;cases z
 have I7:Inv X pins σ (upd H' e (.ext (R6 e C))) {s' with heap:=h6}:=by
  refine ZH I6 eH (e0.elim id fun z=>absurd z hexN) (fun z=>?_) (fun x c q z=>?_) (fun p q z=>?_) ⟨oe6,he6,hc6⟩ ⟨_,he6⟩ fun h1 h2 p k=>?_
  ·obtain⟨m,⟨o1,_,_,g,_⟩,_⟩:=I.loc;rw[←z,eS]at g;cases g
  ·obtain⟨v,o1,g,_⟩:=I.cell x c q;rw[z,eS]at g;cases g
  ·obtain⟨g,_⟩:=I.pin p q;rw[z,eS]at g;cases g
  ·obtain⟨o1,g1,g2⟩:=p;exact⟨o1,k o1 g1,g2⟩
 refine Ek I7 hN hi (.inl hil) (show D1 (.ref e) (.ref e)from rfl) (fun s8 I8=>?_) (.inr hil);have hiσ:i<σ.length:=by rw[I.len];exact(Qc.mp hi).1
 refine Zj (Kb (DC (X:=({X with A:=X.A.mark (some (.ref e)),calm:=false,xe:=fun _ _=>False}:Cx)) (pos:=apos) (pos':=yp) hN hj (.inl hjl) (Gf (pos:=np) hi (.inl hil) hdn hcdn) hsw (.inr hjl)) pins s8 (σ.set i (some (.ref e))) (upd H' e (.ext (R6 e C)))
  {nx:=fun σ' H2=>σ'=(σ.set i (some (.ref e))).set j (some (.ref e))/\H2=upd H' e (.ext (R6 e C)),rt:=fun _ _=>False} (markI I8) ⟨_,Ym hiσ,rfl,rfl⟩) (fun f s9 q=>?_) fun _ _ z=>z.elim
 cases f with
 |ret u=>obtain⟨_,_,_,_,_,z⟩:=q;exact z.elim
 |brk=>obtain⟨_,_,_,z⟩:=q;exact z.elim
 |cont=>obtain⟨_,_,_,z⟩:=q;exact z.elim
 |next=>
  obtain⟨σ9,H9,I9,rfl,rfl⟩:=q;refine ZJ (unmark I9) hN hi hil fun s10 I10=>?_;refine⟨_,_,I10,?_⟩;have f9:=evx.trans (evx.rel.alloc (o:=.ext (R6 e C)) eH);have rp:b0 X.K (upd G' e (.ext (R6 e C))) (.ref e) (uK c):=by
   simp only[b0];exact⟨e,C,_,rfl,hC,D7,ZC F.kit,ZD F.kit⟩
  exact hD _ _ _ (((f9.setDat (i:=i) rp).setDat (i:=j) rp).setNone (i:=i))
theorem ZQ(hst:X.stack=X.env::X.outer)(hfr:X.env.frame=some X.env.locals)(hex:X.ex=[])(hx:AA X.K S names=true)(hN:X.N.Nodup)(h0:X.N[i0]? =some x)(hv:tK X.env.scope x)
  (hi:X.N[i]? =some n)(hil:X.env.scope.names.lookup n=some .local)(hj:X.N[j]? =some y)(hjl:X.env.scope.names.lookup y=some .local)(hgS:Gl X S)
  (fn:∀pins σ H s,Inv X pins σ H s->CU fl s.heap)(clo:Hx X B fl o G₀)
  (hdx:(x==("__debug__":Str))=false:=by decide)(hcdx:(x==("__classdict__":Str))=false:=by decide)(hdS:(S==("__debug__":Str))=false:=by decide)(hdn:(n==("__debug__":Str))=false:=by decide)(hcdn:(n==("__classdict__":Str))=false:=by decide)
  (hsw:swapsWith (.Name n np) (some (.Name y yp)) apos.line X.env=pure false:=by rfl)(hsw2:swapsWith (.Call (.Name x cp) [] [] cpos) none epos.line X.env=pure false:=by rfl):
  PS X (.Try [.Expr (.Call (.Name x cp) [] [] cpos) epos] [.ExceptHandler (some (.Name S sp)) (some n) [.Assign [.Name y yp] (.Name n np) apos] hpos] [] [] tpos) (ZP X B names fl i0 i j o G₀):=by
 intro pins s σ H D I ⟨hσ,hH,env,rl,hN0,hX0⟩;subst hH;refine wpAny_Try_except ?_;refine wpAny_execs_cons (wpAny_Expr_any ?_ I.quiet hsw2);refine Vh ?_;have name:=fun(W:OU)=>Gf (X:=X.wish W) (pos:=cp) h0 hv hdx hcdx pins s σ X.H₀ (fun v H'=>v=.ref fl/\H'=X.H₀) (I.wish W) ⟨_,hσ,rfl,rfl⟩;refine Zj (name fun _ _=>False) (fun u s1 ⟨v,H1,I1,r1,q1,q2⟩=>?_) fun _ _ z=>False.elim z;subst q1;subst q2;cases (show u=Value.ref fl from r1);have I1:=I1.unwish;refine callWith_of (P:=CU fl) rfl (fun h p=>ZO h p) (evalArgs_nil3 ⟨fn pins σ _ s1 I1,?_⟩);refine wpAny_call (Vx (clo pins s1 σ env (fun _ H'=>D.nx σ H') (fun cls _ H'=>∃c C G',o=some c/\nsIn X.K mainGlobals c=some (some (.ref C))/\cls=.ref C/\Ev X.K B G₀ σ env _ G' σ env H') I1 rl (fun z v G' H' ev=>hN0 z G' H' ev) (fun c C z hC G' H' ev=>⟨c,C,G',z,hC,rfl,ev⟩)) fun r s' hq=>?_);cases r with
 |error ev=>exact uL hst hfr hex hx hN hi hil hj hjl hgS I1 rl hX0 hq hdS hdn hcdn hsw
 |ok f=>
  cases f with
  |next=>exact False.elim hq
  |brk=>exact False.elim hq
  |cont=>exact False.elim hq
  |ret u=>
   obtain⟨v,H',I',_,q⟩:=I1.after hq;exact Xh (Xh ⟨σ,H',I',q⟩)
end
def Hy(names:ar)(i j:Nat)(o:Option Str):Mo Fl:=fun env=>match o with
 |none=>some (.nx,env)
 |some c=>if names.contains c then some (.nx,((env.set i (.dat (uK c))).set j (.dat (uK c))).set i .nil)else none
section
variable{S y:Str}{i0 j:Nat}{G₀:Hp}{cp cpos epos sp yp np apos hpos tpos yp0 spos0 npos0:Pos}{rest:List Stmt}{m:Mo Fl}{kk:Nat}
theorem ZR(hst:X.stack=X.env::X.outer)(hfr:X.env.frame=some X.env.locals)(hex:X.ex=[])(hx:AA X.K S names=true)(hN:X.N.Nodup)(h0:X.N[i0]? =some x)(hv:tK X.env.scope x)
  (hi:X.N[i]? =some n)(hil:X.env.scope.names.lookup n=some .local)(hj:X.N[j]? =some y)(hjl:X.env.scope.names.lookup y=some .local)(hij:i0≠j)(hgS:Gl X S)
  (fn:∀pins σ H s,Inv X pins σ H s->CU fl s.heap)(clo:Hx X B fl o G₀)(hr:sP X B rest m)
  (hdx:(x==("__debug__":Str))=false:=by decide)(hcdx:(x==("__classdict__":Str))=false:=by decide)(hdS:(S==("__debug__":Str))=false:=by decide)(hdn:(n==("__debug__":Str))=false:=by decide)(hcdn:(n==("__classdict__":Str))=false:=by decide)
  (hsw:swapsWith (.Name n np) (some (.Name y yp)) apos.line X.env=pure false:=by rfl)(hsw2:swapsWith (.Call (.Name x cp) [] [] cpos) none epos.line X.env=pure false:=by rfl)
  (hsw3:swapsWith (.Constant .none kk npos0) (some (.Name y yp0)) spos0.line X.env=pure false:=by rfl):
  o8 X (.Assign [.Name y yp0] (.Constant .none kk npos0) spos0::.Try [.Expr (.Call (.Name x cp) [] [] cpos) epos] [.ExceptHandler (some (.Name S sp)) (some n) [.Assign [.Name y yp] (.Name n np) apos] hpos] [] [] tpos::rest)
   (fun D σ H=>σ[i0]? =some (some (.ref fl))/\H=X.H₀/\∃env f env',Rel X.K B G₀ σ env H/\(C1 (E3 j (mC .non)) (C1 (Hy names i j o) m)) env=some (f,env')/\Post X.K B G₀ σ env H env' D f):=by
 refine pP (Bv (DC hN hj (.inl hjl) KY hsw3 (.inr hjl)) (Bv (ZQ hst hfr hex hx hN h0 hv hi hil hj hjl hgS fn clo hdx hcdx hdS hdn hcdn hsw hsw2) hr)) ?_;rintro D σ H ⟨hσ,hH,env,f,env',rl,e,k⟩;obtain⟨⟨f1,a8⟩,e1,e2⟩:=B9 e;cases e1;dsimp only at e2;obtain⟨⟨f2,g0⟩,e3,e4⟩:=B9 e2;have j3:Ev X.K B G₀ σ env H G₀ (σ.set j (some .non)) (env.set j (.dat .non)) H:=(Ev.refl rl).setDat (i:=j) (v:=.non) (d:=.non) (by simp only[b0]);refine⟨by rw[Qs (Za hij)];exact hσ,hH,_,j3.rel,fun z G' H' ev=>?_,fun c z=>?_⟩
 ·subst z;cases e3;exact⟨G',_,f,env',ev.rel,e4,Post.after _ _ k (j3.trans ev)⟩
 ·subst z;unfold Hy at e3;dsimp only at e3;split at e3
  ·rename_i hc;cases e3;exact⟨by simpa using hc,fun σ' G' H' ev=>⟨G',_,f,env',ev.rel,e4,Post.after _ _ k (j3.trans ev)⟩⟩
  ·cases e3
end
theorem ZS{E:XK}(hst:X.stack=X.env::X.outer)(hfr:X.env.frame=some X.env.locals)(hex:X.ex=[])
  (hxe:∀e s',wpAny (model X.prog X.w) X.A (leaving X.env e) (fun _ s''=>pD X.prog X.w X.outer X.H₀ X.s₀ E e s'') (fun e' s''=>pD X.prog X.w X.outer X.H₀ X.s₀ E e' s'') s'->X.xe e s'):u9 X E:=by
 refine⟨fun pins σ H s ev s' I h=>hxe _ _ ?_,fun pins σ H s h' e C vs I hm hE=>hxe _ _ ?_⟩
 ·obtain⟨e,t,C,H',Bh,rfl,os,bare,fly,un,hok,kept,thr,hE⟩:=h;rw[hst]at fly;refine wpAny_leaves_onW (L:=X.env.locals) (by rw[I.ok.frames,hst]) hfr fly fun h2 fly2 ups=>?_;refine FZ hst hfr hex I os bare fly2 kept thr (fun b o q n hb=>?_) (fun b o q n=>un.free b o q n (by simp)) un.tups un.frzs un.tbls hok hE;obtain⟨sl,q1⟩:=un.any q n (by simp);obtain⟨_,o1,g1,g2⟩:=I.funs.mem hb;rw[q]at g1;cases g1;obtain⟨sl2,q2⟩:=ups b _ q1 g2;exact⟨sl2,q2⟩
 ·have hs:=I.stack;rw[hst]at hs;refine wpAny_leaves_madeW (L:=X.env.locals) (base:=hideAll s.heap (nI X.stack)) (h:=s.heap) (by rw[I.ok.frames,hst]) hfr (fun b o q=>of_hideAll _ q)
   (funFrames_hide hs fun env he b hb=>by rw[hst];exact Um.mpr ⟨env,he,hb⟩) hm fun h2 t fly _ hn ups=>?_
  refine FZ (s:=s) (s':={s with heap:=h2}) hst hfr hex I rfl I.bare fly (fun b o q _ hb=>Ug _ q hb) (fun b o q hb=>⟨o,Ug _ q hb⟩) (fun b o q n hb=>?_) (fun b o q n=>n) (fun _ _ q=>q) (fun _ _ _ q=>q) (fun b ps q=>⟨#[],by rw[q];simp⟩) ?_ hE
  ·obtain⟨_,o1,g1,g2⟩:=I.funs.mem hb;rw[q]at g1;cases g1;obtain⟨sl2,q2⟩:=ups b _ (hm.keeps b o q) g2;exact⟨sl2,q2⟩
  ·exact MW (P:=X.prog) (w:=X.w) I.hok fun b u o q1 q2=>Ug _ q2 fun z=>by rw[I.stkFree b z]at q1;cases q1
theorem Dh{B1 B2:OE}{G':Hp}{σ1' σ2:St}{vC g0:a9}(ev:Ev K B1 G σ1 a8 H G' σ1' vC H')(no:∀a,¬ d9 σ1 a8 a)(rl:Rel K B2 G σ2 g0 H):Ev K B2 G σ2 g0 H G' σ2 g0 H':=by
 refine⟨⟨ev.rel.sub,rl.len,fun i d e=>?_,fun i w ds e1 e2=>?_,rl.inj,rl.fresh,fun b h=>ev.live b (rl.old b h),ev.rel.tabs,ev.rel.gnt⟩,ev.same,fun b o _ t e=>ev.keep b o (no b) t e,ev.live,fun b e _ g=>ev.stay b e (no b) g,fun a z=>.inl z,fun i w e hp=>⟨rfl,w,e,hp⟩,rfl⟩
 ·obtain⟨v,q1,q2⟩:=rl.dat i d e;exact⟨v,q1,b0.mono ev.same d q2⟩
 ·obtain⟨a,xs,q1,q2,q3,q4⟩:=rl.own i w ds e1 e2;exact⟨a,xs,q1,ev.keep a _ (no a) q3.nt q2,q3.mono ev.same,ev.stay a (by rw[q2];simp) (no a) q4⟩
theorem Mb(rl:Rel K B G σ env H):Rel K M7 G [] [] H:=
 ⟨rl.sub,rfl,fun i d e=>by simp at e,fun i w ds e=>by simp at e,fun i j w w' ds es a e=>by simp at e,fun i ds a e=>by simp at e,fun b h=>h.elim,rl.tabs,rl.gnt⟩
theorem Hz:¬ d9 [] [] a:=fun⟨i,w,ds,e,_⟩=>by simp at e
def BE(P:af)(w:ag)(K:Frag)(mg:OI)(base:Heap)(N':ar)(q:Str)(scope:Scope)(fl:ah)(cd:aj)(cl:List (Str×ah))(A:Around)(outer:List Env)(s:ak)(H:Hp)(E:XK):Cx where
 prog:=P
 w:=w
 K:=K
 mg:=mg
 base:=base
 A:=A.deeper (envX q scope s.heap.objs.size fl cd cl)
 N:=N'
 s₀:=s
 H₀:=H
 env:=envX q scope s.heap.objs.size fl cd cl
 outer:=outer
 stack:=envX q scope s.heap.objs.size fl cd cl::outer
 ex:=[]
 fn:=fun _=>false
 calm:=true
 pn:=[]
 xe:=fun e s'=>wpAny (model P w) (A.deeper (envX q scope s.heap.objs.size fl cd cl)) (leaving (envX q scope s.heap.objs.size fl cd cl) e) (fun _ s''=>pD P w outer H s E e s'') (fun e' s''=>pD P w outer H s E e' s'') s'
section
variable{q:Str}{outer:List Env}{E:XK}
theorem ZT:u9 (BE P w K mg base N' q scope fl cd cl A outer s H E) E:=ZS rfl rfl rfl fun _ _ h=>h
theorem ZU{h₁:Heap}{m:OI}(e0:p0 P w K mg base A outer s H)(hd:A.handled=none)(hk:scope.kind=.function)(hnc:∀x,scope.names.lookup x≠some .cell)
  (inj:∀x y c,cl.lookup x=some c->cl.lookup y=some c->x=y)(has:∀x,scope.names.lookup x=some .free->∃c,cl.lookup x=some c)
  (cell:∀x c,cl.lookup x=some c->(∃v,s.heap.IsCell c v)/\H c=none)
  (val:∀(i:Nat) (x:Str) (v:V),N'[i]? =some x->σ[i]? =some (some v)->tK scope x->scope.names.lookup x=some .free/\∃c u,cl.lookup x=some c/\D1 v u/\s.heap.IsCell c (some u))
  (hl:σ.length=N'.length)(hns:h₁.Ns s.heap.objs.size m)(kp:∀b o,s.heap.get? b=some o->h₁.get? b=some o):
  Inv (BE P w K mg base N' q scope fl cd cl A outer s H E) [] σ H {s with heap:=h₁,toks:=tk}:=by
 have noA:∀b:ah,b∉(BE P w K mg base N' q scope fl cd cl A outer s H E).ex:=fun b z=>absurd (show b∈([]:List ah)from z) (by simp);refine⟨⟨e0.mod,hk,rfl,rfl,Qy _,inj,fun y hy=>?_,fun y c z=>absurd (show(false:Bool)=true from z) (by decide),fun _=>hd,Around.frames_deeper e0.frames,.inr ⟨rfl,rfl⟩,fun b z=>absurd z (noA b),e0.bs,e0.bsz,fun b _ _=>noA b,fun b z=>absurd z (noA b),e0.funs,e0.frf⟩,
  rfl,e0.bare,Un.kept kp,⟨_,hns,fun i x v h1 h2 h3=>?_⟩,fun x c e=>?_,e0.hok.fresh (Qy _),fun x c e=>(cell x c e).2,fun p hp=>absurd (show p∈([]:OA)from hp) (by simp),e0.hok.kept kp,hl⟩
 ·rcases hy with hy|hy
  ·exact absurd hy (hnc y)
  ·exact has y hy
 ·obtain⟨k,c,u,g1,g2,g3⟩:=val i x v h1 h2 h3;exact⟨u,g2,.inr ⟨.inr k,c,g1,g3.keeps kp⟩⟩
 ·obtain⟨⟨v,z⟩,_⟩:=cell x c e;exact⟨v,z.keeps kp⟩
end
structure tQ(K:Frag)(params:Arguments)(body:Expr)(scope:Scope)(N':ar)(lq:Str)(fl c':ah)(cl:List (Str×ah))(σ:St)(s₁:ak)(H₁:Hp)(outer₁:List Env):Prop where
 obj:∃pm ctv,s₁.heap.get? fl=some (kla_obj "<lambda>" lq params body scope cl pm c' ctv)
 free:H₁ fl=none
 nfr:fl∉nI outer₁
 code:∃φ,H₁ c'=some (.ext φ)/\∀h:Heap,φ h->h.CodeRec (.ref c') lq
 inj:∀x y c,cl.lookup x=some c->cl.lookup y=some c->x=y
 has:∀x,scope.names.lookup x=some .free->∃c,cl.lookup x=some c
 cell:∀x c,cl.lookup x=some c->(∃v,s₁.heap.IsCell c v)/\H₁ c=none/\c∉nI outer₁
 val:∀(i:Nat) (x:Str) (v:V),N'[i]? =some x->σ[i]? =some (some v)->tK scope x->scope.names.lookup x=some .free/\∃c u,cl.lookup x=some c/\D1 v u/\s₁.heap.IsCell c (some u)
 len:σ.length=N'.length
def IA(P:af)(w:ag)(K:Frag)(mg:OI)(base:Heap)(kc:Nat)(fl:ah)(s₁:ak)(H₁:Hp)(outer₁:List Env)(o:Option Str)(G:Hp):Prop:=
 (∀(H':Hp) (s:ak),Un (nI outer₁) [] H₁ H' s₁.heap s.heap->CU fl s.heap)/\
 ∀(A:Around) (outer:List Env) (s:ak) (Q:VK) (E:XK),g9 kc A->p0 P w K mg base A outer s H₁->Un (nI outer₁) [] H₁ H₁ s₁.heap s.heap->
  (o=none->∀v G' H',Ev K M7 G [] [] H₁ G' [] [] H'->Q v H')->
  (∀n C,o=some n->nsIn K mainGlobals n=some (some (.ref C))->∀G' H',Ev K M7 G [] [] H₁ G' [] [] H'->E (.ref C) none H')->
  codeAny (model P w) A (.call (.ref fl) ⟨[],[]⟩) (CR (pD P w) outer P w H₁ s Q E) s
def outcome(names:ar)(mb:Mo D)(xb:Mx)(env:a9):Option (Option Str):=match xb env with
 |some n=>if names.contains n then some (some n)else none
 |none=>(mb env).map fun _=>none
theorem ZV{lq:Str}{c':ah}{H₁:Hp}{outer₁:List Env}{lw:a9}{mb:Mo D}{xb:Mx}
  (L:tQ K params body scope N' lq fl c' cl σ s₁ H₁ outer₁)(hk:scope.kind=.function)(hco:scope.isCoroutine=false)(hgen:scope.isGenerator=false)(hnc:∀x∈scope.names,x.2≠.cell)
  (hbind:∀pm ctv,bindArgs (kla_fn "<lambda>" lq params body scope cl pm (.ref c') ctv) ⟨[],[]⟩=pure [])
  (rl:Rel K (fun b=>H₁ b≠none) G σ lw H₁)(no:∀a,¬ d9 σ lw a){S:Str}(hex:AA K S names=true)(ho:outcome names mb xb lw=some o)
  (hb:∀(A:Around) (outer:List Env) (s:ak) (E:XK),g9 kc (A.deeper (envX lq scope s.heap.objs.size fl (.ref c') cl))->ED (BE P w K mg base N' lq scope fl (.ref c') cl A outer s H₁ E) (fun b=>H₁ b≠none) body mb)
  (hx:∀(A:Around) (outer:List Env) (s:ak) (E:XK),g9 kc (A.deeper (envX lq scope s.heap.objs.size fl (.ref c') cl))->vB (BE P w K mg base N' lq scope fl (.ref c') cl A outer s H₁ E) (fun b=>H₁ b≠none) E body xb):
  IA P w K mg base (kc+1) fl s₁ H₁ outer₁ o G:=by
 obtain⟨pm,ctv,hobj⟩:=L.obj;have hnc':∀x,scope.names.lookup x≠some .cell:=fun x z=>hnc _ (Zp z) rfl;refine⟨fun H' s un=>⟨_,_,un.keep fl _ hobj L.free L.nfr (by simp),rfl⟩,fun A outer s Q E hr e0 un hN hX=>?_⟩;have cellK:∀x c v,cl.lookup x=some c->s₁.heap.IsCell c v->s.heap.IsCell c v:=fun x c v e ⟨oc,h1,h2⟩=>⟨oc,un.keep c oc h1 (L.cell x c e).2.1 (L.cell x c e).2.2 (by simp),h2⟩;have hcd:s.heap.CodeRec (.ref c') lq:=by
  obtain⟨φ,h1,h2⟩:=L.code;exact h2 _ (e0.hok c' _ h1).1
 have lim:s.heap.NoLimit:=e0.mod.nolimit.keeps fun b o e=>(e0.bs b o e).1;refine kla_callFunE hr.depth (un.keep fl _ hobj L.free L.nfr (by simp)) rfl hco hgen rfl hcd ?_;rw[hbind];refine Qz (wpAny_newFunctionEnv hnc (fun x z=>by simp at z) (fun h₁ hns hsb=>⟨lim.fresh _ hsb,?_⟩) hk);show codeAny _ _ (.expr body (envX lq scope s.heap.objs.size fl (.ref c') cl)) _ _;have kp:∀b o,s.heap.get? b=some o->h₁.get? b=some o:=fun b o e=>hsb.extBut b o (Qd (Qu e)) (Qx _ e);have I:Inv (BE P w K mg base N' lq scope fl (.ref c') cl A outer s H₁ E) [] σ H₁ {s with heap:=h₁,toks:=s.toks+([]:List (Str×aj)).length}:=by
  refine ZU e0 hr.hd hk hnc' L.inj L.has (fun x c e=>?_) (fun i x v h1 h2 h3=>?_) L.len hns kp
  ·obtain⟨⟨v,z⟩,z2,_⟩:=L.cell x c e;exact⟨⟨v,cellK x c v e z⟩,z2⟩
  ·obtain⟨k,c,u,g1,g2,g3⟩:=L.val i x v h1 h2 h3;exact⟨k,c,u,g1,g2,cellK x c _ g1 g3⟩
 have side:∀{G' H':Hp}{σ':St}{lw':a9},Ev K (fun b=>H₁ b≠none) G σ lw H₁ G' σ' lw' H'->Ev K M7 G [] [] H₁ G' [] [] H':=fun ev=>Dh ev no (Mb rl);refine kla_codeExpr ?_;unfold outcome at ho;cases hxb:xb lw with
 |some n=>
  rw[hxb]at ho;dsimp only at ho;split at ho
  ·rename_i hn;cases ho;obtain⟨C,F⟩:=CT hex (by simpa using hn);exact Zj (hx A outer s E (hr.deeper _) [] _ σ H₁ (fun _ _=>False) I ⟨G,lw,n,rl,hxb,C,F.nm,fun σ' G' env' H' ev=>hX n C rfl F.nm G' H' (side ev)⟩) (fun v s' ⟨_,_,_,_,z⟩=>z.elim) fun _ _ z=>z
  ·cases ho
 |none=>
  rw[hxb]at ho;obtain⟨⟨d,lw'⟩,e1,e2⟩:=D9 ho;cases e2;refine Zj (hb A outer s E (hr.deeper _) [] _ σ H₁ Q I ⟨G,lw,d,lw',rl,e1,fun v G' H' ev rp=>hN rfl v G' H' (side ev)⟩) (fun v s' ⟨x,H',J,rv,z⟩=>?_) fun _ _ z=>z;exact⟨x,H',J.os,J.bare,J.base,J.hok,rv,z⟩
theorem ZW{c P:ah}{q:Str}(h1:codeHdIn K c P=true)(h2:codeIn K (.ref c) qual=true)(h3:rX K P q=true):q=qual:=by
 unfold codeHdIn at h1;unfold codeIn at h2;split at h1
 ·rename_i vs _ hk;have m:=Zb.mp h3 _ (mem_of_lookupK hk);simp only[hk]at h2;simp only[Qr]at h1;obtain⟨⟨⟨⟨⟨e1,_⟩,_⟩,_⟩,_⟩,_⟩:=h1
  replace m:((match (vs[11]? :Option aj)with|some (.ref P')=>P' !=P|_=>true)||(match vs.toList with|_::.str n _::_=>n==q|_=>false))=true:=by
   split at m
   ·rename_i heq;cases heq;exact m
   ·rename_i hne;exact absurd rfl (hne _ _ _)
  split at e1
  ·rename_i P' h11;have hP:P'=P:=Vn.mp e1;subst hP;rw[h11]at m;simp only[Rh,Bool.false_or]at m;split at h2
   ·rename_i n t r hl;simp only[hl]at m;rw[←Vn.mp m,←Vn.mp h2]
   ·cases h2
  ·cases e1
 ·cases h1
def Ae(mg:OI)(base:Heap):Prop:=∃bm o,mg "__builtins__"=some (.ref bm)/\bm≠builtinsNs/\bm≠mainGlobals/\base.get? bm=some o/\o.cls=.type "module"/\o.dict=some builtinsNs/\o.data=.plain
theorem ZX{l:ao}(h:TriplesOk l):l=[]\/ ∃a t b u d rest,l=.int a t::.int b u::d::rest/\TriplesOk rest:=by
 cases l with
 |nil=>exact .inl rfl
 |cons x l=>
  cases x<;>first|exact False.elim h|skip
  cases l with
  |nil=>exact False.elim h
  |cons y l=>
   cases y<;>first|exact False.elim h|skip
   cases l with
   |nil=>exact False.elim h
   |cons d rest=>exact .inr ⟨_,_,_,_,_,_,rfl,h⟩
theorem Mc{M:ao->Prop}(h0:M [])(h1:∀a t b u d rest,TriplesOk rest->M rest->M (.int a t::.int b u::d::rest))(l:ao)(h:TriplesOk l):M l:=by
 have:∀(n:Nat) (l:ao),l.length≤n->TriplesOk l->M l:=by
  intro n
  induction n with
  |zero=>
   intro l hl h;cases l with
   |nil=>exact h0
   |cons x l=>exact absurd hl (Nat.not_succ_le_zero _)
  |succ n ih=>
   intro l hl h;rcases ZX h with rfl|⟨a,t,b,u,d,rest,rfl,hr⟩
   ·exact h0
   ·exact h1 _ _ _ _ _ _ hr (ih rest (by simp only[Zd]at hl;omega) hr)
 exact this l.length l (Qy _) h
theorem ZY(l:ao){a b:Int}{t u:Tok}(h:TriplesOk l):TriplesOk (l++[.int a t,.int b u,c]):=
 Mc (M:=fun l=>TriplesOk (l++[.int a t,.int b u,c])) trivial (fun _ _ _ _ _ _ _ ih=>ih) l h
theorem ZZ(l:ao){pos':Pos}{v:aj}(hk:TriplesOk l):codeAmong pos' (l++[rawInt pos.line,rawInt pos.col,c])=some v->codeAmong pos' l=some v\/v=c:=by
 refine Mc (M:=fun l=>codeAmong pos' (l++[rawInt pos.line,rawInt pos.col,c])=some v->codeAmong pos' l=some v\/v=c) (fun h=>?_) (fun a t b u d rest _ ih h=>?_) l hk
 ·change (if(pos.line:Int)==pos'.line&&(pos.col:Int)==pos'.col then some c else none)=some v at h;split at h
  ·cases h;exact .inr rfl
  ·cases h
 ·change (if a==pos'.line&&b==pos'.col then some d else codeAmong pos' (rest++[rawInt pos.line,rawInt pos.col,c]))=some v at h;show(if a==pos'.line&&b==pos'.col then some d else codeAmong pos' rest)=some v\/v=c;split at h
  ·rename_i z;rw[Qg z];exact .inl h
  ·rename_i z;rw[Qb z];exact ih h
section
variable{P c:ah}{ps:az}
structure Made(X:Cx)(pins:OA)(σ:St)(H:Hp)(s:ak)(P:ah)(qual:Str)(params:Arguments)(body:Expr)(scope:Scope)(cl:List (Str×ah))(fl c':ah)(H1:Hp)(s1:ak):Prop where
 inv:Inv X pins σ H1 s1
 ev:∀(B:OE) (G:Hp) (env:a9),Rel X.K B G σ env H->Ev X.K B G σ env H G σ env H1
 obj:∃pm ctv,s1.heap.get? fl=some (kla_obj "<lambda>" (oG qual) params body scope cl pm c' ctv)
 new:s.heap.objs.size≤fl
 free:H1 fl=none
 code:H1 c'=some (p7 X.K P c')
 keep:∀b o,H b=none->s.heap.get? b=some o->s1.heap.get? b=some o/\H1 b=none
theorem aA{Q:OU}(I:Inv X pins σ H s)(hcode:X.env.code=.ref c)(hc:codeHdIn X.K c P=true)(hq:codeIn X.K (.ref c) qual=true)(htq:rX X.K P qual=true)(henv:X.env.qual=qual++".<locals>.")
  (bm:Ae X.mg X.base)(hP:H P=some (.tbl ps))(tabs:nD X.K H)(hcl:closureFor scope X.env=pure cl)(hdef:defaultsOf params X.env=([],[]))
  (h:∀fl c' H1 s1,Made X pins σ H s P qual params body scope cl fl c' H1 s1->Q (.ref fl) s1):wpAny M A (eval (.Lambda params body scope pos) X.env) Q E s:=by
 obtain⟨ht,hent⟩:=tabs P ps hP;have hPo:s.heap.get? P=some (tabObj ps):=I.hok P _ hP;have C:=codeHd_of_K I.kIn hc;have nbase:∀{b o},X.base.get? b=some o->b≠P:=fun{b o} e z=>by rw[z]at e;have:=(I.bs P o e).2;rw[hP]at this;cases this
 have hgs:s.heap.Ns mainGlobals X.mg:=I.mod.glob.keeps I.bk;have hgP:mainGlobals≠P:=by
  obtain⟨o,_,_,e,_⟩:=I.mod.glob;exact nbase e
 obtain⟨b,ob,b1,b2,b3,b4,b5,b6,b7⟩:=bm;have hB:s.heap.BuiltinsAt X.mg P:=⟨b,ob,b1,b2,b3,nbase b4,I.bk _ _ b4,b5,b6,b7⟩;have hlq:X.env.qual++"<lambda>"=oG qual:=by rw[henv];rfl
 refine kla_eval hdef ?_;rw[hlq];cases hca:codeAmong pos ps.toList with
 |some cv=>
  obtain⟨c',rfl,hc'⟩:=hent pos cv hca;refine kla_makeFunctionHit hcl I.ok.glob hgs hcode C hPo ht hca hB fun ctv h' tk hk hsz=>?_;have kp:∀b o,s.heap.get? b=some o->(h'.push ({cls:=.type "function",data:=.func (kla_fn "<lambda>" (oG qual) params body scope cl ((X.mg "__name__").getD .none) (.ref c') ctv)}:Obj)).get? b=some o:=fun b o e=>Qx _ (hk b o e);refine h h'.objs.size c' H _ ⟨?_,fun B G env rl=>.refl rl,⟨_,_,Qw _ rfl⟩,hsz,I.hok.fresh hsz,hc',fun b o n e=>⟨kp b o e,n⟩⟩;exact I.kept kp
 |none=>
  refine kla_makeFunction hcl I.ok.glob hgs hcode C hPo ht hca hgP hB fun c' ctv h' tk hx hge hlt hrec htb=>?_;have hfsz:s.heap.objs.size≤h'.objs.size:=Zy (Vm hge hlt);have o7:P≠c':=Qd (Ql (Qu hPo) hge);have hnc:H c'=none:=I.hok.fresh hge;have hcf:c'≠h'.objs.size:=Qd hlt;have hPf:P≠h'.objs.size:=Qd (Ql (Qu hPo) hfsz);have get1:∀{b},(upd (upd H P (.tbl (ps++ #[rawInt pos.line,rawInt pos.col,.ref c']))) c' (p7 X.K P c')) b=if b=c' then some (p7 X.K P c')else if b=P then some (.tbl (ps++ #[rawInt pos.line,rawInt pos.col,.ref c']))else H b:=fun{b}=>rfl
  have kp:∀b o,b≠P->s.heap.get? b=some o->(h'.push (kla_obj "<lambda>" (oG qual) params body scope cl ((X.mg "__name__").getD .none) c' ctv)).get? b=some o:=fun b o n e=>Qx _ (hx b o n e);have other:∀{b u},H b=some u->b≠P->(upd (upd H P (.tbl (ps++ #[rawInt pos.line,rawInt pos.col,.ref c']))) c' (p7 X.K P c')) b=some u:=fun{b u} e n=>by
   rw[C6 (L6 e hnc),C6 n];exact e
  have free1:∀{b o},H b=none->s.heap.get? b=some o->(upd (upd H P (.tbl (ps++ #[rawInt pos.line,rawInt pos.col,.ref c']))) c' (p7 X.K P c')) b=none:=fun{b o} n e=>by
   rw[C6 (Qd (Ql (Qu e) hge)),C6 (fun z=>by rw[z,hP]at n;cases n)];exact n
  have tab1:nD X.K (upd (upd H P (.tbl (ps++ #[rawInt pos.line,rawInt pos.col,.ref c']))) c' (p7 X.K P c')):=by
   intro P2 ps2 e2;rw[get1]at e2;split at e2
   ·cases e2
   ·split at e2
    ·rename_i z;subst z;cases e2;refine⟨by rw[Array.toList_append];exact ZY _ ht,fun p v e=>?_⟩;rw[Array.toList_append]at e;rcases ZZ _ ht e with q|q
     ·obtain⟨a,q1,q2⟩:=hent p v q;exact⟨a,q1,other q2 (fun z=>by rw[z,hP]at q2;cases q2)⟩
     ·exact⟨c',q,D7⟩
    ·obtain⟨q1,q2⟩:=tabs P2 ps2 e2;refine⟨q1,fun p v e=>?_⟩;obtain⟨a,q3,q4⟩:=q2 p v e;exact⟨a,q3,other q4 (fun z=>by rw[z,hP]at q4;cases q4)⟩
  have live1:∀b,H b≠none->(upd (upd H P (.tbl (ps++ #[rawInt pos.line,rawInt pos.col,.ref c']))) c' (p7 X.K P c')) b≠none:=fun b e=>by
   rw[get1];split
   ·simp
   ·split
    ·simp
    ·exact e
  refine h h'.objs.size c' _ _ ⟨?_,fun B G env rl=>?_,⟨_,_,Qw _ rfl⟩,hfsz,?_,D7,fun b o n e=>⟨kp b o (fun z=>by rw[z,hP]at n;cases n) e,free1 n e⟩⟩
  ·refine I.un (h':=h'.push (kla_obj "<lambda>" (oG qual) params body scope cl ((X.mg "__name__").getD .none) c' ctv)) (t':=tk) ⟨fun b o e n _ _=>?_,fun b o e n _ _=>⟨o.slots,?_⟩,fun b o e n _=>free1 n e,fun b o e _=>?_,fun b xs e=>?_,fun b o u e=>?_,fun b ps2 e=>?_⟩ fun b u e=>?_
   ·exact kp b o (fun z=>by rw[z,hP]at n;cases n) e
   ·exact kp b o (fun z=>by rw[z,hP]at n;cases n) e
   ·by_cases z:b=P
    ·subst z;exact⟨_,Qx _ htb⟩
    ·exact⟨o,kp b o z e⟩
   ·exact other e (fun z=>by rw[z,hP]at e;cases e)
   ·exact other e (fun z=>by rw[z,hP]at e;cases e)
   ·by_cases z:b=P
    ·subst z;rw[hP]at e;cases e;exact⟨#[rawInt pos.line,rawInt pos.col,.ref c'],by rw[C6 o7,D7]⟩
    ·exact⟨#[],by rw[other e z];simp⟩
   ·rw[get1]at e;split at e
    ·rename_i z;subst z;cases e;have hrec2:=hrec.push (kla_obj "<lambda>" (oG qual) params body scope cl ((X.mg "__name__").getD .none) b ctv);obtain⟨c2,oc,vs,t,e2,hoc,hd,hv⟩:=id hrec2;cases e2;refine⟨fun q hq2=>?_,⟨oc,hoc⟩,fun h1 h2 p k q hq2=>?_⟩
     ·rw[ZW hc hq hq2];exact hrec2
     ·obtain⟨c3,oc3,vs3,t3,e3,g1,g2⟩:=p q hq2;cases e3;exact⟨_,oc3,vs3,t3,rfl,k oc3 g1,g2⟩
    ·split at e
     ·rename_i z;subst z;cases e;exact Qx _ htb
     ·rename_i z1 z2;refine(I.hok b u e).stay (fun b2 o2 hb q=>kp b2 o2 (fun z=>?_) q) (fun b2 q=>other q (fun z=>by rw[z,hP]at q;cases q)) fun b2 xs q=>other q (fun z=>by rw[z,hP]at q;cases q);rcases hb with hb|hb
      ·exact z2 (hb.symm.trans z)
      ·rw[z,hP]at hb;cases hb
  ·refine⟨⟨fun b o e=>?_,rl.len,rl.dat,fun i wv ds e1 e2=>?_,rl.inj,rl.fresh,fun b hb=>live1 b (rl.old b hb),tab1,rl.gnt⟩,Le.refl,fun b o _ nt e=>?_,live1,fun b e _ g=>g,fun a z=>.inl z,fun i w e hp=>⟨rfl,w,e,hp⟩,rfl⟩
   ·exact other (rl.sub b o e) (fun z=>by have q:=rl.sub b o e;rw[z,hP]at q;cases q;exact rl.gnt b _ e _ rfl)
   ·obtain⟨a,xs,q1,q2,q3,q4⟩:=rl.own i wv ds e1 e2;exact⟨a,xs,q1,other q2 (fun z=>by rw[z,hP]at q2;cases q2;exact q3.nt _ rfl),q3,q4⟩
   ·exact other e (fun z=>by rw[z,hP]at e;cases e;exact nt _ rfl)
  ·rw[C6 (Za hcf),C6 (Za hPf)];exact I.hok.fresh hfsz
end
theorem aB{CX:tM}{f:ah}{name:Str}{body:List Stmt}{dV kV doc pm cdv ct oc:aj}{an:Option ah}
  {osl:Array (Option aj)}(lk:K.lookup f=some ⟨oc,od,.func (fnOf name qual params body scope dV kV doc pm an cdv ct),osl⟩)(hcd:codeIn K cdv qual=true)(S:c8 N ps scope)
  {outer:List Env}{args:Args}{us:ao}{vs:ba}{Q:VK}{E:XK}(hr:g9 (k+1) A)(e0:p0 P w K mg base A outer s H)(hb:BindsTo s (fnOf name qual params body scope dV kV doc pm an cdv ct) args (ps.zip us))(r:C7 vs us)(hl:vs.length=ps.length)
  (hbody:g9 k (A.deeper (envOfC qual scope s.heap.objs.size f cdv))->∃t,o8 (M4 CX P w K mg base N qual scope f cdv A outer s H E) body t/\t {nx:=fun _ H'=>Q .non H',rt:=Q} (start N vs) H):
  codeAny (model P w) A (.call (.ref f) args) (CR CX outer P w H s Q E) s:=by
 have KX:K.In s.heap:=e0.mod.kin.keeps fun b o e=>(e0.bs b o e).1;have lim:s.heap.NoLimit:=e0.mod.nolimit.keeps fun b o e=>(e0.bs b o e).1;have hkind:∀y∈ps.zip us,scope.names.lookup y.1=some .local\/(scope.names.lookup y.1=some .cell/\((cellsFrom (s.heap.objs.size+1) scope.names []).lookup y.1).isSome=true):=fun⟨n,v⟩ hy=>by
  rcases S.par n (Pb hy).1 with q|q
  ·exact .inl q
  ·exact .inr ⟨q,cellsFrom_some _ _ _ (.inl q)⟩
 refine codeAny_call_function hr.depth (KX _ _ lk) rfl S.co S.gen rfl (codeRec_of KX hcd) (hb _ _ _ _ ?_);refine wpAny_newFunctionEnv_cells S.kind hkind fun env he s1 x=>?_;subst he;refine⟨lim.keeps x.toInCall.keep,codeAny_func ?_⟩;obtain⟨t,ht,hq⟩:=hbody (hr.deeper _);have I:Inv (M4 CX P w K mg base N qual scope f cdv A outer s H E) [] (start N vs) H s1:=Kz S hr.hd e0 hl r x;refine Zj (ht [] s1 (start N vs) H _ I hq) (fun fl s' hs=>?_) fun e s' hs=>hs;have fin:∀{σ':St}{H':Hp}{v:V}{u:aj},Inv (M4 CX P w K mg base N qual scope f cdv A outer s H E) [] σ' H' s'->D1 v u->Q v H'->CE outer P w H s Q u s':=
  fun{σ' H' v u} J rv q=>⟨v,H',J.os,J.bare,J.base,J.hok,rv,q⟩
 cases fl with
 |ret u=>
  obtain⟨v,σ',H',J,rv,q⟩:=hs;exact fin J rv q
 |next=>
  obtain⟨σ',H',J,q⟩:=hs;exact fin (v:=V.non) (u:=Value.none) J rfl q
 |brk=>
  obtain⟨_,_,_,q⟩:=hs;exact False.elim q
 |cont=>
  obtain⟨_,_,_,q⟩:=hs;exact False.elim q
structure pS(P:af)(w:ag)(K:Frag)(mg:OI)(base:Heap)(x:Str)(k kc:Nat)(fr:Option Str->Option D):Prop where
 ex:∃f:ah,mg x=some (.ref f)/\keepIn K (.ref f)=true/\∀(A:Around) (outer:List Env) (s:ak) (H:Hp) (fl:ah) (o:Option Str) (G:Hp) (Q:VK),g9 k A->p0 P w K mg base A outer s H->IA P w K mg base kc fl s H outer o G->Rel K M7 G [] [] H->
  (∃d,fr o=some d/\∀v G' H',Ev K M7 G [] [] H G' [] [] H'->b0 K G' v d->Q v H')->codeAny (model P w) A (.call (.ref f) ⟨[.ref fl],[]⟩) (CR mZ outer P w H s Q E0) s
def IB(N:Nat)(mb:Option Str->Mo Fl)(o:Option Str):Option D:=match mb o (List.replicate N .nil)with
 |some (.ret d,_)=>some d
 |some (.nx,_)=>some .non
 |_=>none
theorem aC{B':OE}{σ':St}(rl:Rel K B G σ env H)(old:∀b,B' b->H b≠none):Rel K B' G σ' (List.replicate σ'.length .nil) H:=by
 have nn:∀{i:Nat}{w:W},(List.replicate σ'.length W.nil)[i]? =some w->w=.nil:=fun{i w} e=>by
  rw[Vg]at e;split at e
  ·cases e;rfl
  ·cases e
 exact⟨rl.sub,by simp,(fun i d e=>by cases nn e),(fun i w ds e1 e2=>by rw[nn e1]at e2;cases e2),(fun i j w w' ds es a e1 e2=>by rw[nn e1]at e2;cases e2),(fun i w a e eo=>by rw[nn e]at eo;cases eo),old,rl.tabs,rl.gnt⟩
theorem aD{n:Nat}:¬ d9 σ (List.replicate n .nil) a:=fun⟨i,w,ds,e1,e2,_⟩=>by
 rw[Vg]at e1;split at e1
 ·cases e1;cases e2
 ·cases e1
theorem aF{v:V}(h:1≤N.length):(start N [v]).length=N.length:=by
 unfold start;simp only[Zx,Qv,Yi,Zd,Uq];omega
theorem aG{p1:Str}{st:Stmt}{f:ah}{mb:Option Str->Mo Fl}(F:nJ K x qual st f fd)(S:c8 N [p1] (E5 st))(hm:mg x=some (.ref f))(hbi:Q7 K fd [p1] [])(hkc:kc≤k)
  (hb:∀(cdv:aj) (A:Around) (outer:List Env) (s:ak) (H:Hp) (E:XK) (fl:ah) (o:Option Str) (G:Hp),g9 k (A.deeper (envOfC qual (E5 st) s.heap.objs.size f cdv))->
   (∀pins σ H' s',Inv (M4 mZ P w K mg base N qual (E5 st) f cdv A outer s H E).nox pins σ H' s'->CU fl s'.heap)->Hx (M4 mZ P w K mg base N qual (E5 st) f cdv A outer s H E).nox (fun b=>H b≠none) fl o G->
   o8 (M4 mZ P w K mg base N qual (E5 st) f cdv A outer s H E).nox (W9 st) (fun D σ H'=>σ[0]? =some (some (.ref fl))/\H'=H/\∃env fw env',Rel K (fun b=>H b≠none) G σ env H'/\mb o env=some (fw,env')/\Post K (fun b=>H b≠none) G σ env H' env' D fw)):
  pS P w K mg base x (k+1) kc (IB N.length mb):=by
 have hN:1≤N.length:=by have:=Yz List.length S.pre;rw[Yr]at this;simp only[Zd,Uq]at this;omega
 refine⟨f,hm,F.kp,fun A outer s H fl o G Q hr e0 clo rl hfr=>?_⟩;obtain⟨oc,od,kV,doc,pm,an,cdv,ct,osl,rfl,lk,hcd⟩:=F.ex;obtain⟨d,hd,hQ⟩:=hfr;have KX:K.In s.heap:=e0.mod.kin.keeps fun b o e=>(e0.bs b o e).1;refine aB (us:=[.ref fl]) (vs:=[.ref fl]) lk hcd S hr e0 ?_ (.cons rfl .nil) rfl fun hr'=>?_
 ·have:=hbi s [.ref fl] KX rfl;simpa using this
 ·have un0:∀{pins:OA}{σ:St}{H':Hp}{s':ak},Inv (M4 mZ P w K mg base N qual (E5 st) f cdv A outer s H E0).nox pins σ H' s'->Un (nI outer) [] H H' s.heap s'.heap:=fun I=>I.base;have q:=hb cdv A outer s H E0 fl o G hr' (fun pins σ H' s' I=>clo.1 H' s' (un0 I)) (fun pins s' σ env Q' E' I rl' hN' hX'=>?_)
  ·refine⟨_,q.nox,?_⟩;have rl0:Rel K (fun b=>H b≠none) G (start N [.ref fl]) (List.replicate N.length .nil) H:=by
    have:=aC (B':=fun b=>H b≠none) (σ':=start N [.ref fl]) rl (fun b h=>h)
    rwa [aF hN]at this
   have side:∀{G' H':Hp}{σ':St}{env':a9},Ev K (fun b=>H b≠none) G (start N [.ref fl]) (List.replicate N.length .nil) H G' σ' env' H'->Ev K M7 G [] [] H G' [] [] H':=fun ev=>Dh ev (fun a=>aD) rl;unfold IB at hd;split at hd
   ·rename_i d' env' em;cases hd;exact⟨by rw[Z8 (by simp)];rfl,rfl,_,_,env',rl0,em,fun v σ' G' H' ev rp=>hQ v G' H' (side ev) rp⟩
   ·rename_i env' em;cases hd;exact⟨by rw[Z8 (by simp)];rfl,rfl,_,_,env',rl0,em,fun σ' G' H' ev=>hQ .non G' H' (side ev) (by simp only[b0])⟩
   ·cases hd
  ·exact clo.2 _ _ s' Q' E' (hr'.mono hkc) I.pL (un0 I) (fun z v G' H' ev=>hN' z v G' H' (Dh ev (fun a=>Hz) rl')) fun n C z hC G' H' ev=>hX' n C z hC G' H' (Dh ev (fun a=>Hz) rl')
def aH(k:Bool)(w:W):W:=if k then(match w with|.dat d=>.dat d|_=>.nil)else .nil
def BF(keep:ay)(env:a9):a9:=List.zipWith aH keep env
theorem IC{keep:ay}{w:W}(h:(BF keep env)[i]? =some w)(hw:w≠.nil):∃d,w=.dat d/\keep[i]? =some true/\env[i]? =some (.dat d):=by
 unfold BF at h;rw[Ja]at h;cases e1:keep[i]? with
 |none=>rw[e1]at h;cases h
 |some k=>
  cases e2:env[i]? with
  |none=>rw[e1,e2]at h;cases h
  |some w0=>
   rw[e1,e2]at h;cases k with
   |false=>cases h;exact absurd rfl hw
   |true=>
    cases w0 with
    |dat d=>cases h;exact⟨d,rfl,rfl,rfl⟩
    |nil=>cases h;exact absurd rfl hw
    |own _=>cases h;exact absurd rfl hw
    |par _=>cases h;exact absurd rfl hw
    |ownD _ _=>cases h;exact absurd rfl hw
    |parD _ _=>cases h;exact absurd rfl hw
    |ownX _ _=>cases h;exact absurd rfl hw
    |parX _ _=>cases h;exact absurd rfl hw
theorem aI{keep:ay}(rl:Rel K B G σ env H)(hk:keep.length=σ.length):Rel K (fun b=>H b≠none) G (N0 keep 0 σ) (BF keep env) H:=by
 have nm:∀(w:W) (es:Mu),w.mut=some es->w≠.nil:=fun w es h z=>by rw[z]at h;cases h
 have no:∀(i:Nat) (w:W) (ds:Mu),(BF keep env)[i]? =some w->w.mut=some ds->False:=fun i w ds e1 e2=>by
  obtain⟨d,z,_⟩:=IC e1 (nm w ds e2);rw[z]at e2;cases e2
 refine⟨rl.sub,?_,fun i d e=>?_,fun i w ds e1 e2=>(no i w ds e1 e2).elim,fun i j w w' ds es a e1 e2=>(no i w ds e1 e2).elim,fun i w a e eo=>(let ⟨m,q⟩:=oR eo;no i _ m e q).elim,fun b h=>h,rl.tabs,rl.gnt⟩
 ·unfold BF N0;rw[Zx,Jw,Jw,Yi,rl.len];rfl
 ·obtain⟨d',z,k1,k2⟩:=IC e (by simp);cases z;obtain⟨v,e1,e2⟩:=rl.dat i d k2;exact⟨v,DS k1 e1,e2⟩
theorem aJ{keep:ay}:¬ d9 σ (BF keep env) a:=fun⟨i,w,ds,e1,e2,_⟩=>by
 have:w≠.nil:=fun z=>by rw[z]at e2;cases e2
 obtain⟨d,z,_⟩:=IC e1 this;rw[z]at e2;cases e2
def X6(names:ar)(keep:ay)(mb:Mo D)(xb:Mx)(fr:Option Str->Option D):Mo D:=fun env=>(outcome names mb xb (BF keep env)).bind fun o=>(fr o).map fun d=>(d,env)
structure sZ(K:Frag)(mg:OI)(base:Heap)(cd:aj)(qual:Str)(P:ah):Prop where
 ex:∃c,cd=.ref c/\codeHdIn K c P=true/\codeIn K (.ref c) qual=true
 tq:rX K P qual=true
 bm:Ae mg base
section
variable{S:Str}{fr:Option Str->Option D}{P:ah}{keep:ay}{mb:Mo D}{xb:Mx}{p lpos:Pos}{ps0:az}
theorem ID(Rd:pS X.prog X.w X.K X.mg X.base x k (kc+1) fr)(hr:g9 k X.A)(hg:Gl X x)(T:sZ X.K X.mg X.base X.env.code qual P)(hq:X.env.qual=qual++".<locals>.")(hP:X.H₀ P=some (.tbl ps0))(hfn:∀y,X.fn y=true)(hx:AA X.K S names=true)
  (ok:mY X N' scope keep 0)(hco:scope.isCoroutine=false)(hgen:scope.isGenerator=false)(hnc:∀x∈scope.names,x.2≠.cell)(hdef:defaultsOf params X.env=([],[]))
  (hbind:∀cl pm c' ctv,bindArgs (kla_fn "<lambda>" (oG qual) params body scope cl pm (.ref c') ctv) ⟨[],[]⟩=pure [])
  (hb:∀(fl c':ah) (cl:List (Str×ah)) (H₁:Hp) (A:Around) (outer:List Env) (s:ak) (E:XK),g9 kc (A.deeper (envX (oG qual) scope s.heap.objs.size fl (.ref c') cl))->ED (BE X.prog X.w X.K X.mg X.base N' (oG qual) scope fl (.ref c') cl A outer s H₁ E).nox (fun b=>H₁ b≠none) body mb)
  (hxb:∀(fl c':ah) (cl:List (Str×ah)) (H₁:Hp) (A:Around) (outer:List Env) (s:ak) (E:XK),g9 kc (A.deeper (envX (oG qual) scope s.heap.objs.size fl (.ref c') cl))->vB (BE X.prog X.w X.K X.mg X.base N' (oG qual) scope fl (.ref c') cl A outer s H₁ E) (fun b=>H₁ b≠none) E body xb)
  (hdb:(x==("__debug__":Str))=false:=by decide)(he:starEach [.Lambda params body scope lpos] X.env=(false,eval (.Lambda params body scope lpos) X.env)::starEach [] X.env:=by rfl)(hpl:(backTo pos (starEach [] X.env)).any (·.1)=false:=by rfl):
  ED X B (.Call (.Name x p) [.Lambda params body scope lpos] [] pos) (X6 names keep mb xb fr):=by
 intro pins s σ H Q I ⟨G,env,d,env',rl,em,k⟩;obtain⟨o,eo,e2⟩:=B9 em;obtain⟨d',ed,e3⟩:=D9 e2;cases e3;obtain⟨f,hm,hkp,t7⟩:=Rd.ex;obtain⟨more,hPs⟩:=I.base.tbls P ps0 hP;obtain⟨c,hcd,hc1,hc2⟩:=T.ex;refine Vh (DB I hg hm ?_ hdb);refine callWith_K (h₀:=X.base) I.ok.mod.kin hkp ?_ he hpl;rw[he];show wpAny _ _ (spliced ((false,eval (.Lambda params body scope lpos) X.env)::backTo pos (starEach [] X.env))) _ _ s;refine Calls.spliced_cons (aA I hcd hc1 hc2 T.tq hq T.bm hPs rl.tabs ok.clos hdef fun fl c' H1 s1 Md=>?_);refine Calls.spliced_nil ⟨Md.inv.kIn,?_⟩;have j3:=Md.ev B G env rl;have kl:keep.length=σ.length:=by rw[ok.klen,I.len]
 have stk:∀{b},b∈nI X.stack->b<s.heap.objs.size:=fun{b} hb=>by obtain⟨_,o,g,_⟩:=I.stack.mem hb;exact Qu g
 have L:tQ X.K params body scope N' (oG qual) fl c' (M9 X.env.cells scope.names []) (N0 keep 0 σ) s1 H1 X.stack:=by
  have sub:∀{y c},(M9 X.env.cells scope.names []).lookup y=some c->X.env.cells.lookup y=some c:=fun{y c} z=>(Au z).elim (fun q=>by cases q) id;refine⟨Md.obj,Md.free,fun z=>absurd (stk z) (Pm.mpr Md.new),⟨_,Md.code,fun h p=>p qual T.tq⟩,fun y z c q1 q2=>I.ok.inj y z c (sub q1) (sub q2),fun y z=>Yy.mp (BZ (Zp z) (ok.free _ (Zp z) rfl)),fun y c q=>?_,fun i y v q1 q2 q3=>?_,?_⟩
  ·obtain⟨v,oc,g1,g2⟩:=I.cell y c (sub q);have g:=Md.keep c oc (I.freeC y c (sub q)) g1;refine⟨⟨v,oc,g.1,g2⟩,g.2,fun z=>?_⟩;rcases Qp.mp (I.stkSub c z)with z|z
   ·exact I.cne y c (sub q) z
   ·obtain⟨_,o2,g3,_⟩:=I.ok.funs.mem z;exact absurd (Qu g3) (Pm.mpr (I.ok.cab y c (hfn y) (sub q)))
  ·obtain⟨k1,k2⟩:=Ba q2;obtain⟨h1,h2,h3⟩:=ok.kept i y k1 q1;have hfree:scope.names.lookup y=some .free:=by
    rcases q3 with z|z|z
    ·exact absurd z h2
    ·exact absurd z h3
    ·exact z
   obtain⟨m,hn,hl⟩:=I.loc;have ov:=ok.outVis i y k1 h1 hfree;obtain⟨u,r,l⟩:=hl i y v h1 k2 (.inr ov);obtain⟨c0,hc0⟩:=Yy.mp (BZ (acc:=[]) (Zp hfree) (ok.free _ (Zp hfree) rfl));refine⟨hfree,c0,u,hc0,r,?_⟩;rcases l with⟨kl,_⟩|⟨_,c1,hc1,oc,g1,g2⟩
   ·have kl':X.env.scope.names.lookup y=some .local:=kl;rcases ov with z|z<;>(rw[z]at kl';cases kl')
   ·have hc0':=sub hc0;rw[hc1]at hc0';cases hc0';exact⟨oc,(Md.keep c0 oc (I.freeC y c0 (sub hc0)) g1).1,g2⟩
  ·unfold N0;rw[Zx,Jw,Yi,ok.len,ok.klen,I.len];omega
 have clo:IA X.prog X.w X.K X.mg X.base (kc+1) fl s1 H1 X.stack o G:=
  ZV L ok.kind hco hgen hnc (fun pm ctv=>hbind _ pm c' ctv) (aI j3.rel kl) (fun a=>aJ) hx eo (fun A outer s E hr=>(hb fl c' _ H1 A outer s E hr).nox) (fun A outer s E hr=>hxb fl c' _ H1 A outer s E hr)
 refine wpAny_call (Vx (t7 X.A X.stack s1 H1 fl o G Q hr Md.inv.pL clo (Mb j3.rel) ⟨_,ed,fun v G' H' ev rp=>k v G' H' (j3.trans (Dh ev (fun a=>Hz) j3.rel)) rp⟩) fun r s' hq=>?_);cases r with
 |error e=>exact False.elim hq
 |ok fw=>
  cases fw with
  |ret u=>exact Md.inv.after hq
  |next=>exact False.elim hq
  |brk=>exact False.elim hq
  |cont=>exact False.elim hq
end
def Me(ts:List ah)(H:Hp):Prop:=∀P∈ts,∃ps,H P=some (.tbl ps)
def uM(K:Frag)(ts:List ah)(n:Nat)(f:Fn):Sp:=fun vs H Q E=>Me ts H/\nY K n f vs H Q E
theorem aK{st:Stmt}{f:ah}{mb:Mo Fl}{cdv0:aj}(F:nJ K x qual st f fd)(hcd0:fd.code=cdv0)(S:c8 N ps (E5 st))
  (hb:∀(A:Around) (outer:List Env) (s:ak) (H:Hp) (E:XK),Me ts H->g9 k (A.deeper (envOfC qual (E5 st) s.heap.objs.size f cdv0))->
   sP (M4 mZ P w K mg base N qual (E5 st) f cdv0 A outer s H E).nox (fun b=>H b≠none) (W9 st) mb):i4 P w K mg base mZ (k+1) f fd ps (uM K ts ps.length (nP N.length mb)):=by
 have hpl:ps.length≤N.length:=by have:=Yz List.length S.pre;rw[Yr]at this;omega
 obtain⟨oc,od,kV,doc,pm,an,cdv,ct,osl,rfl,lk,hcd⟩:=F.ex;obtain rfl:cdv=cdv0:=hcd0;refine Gq lk hcd S (fun vs H Q E h=>?_) (fun A outer s H vs Q E hr h=>?_)
 ·obtain⟨_,G,ws,r,ws',hl,ok,rl,_⟩:=h;have:=rl.len;rw[Qv]at this;omega
 ·obtain⟨tb,G,ws,r,ws',hl,ok,rl,e,k⟩:=h;have hv:ws.length=vs.length:=by have:=rl.len;rwa [Qv]at this
  refine⟨_,(hb A outer s H E tb hr).nox,?_⟩;have rl':=HN (N:=N) rl ok (by omega);unfold nP at e;split at e
  ·rename_i d env em;cases e;refine⟨G,_,_,env,rl',em,?_⟩;exact fun v σ' G' H' ev rp=>k v G' H' (BY rl ok (by omega) ev) rp
  ·rename_i ds env em;cases e;refine⟨G,_,_,env,rl',em,?_⟩;intro a xs σ' G' H' ev nb no h' g' rp;refine k a xs G' H' (BY rl ok (by omega) ev) (Jy nb) ?_ h' g' rp;rintro⟨i,w',es,e1,e2,e3⟩;obtain⟨w1,w2,q1,q2,q3⟩:=FL e1;subst q3;obtain⟨q4,q5,q6,q7⟩:=HQ (ok _ (Vz q1)) e2;have hi:i<vs.length:=by have:=(Qc.mp q1).1;omega
   exact no ⟨i,_,es,q2,q4,by rw[(ev.par i w2 q2 q5).1,Z8 hi];exact e3⟩
  ·rename_i env em;cases e;refine⟨G,_,_,env,rl',em,?_⟩;exact fun σ' G' H' ev=>k .non G' H' (BY rl ok (by omega) ev) (by simp only[b0])
  ·cases e
theorem aL{mb:OI}{fa:ah}{vs:ao}{ns:aq}
  (KX:K.In s₁.heap)(hnt:noTabs K=true)(hts:∀p∈ts,s₁.heap.get? p=some (tabObj #[]))(hcs:∀p∈ts,∃c,codeHdIn K c p=true)(hns:s₁.heap.Ns mainGlobals mg)(hb:s₁.heap.Ns builtinsNs mb)(hbb:∀x:Str,x≠"__name__"->mb x=bootBuiltins x)(hlim:s₁.heap.NoLimit)(hbm:Ae mg s₁.heap)(hg:s₁.gens= #[])
  (ha:s₁.heap.get? a=some {cls:=.type "list",data:=.seq vs.toArray})(hi:IntsAre vs ns)(hl:ns.length≤sizeLine)(hr:g9 k callerA)
  (F:∀base:Heap,K.In base->base.Ns mainGlobals mg->Ae mg base->i4 P w K mg base mZ k fa fd [x] (uM K ts 1 fn))(hbind:∀(s:ak) (u:aj),BindsTo s fd ⟨[u],[]⟩ [(x,u)])
  (ht:∃ws',fn [.dat (.lst (ns.map D.int))]=some (.d (.bl true),ws')):
  codeAny (model P w) callerA (.call (.ref fa) ⟨[.ref a],[]⟩) (fun r s'=>r=.ok (.ret (.bool true))/\OldK s₁.heap s'.heap/\s'.os=s₁.os/\AllBare s'.gens) s₁:=by
 have rv:=LM hi;have lenV:=hi.length;have nat:a∉ts:=fun z=>by have:=hts a z;rw[ha]at this;cases this
 have kno:∀{b:ah}{o:Obj},K.lookup b=some o->b∉ts:=fun{b o} e z=>by
  have h2:=Zb.mp hnt (b,o) (mem_of_lookupK e);have h3:=KX b o e;rw[hts b z]at h3;cases h3;cases h2
 have core:∀(H:Hp),(∀b,H b=none\/(b=a/\∃o xs,H b=some (.frz o (.lst xs)))\/(b∈ts/\H b=some (.tbl #[])))->(∀b∈ts,H b=some (.tbl #[]))->nT K H a (ns.map V.int)->nX P w H s₁.heap->(H a≠none->K.lookup a=none)->
   codeAny (model P w) callerA (.call (.ref fa) ⟨[.ref a],[]⟩) (fun r s'=>r=.ok (.ret (.bool true))/\OldK s₁.heap s'.heap/\s'.os=s₁.os/\AllBare s'.gens) s₁:=by
  intro H hO hT hS hok hK;have base_of:∀{b:ah}{o:Obj},s₁.heap.get? b=some o->H b=none->(Z2 s₁.heap H).get? b=some o:=fun e n=>SQ e n;have noA:∀{b:ah}{o:Obj},s₁.heap.get? b=some o->o.cls≠.type "list"->o.cls≠.none->H b=none:=fun{b o} e d1 d2=>by
   rcases hO b with q|⟨q,_⟩|⟨q,_⟩
   ·exact q
   ·subst q;rw[ha]at e;cases e;exact absurd rfl d1
   ·rw[hts b q]at e;cases e;exact absurd rfl d2
  have noD:∀{b:ah}{o:Obj}{es:Array ae}{ep:Nat},s₁.heap.get? b=some o->o.data=.dict es ep->H b=none:=fun{b o es ep} e d=>by
   rcases hO b with q|⟨q,_⟩|⟨q,_⟩
   ·exact q
   ·subst q;rw[ha]at e;cases e;cases d
   ·rw[hts b q]at e;cases e;cases d
  have nsK:∀{b:ah}{m:OI},s₁.heap.Ns b m->(Z2 s₁.heap H).Ns b m:=fun{b m} ⟨o,es,ep,e,d,r⟩=>⟨o,es,ep,base_of e (noD e d),d,r⟩;have hKb:K.In (Z2 s₁.heap H):=fun b o e=>base_of (KX b o e) (by
   rcases hO b with q|⟨q,o',xs,z⟩|⟨q,_⟩
   ·exact q
   ·subst q;rw[hK (by rw[z];simp)]at e;cases e
   ·exact absurd q (kno e))
  have hM:Mod K mg (Z2 s₁.heap H):=⟨hKb,nsK hns,⟨mb,nsK hb,hbb⟩,let ⟨mc,h1,h2⟩:=hlim;⟨mc,nsK h1,h2⟩⟩;have hBm:Ae mg (Z2 s₁.heap H):=by
   obtain⟨bm,o,b1,b2,b3,b4,b5,b6,b7⟩:=hbm;exact⟨bm,o,b1,b2,b3,base_of b4 (noA b4 (by rw[b5];simp) (by rw[b5];simp)),b5,b6,b7⟩
  have e0:p0 P w K mg (Z2 s₁.heap H) callerA [] s₁ H:=⟨rfl,hM,fun b o e=>SR e,Vv (SO _ _),trivial,fun b hb=>absurd (show b∈([]:List ah)from hb) (by simp),hok,.of_eq hg⟩;have sp:uM K ts 1 fn [.ref a] H (fun v _=>v=.bl true) (fun _ _ _=>False):=by
   obtain⟨ws',e⟩:=ht;refine⟨fun p hp=>⟨#[],hT p hp⟩,fun b=>if b∈ts then none else H b,[.dat (.lst (ns.map D.int))],.d (.bl true),ws',rfl,fun v hv=>.inl ?_,⟨fun b o z=>?_,rfl,fun i d z=>?_,fun i v ds e1 e2=>?_,fun i j v v' ds es a e1 e2=>?_,fun i w a e1 e2=>?_,fun b h=>h.elim,fun p ps z=>?_,fun b o z ps y=>?_⟩,e,?_⟩
   ·simp at hv;exact⟨_,hv⟩
   ·split at z
    ·cases z
    ·exact z
   ·cases i with
    |zero=>
     simp at z;subst z;refine⟨.ref a,rfl,?_⟩;simp only[b0];refine⟨a,_,rfl,?_,DW ns⟩;rcases hS with(q|⟨o,q⟩)|q
     ·exact .inl (.inl ((Qb nat).trans q))
     ·exact .inl (.inr ⟨o,(Qb nat).trans q⟩)
     ·exact .inr q
    |succ i=>simp at z
   ·cases i with
    |zero=>simp at e1;subst e1;cases e2
    |succ i=>simp at e1
   ·cases i with
    |zero=>simp at e1;subst e1;cases e2
    |succ i=>simp at e1
   ·cases i with
    |zero=>simp at e1;subst e1;cases e2
    |succ i=>simp at e1
   ·rcases hO p with q|⟨_,o,xs,q⟩|⟨_,q⟩
    ·rw[q]at z;cases z
    ·rw[q]at z;cases z
    ·rw[q]at z;cases z;exact⟨trivial,fun pos v y=>by cases y⟩
   ·split at z
    ·cases z
    ·rename_i hb;rcases hO b with q|⟨_,o',xs,q⟩|⟨q,_⟩
     ·rw[q]at z;cases z
     ·rw[q]at z;cases z;cases y
     ·exact hb q
   ·intro v G' H' _ rp;simpa only[b0]using rp
  refine Vx ((F _ hKb (nsK hns) hBm).run callerA [] s₁ H ⟨[.ref a],[]⟩ [.ref a] [.ref a] _ _ hr e0 (hbind s₁ (.ref a)) (.cons rfl .nil) sp) fun r s' h=>?_;cases r with
  |error e=>exact False.elim h
  |ok fl=>
   cases fl with
   |next=>exact False.elim h
   |brk=>exact False.elim h
   |cont=>exact False.elim h
   |ret u=>
    obtain⟨v,H',os,bare,un,hok',r',q⟩:=h;have q':v=.bl true:=q;subst q';obtain rfl:u=Value.bool true:=r';refine⟨rfl,⟨fun b o e=>?_,fun b o e=>un.there b o e (by simp)⟩,os,bare⟩;rcases hO b with q|⟨_,ob,xs,z⟩|⟨hb,z⟩
    ·exact .inl (un.keep b o e q (by intro z;exact absurd (show b∈([]:List ah)from z) (by simp)) (by simp))
    ·have z2:=un.frzs b ob _ z;obtain⟨e1,_⟩:=hok b _ z;obtain⟨e2,_⟩:=hok' b _ z2;rw[e]at e1;cases e1;exact .inl e2
    ·obtain⟨more,z2⟩:=un.tbls b #[] z;have e2:s'.heap.get? b=some {cls:=.none,data:=.fields (#[]++more)}:=hok' b _ z2;have e3:=hts b hb;rw[e]at e3;cases e3;obtain⟨c,hc⟩:=hcs b hb;exact .inr (.inl ⟨((codeHd_of_K KX hc).tab (hts b hb)).isCodeTable,rfl,#[],more,rfl,e2⟩)
 cases hk:K.lookup a with
 |some o=>
  have e:=KX a o hk;rw[ha]at e;cases e;refine core (fun b=>if b∈ts then some (.tbl #[])else none) (fun b=>?_) (fun b hb=>Qg hb) (.inr ⟨_,vs.toArray,_,hk,rfl,rfl,rfl,by rw[Qh,lenV];exact hl,by simpa using rv⟩) (fun b u z=>?_) fun z=>absurd (Qb nat) z
  ·by_cases hb:b∈ts
   ·exact .inr (.inr ⟨hb,Qg hb⟩)
   ·exact .inl (Qb hb)
  ·dsimp only at z;split at z
   ·rename_i hb;cases z;exact hts b hb
   ·cases z
 |none=>
  refine core (fun b=>if b=a then some (.frz {cls:=.type "list",data:=.seq vs.toArray} (.lst (ns.map V.int)))else if b∈ts then some (.tbl #[])else none) (fun b=>?_) (fun b hb=>by
   have hne:b≠a:=fun z=>nat (by rw[←z];exact hb);show(if b=a then _ else if b∈ts then _ else _)=_;rw[Qb hne,Qg hb]) (.inl (.inr ⟨{cls:=.type "list",data:=.seq vs.toArray},Qg rfl⟩)) (fun b u z=>?_) fun _=>hk
  ·by_cases hb:b=a
   ·exact .inr (.inl ⟨hb,_,_,Qg hb⟩)
   ·by_cases hb2:b∈ts
    ·exact .inr (.inr ⟨hb2,by rw[Qb hb,Qg hb2]⟩)
    ·exact .inl (by rw[Qb hb,Qb hb2])
  ·dsimp only at z;split at z
   ·rename_i hb;cases z;subst hb;exact⟨ha,by rw[Qv];exact hl,vs,_,rv,ha⟩
   ·split at z
    ·rename_i hb;cases z;exact hts b hb
    ·cases z
theorem aM{l:OpenLaw}{q:af}{loose:ar}{XP:(OI)->Heap->Prop}{YP:ag->Heap->Prop}{d:DefRec}{K:Params->Frag}
  (hn:l.most=some 63)(hdf:d.params.defaults=[])(hr:g9 k callerA)(hY:∀(w:ag) (h:Heap),YP w h->(K w.params).In h/\∀p∈ts,h.get? p=some (tabObj #[]))
  (F:∀(w:ag) (mg:OI) (fa:ah) (h:Heap),(K w.params).In h->h.Ns mainGlobals mg->mg d.name=some (.ref fa)->
   ∃fd:FuncData,(∀(s:ak) (u:aj),BindsTo s fd ⟨[u],[]⟩ [(x,u)])/\noTabs (K w.params)=true/\(∀p∈ts,∃c,codeHdIn (K w.params) c p=true)/\∀base:Heap,(K w.params).In base->base.Ns mainGlobals mg->Ae mg base->i4 l.prog w (K w.params) mg base mZ k fa fd [x] (uM (K w.params) ts 1 fn))
  (ht:∀ns:aq,ns.length≤63->∃ws',fn [.dat (.lst (ns.map D.int))]=some (.d (.bl true),ws')):
  WalkO q loose XP YP l.row.toRowW d [] (fun f vs=>PySem.call f vs):=by
 refine Att.p6 hn hdf fun w s₀ s₁ mg mb fa o pm cd doc a vs ns G Y ho hd hcd hmg hobj hints hlen hg=>?_;obtain⟨KX,hT⟩:=hY w _ Y;obtain⟨fd,hb,hnt,hcs,hF⟩:=F w mg fa _ KX G.T.g hmg;have hbm:Ae mg s₁.heap:=by
  obtain⟨bm,ob,b1,b2,b3,b4,b5,b6⟩:=G.T.bmain;refine⟨bm,ob,b1,b2,fun z=>?_,b3,b4,b5,b6⟩;obtain⟨o,es,ep,e,hd,_⟩:=G.T.g;rw[z,e]at b3;cases b3;rw[hd]at b6;cases b6
 exact aL KX hnt hT hcs G.T.g G.T.b G.T.builtins G.T.nolimit hbm hg hobj hints (Qn hlen (by decide)) hr hF hb (ht ns hlen)
theorem aN{S:Str}(h:AA K S names=true)(hn:n∈names):BC K n=true:=let ⟨_,F⟩:=CT h hn;F.one
def Fe(K:Frag)(cd:aj)(P:ah):Bool:=match cd with
 |.ref c=>codeHdIn K c P
 |_=>false
theorem Mf{P:ah}(h:Fe K cd P=true):∃c,cd=.ref c/\codeHdIn K c P=true:=by
 unfold Fe at h;split at h
 ·exact⟨_,rfl,h⟩
 ·cases h
theorem aO{P:ah}(h1:Fe K cd P=true)(h2:codeIn K cd qual=true)(h3:rX K P qual=true)(hb:Ae mg base):sZ K mg base cd qual P:=by
 obtain⟨c,rfl,hc⟩:=Mf h1;exact⟨⟨c,rfl,hc,h2⟩,h3,hb⟩
end L2.Mir
namespace L2.Mir
open PySem PySem.Spec PyProof.Rows PySem.W
variable{i j k:Int}{n:Nat}{p1:Pos}{r:ah}{u v:Tok}
def pT:bb->Option ay
 |[]=>some []
 |.bl i::r=>(pT r).map fun l=>i::l
 |_::_=>none
theorem Mg{K:Qj}{G:Hp}:∀{ds:bb}{xs:ba}{ns:ay},B4 K G xs ds->pT ds=some ns->xs=ns.map V.bl
 |[],_,ns,r,e=>by simp only[B4]at r;subst r;cases e;rfl
 |d::ds,_,ns,r,e=>by
  simp only[B4]at r;obtain⟨x,t,rfl,q,r⟩:=r;cases d<;>first|(exact absurd (show(none:Option ay)=some ns from e) (by simp))|skip
  obtain⟨l,e1,e2⟩:=D9 (show(pT ds).map _=some ns from e);subst e2;simp only[b0]at q;subst q;rw[Mg r e1];rfl
def IE:D->D->Option D
 |.lst ds,.bl b=>(pT ds).bind fun bs=>(bs.findIdx? fun y=>y==b).map fun(j:Nat)=>D.int (j:Int)
 |_,_=>none
section
variable{X:Cx}{B:OE}{pos:Pos}{o e:Expr}{ma mb:Mo D}
theorem aP(ns:ay):(ns.map V.bl).all W8=true:=by
 induction ns with
 |nil=>rfl
 |cons n ns ih=>simp[W8,ih]
def aQ(K:Frag):V->ba->Hp->VK->Prop:=fun x vs H Q=>∃(p:ah) (bs:ay) (b:Bool) (j:Nat),x=.ref p/\vs=[.bl b]/\nT K H p (bs.map V.bl)/\(bs.findIdx? fun y=>y==b)=some j/\Q (.int j) H
theorem aR:uD X "list.index" (aQ X.K):=by
 intro pins s σ H x vs v us Q I rx rv h;obtain⟨p,bs,b,j,rfl,rfl,hq,hj,q⟩:=h;cases rx;obtain⟨u,rfl,ru⟩:=rv.one;have ru':=ru;cases ru;obtain⟨its,r,pl,hz⟩:=I.list hq;obtain⟨⟨oc,od,odt,osl⟩,n,e,hc,hd,hdt⟩:=pl;dsimp only at hc hd hdt;subst hc hd hdt;obtain⟨hjl,hj1,hj2⟩:=Ts.mp hj;have hlen:its.length=bs.length:=by have:=r.length;simpa using this.symm
 have item:∀(m:Nat) (hm:m<its.length),its[m]=.bool (bs[m]'(by omega)):=fun m hm=>by
  obtain⟨u,h1,h2⟩:=r.get (i:=m) (x:=.bl (bs[m]'(by omega))) (by simp[show m<bs.length by omega]);rw[Qe hm]at h1;cases h1;exact h2
 refine call_meets PySem.F.slot_list_index ⟨_,e,rfl⟩ PySem.F.entry_list_index (PySem.F.args_list_index_2 _ _)
  (SeqAt.list_indexAt p its.toArray n none osl (.bool b) (sN (.bl b)) j (by simpa using (by omega:j<its.length)) ?_ ?_ ?_) ⟨?_,fun w hw=>Ew (x:=.bl b) ru' rfl r (aP bs) w (by simpa using hw),⟨.int j,H,I.tok _,⟨_,rfl⟩,q⟩⟩
 ·have:its.length≤sizeLine:=by rw[hlen];simpa using hz
  rw[Jr]at this;omega
 ·rw[List.getElem_toArray,item j (by omega)];show(bs[j]==b)=true;exact hj1
 ·intro m hm hlt;rw[List.getElem_toArray,item m (by simpa using hm)];show(bs[m]==b)=false;exact Bool.eq_false_iff.mpr (hj2 m hlt)
 ·exact e
theorem Mh{apos cpos:Pos}(ho:ED X B o ma)(he:ED X B e mb)
  (hbase:attributeBase o "index" X.env (eval o X.env)=eval o X.env:=by rfl)
  (hfew:((backTo cpos (starEach [e] X.env)).all (fun x=>!x.1)&&(backToKw cpos (keywordEach [] X.env)).all (fun x=>x.1.isSome)
   &&decide ([e].length+([]:List Keyword).length+(if([]:List Keyword).isEmpty then 0 else 1)<30))=true:=by rfl)
  (hline:(apos.endLine==cpos.line)=true:=by rfl)(hs:starEach [e] X.env=(false,eval e X.env)::starEach [] X.env:=by rfl)(hplain:(backTo cpos (starEach [] X.env)).any (·.1)=false:=by rfl):
  ED X B (.Call (.Attribute o "index" apos) [e] [] cpos) (B5 IE ma mb):=by
 refine c9 (DF Vf PySem.F.slot_list_index PySem.F.type_list_index aR ho (M3 he Q6 hs) hbase hfew hline hs hplain) ?_;rintro σ H Q ⟨G,env,d,env',rl,e,k⟩;obtain⟨⟨d1,a8⟩,e1,e2⟩:=B9 e;obtain⟨⟨d2,g0⟩,e3,e4⟩:=B9 e2;obtain⟨d3,e5,e6⟩:=D9 e4;cases e6;dsimp only at e3 e5;unfold IE at e5;split at e5
 ·rename_i ds b;obtain⟨bs,e7,e8⟩:=B9 e5;obtain⟨j,e9,e10⟩:=D9 e8;cases e10;refine .bind rl e1 fun v G1 H1 j3 r1=>?_;simp only[b0]at r1;obtain⟨a,xs,rfl,hq,rp⟩:=r1;refine⟨.inl ⟨rfl,xs,j3.rel.sub.sqL hq⟩,.bind j3.rel e3 fun v2 G2 H2 f9 r2=>?_⟩;simp only[b0]at r2;subst r2;have hb:=Mg rp e7;subst hb;exact⟨a,bs,b,j,rfl,rfl,(f9.same.trans f9.rel.sub).sqL hq,e9,k _ G2 H2 (j3.trans f9) (by simp only[b0])⟩
 ·cases e5
end
open AutoSeq1 (wpAny_loadPart')
section
variable{prog:af}{w:ag}{A:Around}{E:OU}{s:ak}
theorem aS{Q:ao->ak->Prop}{t:Tok}(hh:A.handled=none)(hr:IsRange s.heap r i j k t u v)(hsm:Builtin.Range.small i j k=true)
  (hn:Builtin.Range.rangeSize i j k=n)(hlen:n≤2^24)
  (hQ:∀(g:Heap) (tk:Tok) (acc:az),(∀b o,s.heap.get? b=some o->g.get? b=some o)->ItemsOf (fun m x=>∃t,x=.int (i+m * k) t) acc n->Q acc.toList {s with heap:=g,toks:=tk}):
  wpAny (model prog w) A (collect (.ref r)) Q E s:=by
 have h0:(s.heap.push {cls:=.type "list",data:=.seq ([]:ao).toArray}).get? s.heap.objs.size=some {cls:=.type "list",data:=.seq #[] 0}:=Qw _ rfl;have last:∀(g:Heap) (tk:Tok) (acc:az) (c:Nat),(∀b o,b≠s.heap.objs.size->(s.heap.push {cls:=.type "list",data:=.seq ([]:ao).toArray}).get? b=some o->g.get? b=some o)->
   g.get? s.heap.objs.size=some {cls:=.type "list",dict:=none,data:=.seq acc c,slots:=#[]}->ItemsOf (fun m x=>∃t,x=.int (i+m * k) t) acc n->
   wpAny (model prog w) A (match Value.ref s.heap.objs.size with
    |Value.ref z=>do
     match (←load z).data with
      |Data.seq xs _=>pure xs.toList
      |_=>unsupported "internal:collect"
    |_=>unsupported "internal:collect") Q E {s with heap:=g,toks:=tk}:=fun g tk acc c kp hl hi=>by
  show wpAny _ A (load s.heap.objs.size>>=_) _ _ _;exact Qq (wpAny_load hl (Qz (hQ g tk acc (fun b o e=>kp b o (Qd (Qu e)) (Qx _ e)) hi)))
 unfold collect;refine Qq (wpAny_runValue (Uz F.entry_proto_collect ?_));rw[Uj F.plain_proto_collect _];show wpAny _ A.in1 (newList []>>=fun l=>again (.builtin "list.__iadd__" ⟨[l,.ref r],[]⟩)) _ _ s;refine Qq (Qi (Qz ⟨Rp F.plain_list_iadd _,Uz F.entry_list_iadd ?_⟩));rw[Uj F.plain_list_iadd _];show wpAny _ A.in1 (Builtin.List.listExtendWith (.ref s.heap.objs.size) (.ref r) (.ref s.heap.objs.size)) _ _ _;refine Zj (wpAny_extend_range (A:=A) (s:={s with heap:=s.heap.push {cls:=.type "list",data:=.seq ([]:ao).toArray}})
  (R:=fun q z=>q=.ok (.ret (.ref s.heap.objs.size))/\wpAny (model prog w) A (match Value.ref s.heap.objs.size with
    |Value.ref z=>do
     match (←load z).data with
      |Data.seq xs _=>pure xs.toList
      |_=>unsupported "internal:collect"
    |_=>unsupported "internal:collect") Q E z)
  hh (Qx _ hr) hsm hn hlen _ _ 0 h0 fun g tk acc c kp hl hi=>⟨rfl,last g tk acc c kp hl hi⟩) (fun fin z h=>?_) (fun e z h=>?_)
 ·cases fin with
  |done f=>
   obtain⟨e,h⟩:=h;cases e;exact h
  |again c=>exact⟨h.1,Vx h.2 fun q z hq=>by obtain⟨rfl,hq⟩:=hq;exact hq⟩
 ·exact absurd h.1 (by simp)
theorem aT{Q₁:OU}{t:Tok}(hh:A.handled=none)(hr:IsRange s.heap r i j k t u v)(hsm:Builtin.Range.small i j k=true)
  (hn:Builtin.Range.rangeSize i j k=n)(hlen:n≤2^24)
  (hQ:∀(g:Heap) (tk:Tok) (acc:az),(∀b o,s.heap.get? b=some o->g.get? b=some o)->ItemsOf (fun m x=>∃t,x=.int (i+m * k) t) acc n->Q₁ (.ref g.objs.size) {s with heap:=g.push {cls:=.type "tuple",data:=.seq acc},toks:=tk}):
  codeAny (model prog w) A (.call (.builtin "tuple.__new__") ⟨[.type "tuple",.ref r],[]⟩) (wants Q₁ E) s:=by
 refine Pc ?_;show wpAny _ A.in1 (do checkBuiltinCall "tuple.__new__" ⟨[.type "tuple",.ref r],[]⟩;again (.builtin "tuple.__new__" ⟨[.type "tuple",.ref r],[]⟩)) _ _ s;refine Qq (Vt (F.newCall_tuple_1 _) (Qz ⟨Rp F.plain_tuple_new _,Uz F.entry_tuple_new ?_⟩));rw[Uj F.plain_tuple_new _];have hsub:=sub_tuple_self;have hinit:=init_tuple_lookup;have hmh:=madeHere_tuple;have hT:s.TypeIs (.ref r) "range":=⟨_,hr,rfl⟩
 wp_walk using Xd hT,aS (A:=A.in1) (show A.in1.handled=none from hh) hr hsm hn hlen
 intro g tk acc kp hi;show wpAny _ _ (Builtin.Tuple.tupleExact acc.toList.toArray>>=fun v=>ret v) _ _ _;unfold Builtin.Tuple.tupleExact;have z:acc.toList.toArray=acc:=by simp
 rw[z];refine Qq (Qi ?_ (by show acc.size≤sizeLine;rw[hi.1];exact Qn hlen (by decide)));exact Qz (hQ g tk acc kp hi)
theorem aU{Q:OU}{t:Tok}(hh:A.handled=none)(hr:IsRange s.heap r i j k t u v)(hsm:Builtin.Range.small i j k=true)
  (hn:Builtin.Range.rangeSize i j k=n)(hlen:n≤2^24)
  (hQ:∀(g:Heap) (tk:Tok) (acc:az),(∀b o,s.heap.get? b=some o->g.get? b=some o)->ItemsOf (fun m x=>∃t,x=.int (i+m * k) t) acc n->Q (.ref g.objs.size) {s with heap:=g.push {cls:=.type "tuple",data:=.seq acc},toks:=tk}):
  wpAny (model prog w) A (call (.type "tuple") [.ref r]) Q E s:=by
 refine callType_codes (Q₁:=fun o z=>z.TypeIs o "tuple"/\Q o z) F.called_tuple (F.typeCall_tuple_1 _) F.entry_object_init
  (aT hh hr hsm hn hlen fun g tk acc kp hi=>⟨⟨_,Qw _ rfl,rfl⟩,hQ g tk acc kp hi⟩) fun o z h=>?_
 exact⟨h.1,F.args_object_init_2 o _,object_init_meets F.called_tuple.init.lookup F.called_tuple.made (by decide) prog w A.in1 _ z ⟨h.1,rfl,h.2⟩⟩
end
section
variable{X:Cx}{B:OE}{pos:Pos}{a b c e:Expr}{ms:Mo bb}
def aV:ba->Hp->VK->Prop:=fun xs H Q=>∃(r:ah) (i j:Int),xs=[.ref r]/\H r=some (.rng i j)/\(-1000000<i/\i<1000000/\ -1000000<j/\j<1000000)/\∀l,H l=none->Q (.ref l) (upd H l (.tup (Z9 i (j-i).toNat)))
theorem aW(hc:X.calm=true):J3 X (.type "tuple") aV:=by
 intro pins s σ H xs us Q I r h;obtain⟨p,i,j,rfl,hp,⟨b1,b2,b3,b4⟩,q⟩:=h;obtain⟨u,rfl,rx⟩:=Q5 r;cases rx;have hh:X.A.handled=none:=I.ok.hd hc;obtain⟨t,u,v,hr⟩:=(show F3 X.prog X.w H s.heap p (.rng i j)from I.hok p _ hp);have hn:Builtin.Range.rangeSize i j 1=((j-i).toNat:Nat):=by rw[rangeSize_one];split<;>omega
 refine aU hh (show IsRange s.heap p i j 1 t u v from hr) (small_one (by omega) (by omega) (by omega) (by omega)) hn (by omega) fun g tk acc kp hi=>?_;have hs:acc.toList.length=(j-i).toNat:=by rw[Yq];exact hi.1
 have hv:=Hs acc.toList (fun k=>i+k) (fun k v e=>by
  obtain⟨t,ht⟩:=hi.2 k v (by simpa using e);exact⟨t,by rw[ht];congr 1;omega⟩)
 rw[hs]at hv;have hz:(Z9 i (j-i).toNat).length≤sizeLine:=by
  unfold Z9;rw[Qv,Ve];have:(2000000:Nat)≤sizeLine:=by decide
  omega
 have I1:Inv X pins σ H {s with heap:=g,toks:=tk}:=I.kept (t':=tk) kp;have I2:Inv X pins σ (upd H g.objs.size (.tup (Z9 i (j-i).toNat))) {s with heap:=g.push {cls:=.type "tuple",data:=.seq acc.toList.toArray},toks:=tk}:=
  I1.laid (t':=tk) (fun b o e=>Qx _ e) (Qy _) (show F3 X.prog X.w _ _ _ (.tup (Z9 i (j-i).toNat))from⟨hz,acc.toList,hv,W0.new _ _⟩)
 rw[show acc.toList.toArray=acc by simp]at I2;exact⟨.ref g.objs.size,_,I2,rfl,q _ (I1.hok.fresh (Qy _))⟩
def Ff(m:Mo bb):Mo D:=fun env=>(m env).map fun p=>(.tup p.1,p.2)
theorem Mi{p2 pos2:Pos}(hc:X.calm=true)(hgl:Gl X "tuple")(hml:X.mg "tuple"=none)(hg:Gl X "range")(hm:X.mg "range"=none)(ha:pN X B [a,b] ms)
  (hs:starEach [a,b] X.env=[(false,eval a X.env),(false,eval b X.env)]:=by rfl)(hs2:starEach [b] X.env=[(false,eval b X.env)]:=by rfl):ED X B (.Call (.Name "tuple" p1) [.Call (.Name "range" p2) [a,b] [] pos2] [] pos) (Ff (Q1 ms)):=by
 have h0:=BR (p:=p2) (pos:=pos2) MS hg hm boot_range ha (by decide) (by decide) (by rw[hs,hs2]) (by rw[hs2];rfl);refine c9 (BR (p:=p1) (pos:=pos) (aW hc) hgl hml MC (M3 h0 Q6)) ?_;rintro σ H Q ⟨G,env,d,env',rl,e,k⟩;obtain⟨⟨es,pL⟩,e0,e3⟩:=D9 e;obtain⟨⟨ds',a8⟩,e1,e2⟩:=B9 e0;dsimp only at e2 e3;cases e3;split at e2
 ·rename_i i j;split at e2
  ·rename_i hj;cases e2;refine⟨G,env,_,_,rl,e1,fun vs G1 H1 ev r=>?_⟩;obtain⟨v,w,rfl,r1,r2⟩:=CC r;simp only[b0]at r1 r2;subst r1 r2;refine⟨i,j,.inl rfl,fun q hq=>⟨q,i,j,rfl,D7,hj,fun l hl=>?_⟩⟩;have j3:=ev.trans (ev.rel.allocM (o:=.rng i j) hq);exact k _ _ _ (j3.trans (j3.rel.alloc (o:=.tup (Z9 i (j-i).toNat)) hl)) (Aj D7 (Ht i _))
  ·cases e2
 ·cases e2
end
section
variable{X:Cx}{B:OE}{pos:Pos}
def Fg(i:Nat):Mo D:=fun env=>((env[i]?).bind W.mutL).map fun ds=>(.int ds.length,env)
theorem Mj{i:Nat}{x:Str}{p:Pos}(ha:PE X (.Name x p) (T0 i))(hg:Gl X "len")(hm:X.mg "len"=none)
  (he:starEach [.Name x p] X.env=(false,eval (.Name x p) X.env)::starEach [] X.env:=by rfl):
  ED X B (.Call (.Name "len" p1) [.Name x p] [] pos) (Fg i):=by
 refine c9 (AO J4 hg hm PySem.boot_len (M3 ha Q6) (by decide) (by decide) he rfl) ?_;rintro σ H Q ⟨G,env,d,env',rl,e,k⟩;obtain⟨ds,e1,e2⟩:=D9 e;obtain⟨w,e3,e4⟩:=B9 e1;cases e2;obtain⟨q,xs,h1,h2,h3,h4⟩:=rl.ownL i w ds e3 e4;refine⟨_,h1,q,xs,rfl,.inl (.inl (.inl h2)),k _ G H (.refl rl) ?_⟩;simp only[b0];rw[h3.length]
end
end L2.Mir
namespace L2.Mir
open PySem PySem.W
variable{A:Around}{B:OE}{E:OU}{H:Hp}{J:It}{K:Qj}{X:Cx}{a mi:Mo bb}{acc it pm:aj}{cd p:ah}{d more n:Nat}{e elt iter target tg:Expr}{env:Env}{gens:List Comprehension}{h:Heap}{ifs:au}{mg:OI}{pins:OA}{pos:Pos}{s:ak}{scope:Scope}{w:ag}{wi:TI}{x:Str}{σ:St}
structure j7(K:Frag)(x:Str)(st:Stmt)(f:ah)(pm:aj)(cd:ah):Prop where
 a:nsIn K mainGlobals x=some (some (.ref f))
 l:K.lookup f=some ⟨.type "function",none,.func (fnOf x x (BU st) (W9 st) (E5 st) .none .none .none pm none (.ref cd) .none),⟨[]⟩⟩
 c:codeIn K (.ref cd) x=true
 k:keepIn K (.ref f)=true
theorem j7.f{K:Frag}{st:Stmt}{f:ah}(A:j7 K x st f pm cd):nJ K x x st f (fnOf x x (BU st) (W9 st) (E5 st) .none .none .none pm none (.ref cd) .none):=VY A.l A.c A.k
theorem j7.g{K:Frag}{st:Stmt}{f:ah}(A:j7 K x st f pm cd)(X:K.In h)(G:h.Ns mainGlobals mg):mg x=some (.ref f):=mg_of X G A.a
theorem dM(P:af)(w:ag)(base:Heap){K:Frag}{st:Stmt}{f:ah}{k:Nat}{fn:Fn}{fd:FuncData}{ps:ar}(o:i4 P w K mg base mZ k f fd ps (nY K n fn))(A:j7 K x st f pm cd)(X:K.In h)(G:h.Ns mainGlobals mg)(b:Q7 K fd ps [])(e:ps.length=n:=by rfl):Def P w K mg base x k n fn:=⟨_,_,_,o,e,A.g X G,A.k,b⟩
theorem dX(P:af)(w:ag)(base:Heap){K:Frag}{x:Str}{st:Stmt}{f cd:ah}{pm:aj}{k n:Nat}{g:bf->Option Str}{fd:FuncData}{ps:ar}{h:Heap}{mg:OI}(o:i4 P w K mg base (pD P w) k f fd ps (uJ K n g))(A:j7 K x st f pm cd)(X:K.In h)(G:h.Ns mainGlobals mg)(b:Q7 K fd ps [])(e:ps.length=n:=by rfl):qL P w K mg base x k n g:=⟨_,_,_,o,e,A.g X G,A.k,b⟩
def X7(elt:Expr)(gens:List Comprehension)(scope:Scope)(pos:Pos)(d:Nat)(acc:aj)(env:Env):Sem Unit:=match gens[d+1]? with
 |some g'=>do
  let x←eval g'.iter env
  standAt g'.iter.pos
  let x←if g'.is_async !=0 then foldedIterable g'.iter x else foldedSetIterable g'.iter env x
  let _←runOwn (.compStart (.ListComp elt gens scope pos) (d+1) (←holding [x] (if g'.is_async !=0 then asyncIter x else pyIter x)) acc env) env
 |none=>do let _←call (.builtin "list.append") [acc,←eval elt env]
theorem aX(hd:gens[d]? =some ⟨target,iter,ifs,0⟩):
  compTurn (.ListComp elt gens scope pos) d it acc env=(do
   standAt iter.pos
   match←pyNext it with
   |none=>pure (.done .next)
   |some v=>
    letOwnedTupleGo target it v
    assign target env v
    let mut ok:=true
    for c in ifs do
     if ok then ok←isTrue c env (eval c env)
    if ok then
     X7 elt gens scope pos d acc env
    again (.compLoop (.ListComp elt gens scope pos) d it acc env)):=by
 unfold compTurn X7;dsimp only;rw[hd];cases gens[d+1]? with
 |none=>rfl
 |some g'=>
  show(standAt iter.pos>>=fun _=>pyNext it>>=fun r=>_)=_;refine Yz (standAt iter.pos>>= ·) (funext fun _=>Yz (pyNext it>>= ·) (funext fun r=>?_));cases r with
  |none=>rfl
  |some v=>
   refine Yz (letOwnedTupleGo target it v>>= ·) (funext fun _=>Yz (assign target env v>>= ·) (funext fun _=>Yz (_>>= ·) (funext fun ok=>?_)));cases ok with
   |false=>rfl
   |true=>
    by_cases ha:(g'.is_async !=0)=true
    ·simp only[ha,Yw,bind_assoc,pure_bind]
    ·simp only[ha,Yw,Zo,bind_assoc,pure_bind,Zq]
section
variable{prog:af}{R:Result->ak->Prop}
theorem Ml(hd:gens[d]? =some ⟨target,iter,ifs,0⟩)(I:Nat->ak->Prop)
  (turn:∀n s,I n s->wpAny (model prog w) A (pyNext it) (fun r s₁=>match r with
   |none=>R (.ok .next) s₁
   |some v=>wpAny (model prog w) A (letOwnedTupleGo target it v) (fun _ s₁'=>wpAny (model prog w) A (assign target env v) (fun _ s₂=>
     wpAny (model prog w) A (forIn ifs true fun c r=>if r=true then do let ok←isTrue c env (eval c env);pure (ForInStep.yield ok)else pure (ForInStep.yield r)) (fun ok s₃=>
      if ok=true then wpAny (model prog w) A (X7 elt gens scope pos d acc env) (fun _ s₅=>∃m,m<n/\I m s₅) (fun _ _=>False) s₃
      else∃m,m<n/\I m s₃) (fun _ _=>False) s₂) (fun _ _=>False) s₁') (fun _ _=>False) s₁) (fun _ _=>False) s)
  (n:Nat)(h:I n s):
  codeAny (model prog w) A (.compLoop (.ListComp elt gens scope pos) d it acc env) R s:=by
 refine codeAny_loop rfl I (fun n s hI=>?_) n h;show wpAny _ A ((compTurn (.ListComp elt gens scope pos) d it acc env).onRaise (fun x=>do noteFrame x env;theTreesLotGoes x)) _ _ s;refine wpAny_noted ?_;rw[aX hd];refine Qq (Xw (Qq (Zj (turn n s hI) (fun r s₁ h₁=>?_) fun _ _ h'=>h'.elim)));cases r with
 |none=>exact Qz h₁
 |some v=>
  refine Qq (Zj h₁ (fun _ s₁' h₁'=>?_) fun _ _ h'=>h'.elim);refine Qq (Zj h₁' (fun _ s₂ h₂=>Qq (Zj h₂ (fun ok s₃ h₃=>?_) fun _ _ h'=>h'.elim)) fun _ _ h'=>h'.elim);cases ok with
  |false=>exact Qz ⟨rfl,h₃⟩
  |true=>exact Qq (Zj h₃ (fun _ s₅ h₅=>Qz ⟨rfl,h₅⟩) fun _ _ h'=>h'.elim)
theorem aY(hd:gens[d]? =some ⟨target,iter,ifs,0⟩)
  (h0:codeAny (model prog w) A (.compLoop (.ListComp elt gens scope pos) d it acc env) R s)
  (h:wpAny (model prog w) A (pyIter it) (fun it' s'=>codeAny (model prog w) A (.compLoop (.ListComp elt gens scope pos) d it' acc env) R s')
   (notedBy (model prog w) A env fun x s'=>R (.error x) s') s):
  codeAny (model prog w) A (.compStart (.ListComp elt gens scope pos) d it acc env) R s:=by
 refine Pc ?_;show wpAny _ _ ((compStart (.ListComp elt gens scope pos) d it acc env).onRaise (fun x=>do noteFrame x env;standAt theWindowsPlace)) _ _ s;refine wpAny_notedAt ?_;unfold compStart;rw[show clausesOf (.ListComp elt gens scope pos)=gens from rfl,hd];show wpAny _ _ (ask>>=_) _ _ s;refine Qq (Vy (wpAny_ite ?_));split
 ·first
   |exact Qq (Qz (Qz (And.intro rfl h0)))
   |exact Qz (And.intro rfl h0)
 ·first
   |exact Qq (Xv (Qq (Xw (Qq (Zj h (fun it' s' h'=>Qz (And.intro rfl h')) fun _ _ x=>x)))))
   |(refine Qq (Xv ?_);show wpAny _ _ (standAt iter.pos>>=_) _ _ s;exact Qq (Xw (Qq (Zj h (fun it' s' h'=>Qz (And.intro rfl h')) fun _ _ x=>x))))
end
abbrev X8:=St->Hp->(St->Hp->Prop)->Prop
def Fh(J:It)(g:TG)(tt:TT)(act:X8)(σ₀:St)(H₀:Hp)(Q:St->Hp->Prop):Prop:=
 ∃W:Nat->Nat->St->Hp->Prop,(∃m,W 0 m σ₀ H₀)/\∀i m σ H,W i m σ H->
  (J.stop i H/\Q σ H)\/(J.go i H/\∀x H',J.yld i H x H'->g x σ H' fun σ2 H2=>tt σ2 H2 fun b H3=>
   if b=true then act σ2 H3 fun σ4 H4=>∃m',m'<m/\W (i+1) m' σ4 H4 else∃m',m'<m/\W (i+1) m' σ2 H3)
def Af(X:Cx)(sem:Sem Unit)(act:X8):Prop:=∀(pins:OA) (s:ak) (σ:St) (H:Hp) (Q:St->Hp->Prop),Inv X pins σ H s->act σ H Q->
 wpAny (model X.prog X.w) X.A sem (fun _ s'=>∃σ' H',Inv X pins σ' H' s'/\Q σ' H') (fun _ _=>False) s
def Mm(te:TE)(p:ah):X8:=fun σ H Q=>te σ H fun y H4=>∃ys,H4 p=some (.lst ys)/\ys.length<sizeLine/\Q σ (upd H4 p (.lst (ys++[y])))
def Mn(wi:TI)(g:TG)(tt:TT)(act:X8):X8:=fun σ H Q=>wi σ H fun J H1=>Fh J g tt act σ H1 Q
theorem aZ{te:TE}(hx:∀e s,¬ X.xe e s)(hn:gens[d+1]? =none)(he:PE X elt te):Af X (X7 elt gens scope pos d (.ref p) X.env) (Mm te p):=by
 intro pins s σ H Q I h;unfold X7;rw[hn];refine Qq (Zj (he pins s σ H _ I h) (fun v s1 ⟨y,H1,I1,r1,ys,hys,hl,q⟩=>?_) fun e s' z=>(hx e s' z).elim);refine Qq (Zj (LL (X:=X) _ s1 σ H1 (.ref p) [y] (.ref p) [v] (fun _ H2=>Q σ H2) I1 rfl (.cons r1 .nil) ⟨p,ys,y,rfl,rfl,hys,hl,q⟩) (fun _ s2 ⟨_,H2,I2,_,w2⟩=>Qz ⟨σ,H2,I2,w2⟩) fun e s' z=>(hx e s' z).elim)
theorem bA{g:TG}{tt:TT}{act:X8}(hx:∀e s,¬ X.xe e s)(hc:X.calm=true)(hd:gens[d+1]? =some ⟨tg,iter,ifs,0⟩)(hi:PI X tg iter wi)(hg:PG X tg g)(ht:U2 X ifs tt)
  (ha:Af X (X7 elt gens scope pos (d+1) acc X.env) act)(hs:∀x,foldedSetIterable iter X.env x=pure x):Af X (X7 elt gens scope pos d acc X.env) (Mn wi g tt act):=by
 intro pins s σ H Q I h;unfold X7;rw[hd];have nof:∀(e:aj) (s:ak),X.xe e s->False:=fun e s z=>hx e s z;refine Qq (Zj (hi pins s σ H _ I h) (fun v s1 h1=>?_) fun e s' z=>(hx e s' z).elim);refine Qq (Xw ?_);show wpAny _ _ (foldedSetIterable iter X.env v>>=_) _ _ s1;refine Qq (Vt (hs v) ?_);show wpAny _ _ (holding [v] (pyIter v)>>=_) _ _ s1;refine Qq (Ze (Zj h1 (fun itv s2 h2=>?_) fun e s' z=>(hx e s' z).elim));obtain⟨it,fp,tn,J,H2,e,I2,T,st2,f2,W,⟨m0,w0⟩,turn⟩:=h2;subst e;have stat:∀{H':Hp},(∀b∈fp,H' b=none)->∀b∈fp,P7 X pins H' b:=fun hn b hb=>⟨hn b hb,(f2 b hb).2⟩;have loop:codeAny (model X.prog X.w) X.A (.compLoop (.ListComp elt gens scope pos) (d+1) (.ref it) acc X.env) (fun r s'=>match r with|.ok f=>wpAny (model X.prog X.w) X.A (pure ()) (fun _ s'=>∃σ' H',Inv X pins σ' H' s'/\Q σ' H') (fun _ _=>False) s'|.error e=>cameBackBy (model X.prog X.w) X.A X.env (fun _ _=>False) e s') s2:=by
  refine Ml hd (fun n s'=>∃i σ' H',Inv X pins σ' H' s'/\tn i s'.heap/\(∀b∈fp,H' b=none)/\W i n σ' H') ?_ m0 ⟨0,σ,H2,I2,st2,fun b hb=>(f2 b hb).1,w0⟩;rintro n s3 ⟨i,σ3,H3,I3,st3,fr3,w3⟩;rcases turn i n σ3 H3 w3 with⟨stop,qn⟩|⟨go,step⟩
  ·refine Zj (T.done X rfl rfl rfl hc i pins s3 σ3 H3 (fun _ _=>False) I3 (stat fr3) st3 stop) (fun r s4 ⟨hr,I4⟩=>?_) fun _ _ z=>z;subst hr;exact Qz ⟨σ3,H3,I4,qn⟩
  ·refine Zj (T.item X rfl rfl rfl hc i pins s3 σ3 H3 (fun _ _=>False) I3 (stat fr3) st3 go) (fun r s4 ⟨u,hr,h4⟩=>?_) fun _ _ z=>z;subst hr;refine Zj h4 (fun _ s5 ⟨x,H5,I5,r5,y5,st5,fr5⟩=>?_) fun _ _ z=>z;have I5':=I5.pinned (stat fr5) (T.obj _ _ st5);have back:∀{σ8:St}{H8:Hp}{s8:ak}{m':Nat},Inv X (pins++Bw fp s5.heap) σ8 H8 s8->m'<n->W (i+1) m' σ8 H8->∃m,m<n/\∃i σ' H',Inv X pins σ' H' s8/\tn i s8.heap/\(∀b∈fp,H' b=none)/\W i m σ' H':=fun{σ8 H8 s8 m'} I8 hm w8=>by
    refine⟨m',hm,i+1,σ8,H8,I8.unpinned,T.keep _ _ _ st5 fun b hb o e=>(I8.pin (b,o) (Zu _ (Zu _ (Bx hb e)))).1,fun b hb=>?_,w8⟩;obtain⟨o,e,d⟩:=T.obj _ _ st5 b hb;exact(I8.pin (b,o) (Zu _ (Zu _ (Bx hb e)))).2.1
   refine Zj (hg _ s5 σ3 H5 x u _ I5' r5 (step x H5 y5)) (fun _ s6 ⟨σ6,H6,I6,q6⟩=>?_) nof;refine Zj (ht _ s6 σ6 H6 _ I6 q6) (fun b s7 ⟨H7,I7,q7⟩=>?_) nof;cases b with
   |false=>
    simp only[Zq,Zo]at q7 ⊢;obtain⟨m',hm,w7⟩:=q7;exact back I7 hm w7
   |true=>
    simp only[Yw]at q7 ⊢;exact Zj (ha _ s7 σ6 H7 _ I7 q7) (fun _ s8 ⟨σ8,H8,I8,m',hm,w8⟩=>back I8 hm w8) fun _ _ z=>z
 refine Qq (wpAny_runOwn (h:=none) (aY hd loop (Zj (T.self X.A 0 s2 _ (fun _ _=>False) st2 loop) (fun _ _ q=>q) fun _ _ q=>q.elim)))
section
variable{N':ar}{keep:ay}{gs:List Comprehension}{g:TG}{tt:TT}{act:ah->X8}
theorem Mp{it:ah}{fp:List ah}{tn:Nat->Heap->Prop}{Qf:ah->Hp->Prop}{RR:aj->ah->Result->ak->Prop}
  (ok:mY X N' scope keep more)(hc:X.calm=true)(hg:∀s H fp,PG (F4 X N' scope s H fp) tg g)(ht:∀s H fp,U2 (F4 X N' scope s H fp) ifs tt)(he:∀s H fp p,Af (F4 X N' scope s H fp) (X7 elt (⟨tg,iter,ifs,0⟩::gs) scope pos 0 (.ref p) (F4 X N' scope s H fp).env) (act p))
  (I:Inv X pins σ H s)(T:Turn X.prog X.w X.K tg J fp it tn)(st:tn 0 s.heap)(hf:∀b∈fp,P7 X pins H b)
  (run:∀p,H p=none->Fh J g tt (act p) (N0 keep more σ) (upd H p (.lst [])) (fun _ H'=>Qf p H'))
  (hRR:∀p C s' H' m,Inv X pins σ H' s'->Qf p H'->s'.heap.Ns C m->C≠X.env.locals->(∀x c,X.env.cells.lookup x=some c->c≠C)->H' C=none->(∀σ'' H'' s'' h',Inv X pins σ'' H'' s''->H'' C=none->Heap.SameBut C s''.heap h'->Inv X pins σ'' H'' {s'' with heap:=h'})->RR (.ref p) C (.ok .next) s'):
  wpAny (model X.prog X.w) X.A (newList []) (fun acc s₃=>wpAny (model X.prog X.w) X.A (newFunctionEnv scope X.env.globals (M9 X.env.cells scope.names []) [] X.env.qual none .none (some X.env)) (fun cenv s₄=>
   codeAny (model X.prog X.w) X.A (.compStart (.ListComp elt (⟨tg,iter,ifs,0⟩::gs) scope pos) 0 (.ref it) acc {cenv with scope:=relabel scope X.env}) (RR acc cenv.locals) s₄) E s₃) E s:=by
 have hp0:H s.heap.objs.size=none:=I.hok.fresh (Qy _);refine Qi ?_;have I3:Inv X pins σ (upd H s.heap.objs.size (.lst [])) {s with heap:=s.heap.push {cls:=.type "list",dict:=none,data:=.seq ([]:ao).toArray}}:=
  I.laid (t':=s.toks) (fun b u e=>Qx _ e) (Qy _) ⟨Yt _,[],0,.nil,Qw _ rfl⟩
 have fpOld:∀b∈fp,b<s.heap.objs.size:=fun b hb=>by
  obtain⟨o,e,_⟩:=T.obj 0 _ st b hb;exact Qu e
 have hf3:∀b∈fp,P7 X pins (upd H s.heap.objs.size (.lst [])) b/\b<(s.heap.push {cls:=.type "list",dict:=none,data:=.seq ([]:ao).toArray}).objs.size:=fun b hb=>by
  refine⟨⟨by rw[C6 (Qd (fpOld b hb))];exact(hf b hb).1,(hf b hb).2⟩,?_⟩;rw[Jj];exact Jz (fpOld b hb)
 have st3:tn 0 (s.heap.push {cls:=.type "list",dict:=none,data:=.seq ([]:ao).toArray}):=T.keep 0 _ _ st fun b hb o e=>Qx _ e;generalize hs3:({s with heap:=s.heap.push {cls:=.type "list",dict:=none,data:=.seq ([]:ao).toArray}}:ak)=s3 at I3 ⊢;have hs3h:s3.heap=s.heap.push {cls:=.type "list",dict:=none,data:=.seq ([]:ao).toArray}:=by rw[←hs3]
 rw[←hs3h]at hf3 st3;generalize hp:s.heap.objs.size=p at hp0 I3 hf3 ⊢;generalize hH3:upd H p (.lst [])=H3 at I3 hf3;refine Wg _ ?_;have I4:=Wf ok I3 hf3;generalize hs4:({s3 with heap:=pushCells (s3.heap.push {cls:=.type "dict",data:=.dict #[]}) scope.names}:ak)=s4 at I4 ⊢;have st4:tn 0 s4.heap:=T.keep 0 _ _ st3 fun b hb o e=>by rw[←hs4];exact Pg _ _ _ _ (Qx _ e)
 obtain⟨W,⟨m0,w0⟩,turn⟩:=run p hp0;have stat:∀{H':Hp},(∀b∈fp,H' b=none)->∀b∈fp,P7 (F4 X N' scope s3 H3 fp) [] H' b:=fun hn b hb=>by
  have z:=I4.ok.exf b hb;exact⟨hn b hb,z.1,I4.ok.exfs b hb,.inl hb,z.2,fun p hp=>absurd (show p∈([]:OA)from hp) (by simp)⟩
 have loop:codeAny (model X.prog X.w) X.A (.compLoop (.ListComp elt (⟨tg,iter,ifs,0⟩::gs) scope pos) 0 (.ref it) (.ref p) (CJ scope X.env s3.heap.objs.size)) (RR (.ref p) s3.heap.objs.size) s4:=by
  refine Ml (d:=0) rfl (fun n s'=>∃i σ' H',Inv (F4 X N' scope s3 H3 fp) [] σ' H' s'/\tn i s'.heap/\(∀b∈fp,H' b=none)/\W i n σ' H') ?_ m0 ⟨0,_,H3,I4,st4,fun b hb=>(hf3 b hb).1.1,by rw[←hH3];exact w0⟩;rintro n s5 ⟨i,σ5,H5,I5,st5,fr5,w5⟩;rcases turn i n σ5 H5 w5 with⟨stop,qf⟩|⟨go,step⟩
  ·refine i6 (T.done (F4 X N' scope s3 H3 fp) rfl rfl rfl hc i [] s5 σ5 H5 (fun _ _=>False) I5 (stat fr5) st5 stop) fun r s6 ⟨hr,I6⟩=>?_;subst hr;obtain⟨m6,hn6,_⟩:=I6.loc;have hch:∀b∈fp,(b∈X.ex\/X.s₀.heap.objs.size≤b)/\b≠X.env.locals/\(∀x c,X.env.cells.lookup x=some c->c≠b)/\∀p∈X.pn++pins,p.1≠b:=fun b hb=>by
    obtain⟨_,f1,_,f3,f4,f5⟩:=hf b hb;exact⟨f3,f1,f4,f5⟩
   have IX:Inv X pins σ H5 s6:=I3.call' (s':=s6) (I6.os) (I6.base) I6.hok I6.bare hch;have szC:X.s₀.heap.objs.size≤s3.heap.objs.size:=I3.sz;have hCL:s3.heap.objs.size≠X.env.locals:=Pp I3.lt;have hCc:∀x c,X.env.cells.lookup x=some c->c≠s3.heap.objs.size:=fun x c e=>by
    obtain⟨v,q⟩:=I3.cell x c e;exact Qd q.lt
   have hCp:∀q∈X.pn++pins,q.1≠s3.heap.objs.size:=fun q hq=>Qd (Qu (I3.pin q hq).1);refine hRR p s3.heap.objs.size s6 H5 m6 IX qf hn6 hCL hCc I6.free fun σ'' H'' s'' h' I'' hn hs=>?_;exact I''.turned (t':=s''.toks) (it:=s3.heap.objs.size) (fun b o hb e=>(hs.2 b hb).trans e) hn hCL (.inr szC) hCc hCp
  ·refine i6 (T.item (F4 X N' scope s3 H3 fp) rfl rfl rfl hc i [] s5 σ5 H5 (fun _ _=>False) I5 (stat fr5) st5 go) fun r s6 ⟨u,hr,h6⟩=>?_;subst hr;refine i6 h6 fun _ s7 ⟨x,H7,I7,r7,y7,st7,fr7⟩=>?_;have I7':=I7.pinned (stat fr7) (T.obj _ _ st7);have back:∀{σ8:St}{H8:Hp}{s8:ak}{m':Nat},Inv (F4 X N' scope s3 H3 fp) ([]++Bw fp s7.heap) σ8 H8 s8->m'<n->W (i+1) m' σ8 H8->∃m,m<n/\∃i σ' H',Inv (F4 X N' scope s3 H3 fp) [] σ' H' s8/\tn i s8.heap/\(∀b∈fp,H' b=none)/\W i m σ' H':=fun{σ8 H8 s8 m'} I8 hm w8=>by
    refine⟨m',hm,i+1,σ8,H8,I8.unpinned,T.keep _ _ _ st7 fun b hb o e=>(I8.pin (b,o) (Zu _ (Zu _ (Bx hb e)))).1,fun b hb=>?_,w8⟩;obtain⟨o,e,d⟩:=T.obj _ _ st7 b hb;exact(I8.pin (b,o) (Zu _ (Zu _ (Bx hb e)))).2.1
   refine i6 (hg s3 H3 fp _ s7 σ5 H7 x u _ I7' r7 (step x H7 y7)) fun _ s8 ⟨σ8,H8,I8,q8⟩=>?_;refine i6 (ht s3 H3 fp _ s8 σ8 H8 _ I8 q8) fun b s9 ⟨H9,I9,q9⟩=>?_;cases b with
   |false=>
    simp only[Zq,Zo]at q9 ⊢;obtain⟨m',hm,w9⟩:=q9;exact back I9 hm w9
   |true=>
    simp only[Yw]at q9 ⊢;exact i6 (he s3 H3 fp p _ s9 σ8 H9 _ I9 q9) fun _ s10 ⟨σ10,H10,I10,m',hm,w10⟩=>back I10 hm w10
 refine codeAny_compStart_list loop ?_;exact Zj (T.self X.A 0 s4 _ (fun _ _=>False) st4 loop) (fun _ _ q=>q) fun _ _ q=>q.elim
def IF(wi:TI)(keep:ay)(more:Nat)(g:TG)(tt:TT)(act:ah->X8):TE:=fun σ H Q=>wi σ H fun J H1=>∀p,H1 p=none->Fh J g tt (act p) (N0 keep more σ) (upd H1 p (.lst [])) (fun _ H'=>Q (.ref p) H')
theorem bB(ok:mY X N' scope keep more)(hc:X.calm=true)(hi:PI X tg iter wi)(hg:∀s H fp,PG (F4 X N' scope s H fp) tg g)(ht:∀s H fp,U2 (F4 X N' scope s H fp) ifs tt)
  (he:∀s H fp p,Af (F4 X N' scope s H fp) (X7 elt (⟨tg,iter,ifs,0⟩::gs) scope pos 0 (.ref p) (F4 X N' scope s H fp).env) (act p))
  (hs:∀x,foldedSetIterable iter X.env x=pure x:=by intro _;rfl):PE X (.ListComp elt (⟨tg,iter,ifs,0⟩::gs) scope pos) (IF wi keep more g tt act):=by
 intro pins s σ H Q I h;rw[eval_ListComp];refine wpAny_comprehension_free (use:=none) rfl hs ok.clos ok.kind (fun x hx hl=>by have:=ok.uniq x hx;rwa [hl]at this) (i6 (hi pins s σ H _ I h) fun v s1 h1=>i6 h1 fun itv s2 h2=>?_);obtain⟨it,fp,tn,J,H2,e,I2,T,st2,f2,run⟩:=h2;subst e;refine Mp (Qf:=fun p H'=>Q (.ref p) H') (RR:=fun acc C=>compPost (model X.prog X.w) X.A X.xe none (EP X pins σ Q) acc C) ok hc hg ht he I2 T st2 f2 run ?_;intro p C s' H' m IX qf hn hCL hCc hCn turn;exact⟨m,hn,fun h' hs'=>⟨.ref p,H',turn σ H' s' h' IX hCn hs',rfl,qf⟩⟩
end
def L8(m:Mo D):Mo bb:=fun env=>(m env).map fun q=>([q.1],q.2)
def N2(g:OX)(t:Mo Bool)(a:Mo bb):bb->Mo bb
 |[],env=>some ([],env)
 |d::ds,env=>(g d env).bind fun e1=>(t e1).bind fun p=>if p.1 then(a p.2).bind fun q=>(N2 g t a ds q.2).map fun r=>(q.1++r.1,r.2)else N2 g t a ds p.2
def sQ(mi:Mo bb)(g:OX)(t:Mo Bool)(a:Mo bb):Mo bb:=fun env=>(mi env).bind fun p=>N2 g t a p.1 p.2
def V5(mi:Mo bb)(keep:ay)(more:Nat)(g:OX)(t:Mo Bool)(a:Mo bb):Mo bb:=fun env=>(mi env).bind fun p=>
 (N2 g t a p.1 (K5 keep more p.2)).bind fun q=>if q.1.length≤100000 then(K6 keep p.2 q.2).map fun e=>(q.1,e)else none
theorem bC{o:HO}(h:H p=some o):upd H p o=H:=by
 funext b
 by_cases hb:b=p
 ·subst hb;rw[D7,h]
 ·rw[C6 hb]
def tS(K:Qj)(B:OE)(n:Nat)(a:Mo bb)(p:ah):X8:=fun σ H Q=>∃G env zs env' ys,Rel K B G σ env H/\ ¬ d9 σ env p/\G p=none/\H p=some (.lst ys)/\a env=some (zs,env')/\ys.length+zs.length≤100000/\
 ∀σ' G' H' vs,Ev K B G σ env (upd H p (.lst (ys++vs))) G' σ' env' H'->(∀j,j<n->σ'[j]? =σ[j]?)->H' p=some (.lst (ys++vs))->B4 K G' vs zs->Q σ' H'
theorem bD{m:Mo D}:∀σ H Q,tS K B n (L8 m) p σ H Q->Mm (TD K B m) p σ H Q:=by
 rintro σ H Q ⟨G,env,zs,env',ys,rl,no,gp,hp,e,hl,k⟩;obtain⟨⟨d,a8⟩,e1,e2⟩:=D9 e;cases e2;refine⟨G,env,d,a8,rl,e1,fun v G' H' ev r=>?_⟩;have hp':H' p=some (.lst ys):=ev.keep p _ no nC hp;refine⟨ys,hp',Ql (by simp at hl;omega) (show 100000≤sizeLine by decide),?_⟩;exact k σ G' _ [v] (ev.swapAt no (by rw[hp];simp) gp nC (fun φ z=>by rw[hp']at z;cases z)) (fun _ _=>rfl) D7 (f6 r f7)
theorem Mq{g:OX}{t:Mo Bool}{G1:Hp}{a8 envF:a9}{H1:Hp}{items zs:bb}{ys:ba}{Q:St->Hp->Prop}(rl:Rel K B G1 σ a8 H1)(itd:tO K J G1 items)(no:¬ d9 σ a8 p)(gp:G1 p=none)
  (hp:H1 p=some (.lst ys))(e3:N2 g t a items a8=some (zs,envF))(hl:ys.length+zs.length≤100000)
  (k:∀σ' G' H' vs,Ev K B G1 σ a8 (upd H1 p (.lst (ys++vs))) G' σ' envF H'->(∀j,j<n->σ'[j]? =σ[j]?)->H' p=some (.lst (ys++vs))->B4 K G' vs zs->Q σ' H'):
  Fh J (vV K B n g) (pM K B t) (tS K B n a p) σ H1 Q:=by
 have hpS:∀us,(upd H1 p (.lst us)) p=some (.lst us):=fun us=>D7;refine⟨fun i m' σ2 H2=>m'=items.length-i/\i≤items.length/\∃G2 g0 vs acc rest,Ev K B G1 σ a8 (upd H1 p (.lst (ys++vs))) G2 σ2 g0 H2/\(∀j,j<n->σ2[j]? =σ[j]?)/\
   B4 K G2 vs acc/\N2 g t a (items.drop i) g0=some (rest,envF)/\acc++rest=zs,⟨_,rfl,Yt _,G1,a8,[],[],zs,?_,fun _ _=>rfl,f7,by simpa using e3,by simp⟩,?_⟩
 ·rw[Jo,bC hp];exact .refl rl
 rintro i m' σ2 H2 ⟨rfl,hi,G2,g0,vs,acc,rest,f9,y2,r2,c2,t2⟩;have hp2:H2 p=some (.lst (ys++vs)):=f9.keep p _ no nC (hpS _);have lH:Le G1 H2:=f9.same.trans f9.rel.sub
 by_cases hlt:i<items.length
 ·refine .inr ⟨itd.go i H2 lH hlt,fun x H3 y=>?_⟩;have ed:items.drop i=items[i]::items.drop (i+1):=List.drop_eq_getElem_cons hlt;rw[ed]at c2;obtain⟨r8,e7,e8⟩:=B9 c2;obtain⟨⟨b,p8⟩,e9,e10⟩:=B9 e8;have hget:items[i]? =some items[i]:=by simp[hlt]
  have st:∃G3,Ev K B G1 σ a8 (upd H1 p (.lst (ys++vs))) G3 σ2 g0 H3/\Le G2 G3/\b0 K G3 x items[i]:=by
   rcases itd.yld i H2 x H3 items[i] lH y hget with⟨rfl,r⟩|⟨q,o,hno,hq,rfl,r⟩
   ·exact⟨G2,f9,Le.refl,b0.mono f9.same _ r⟩
   ·have gq:=f9.rel.gnone hq;refine⟨upd G2 q o,f9.trans (f9.rel.alloc hq hno),Le.upd gq,b0.mono (fun b u z=>?_) _ r⟩
    by_cases hb2:b=q
    ·subst hb2;rw[D7]at z ⊢;exact z
    ·rw[C6 hb2]at z ⊢;exact f9.same b u z
  obtain⟨G3,pG,l3,r3⟩:=st;refine⟨G3,g0,items[i],r8,pG.rel,r3,e7,fun σ4 G4 H4 rJ y4=>?_⟩;refine⟨G4,r8,b,p8,rJ.rel,e9,fun G5 H5 rZ=>?_⟩;have p9:=(pG.trans rJ).trans rZ;have r5:B4 K G5 vs acc:=B4.mono ((l3.trans rJ.same).trans rZ.same) acc r2;have y5:∀j,j<n->σ4[j]? =σ[j]?:=fun j hj=>(y4 j hj).trans (y2 j hj);have vO:H5 p=some (.lst (ys++vs)):=p9.keep p _ no nC (hpS _);cases b with
  |true=>
   simp only[Yw]at e10 ⊢;obtain⟨⟨z7,vD⟩,e11,e12⟩:=B9 e10;obtain⟨⟨rest8,z9⟩,e13,e14⟩:=D9 e12;cases e14;have lz:zs.length=acc.length+(z7.length+rest8.length):=by rw[←t2];simp
   have no5:¬ d9 σ4 p8 p:=fun z=>(p9.sub p z).elim no fun q=>by rw[hpS]at q;cases q
   refine⟨G5,p8,z7,vD,ys++vs,rZ.rel,no5,p9.stay p (by rw[hpS];simp) no gp,vO,e11,by rw[Zx,r2.length];omega,fun σ6 G6 H6 us yE y7 h7 r7=>?_⟩;have nx:∀φ,H5 p≠some (.ext φ):=fun φ z=>by rw[vO]at z;cases z
   have sw:=p9.swapAt (o:=.lst (ys++vs++us)) no (by rw[hpS];simp) gp nC nx;rw[KS]at sw;refine⟨items.length-(i+1),by omega,rfl,hlt,G6,vD,vs++us,acc++z7,rest8,?_,fun j hj=>(y7 j hj).trans (y5 j hj),(B4.mono yE.same acc r5).append r7,e13,by rw[Ue];exact t2⟩;rw[←Ue];exact sw.trans yE
  |false=>
   simp only[Zq,Zo]at e10 ⊢;exact⟨items.length-(i+1),by omega,rfl,hlt,G5,p8,vs,acc,rest,p9,y5,r5,e10,t2⟩
 ·have ei:i=items.length:=by omega
  subst ei;rw[List.drop_length]at c2;cases c2;rw[Jo]at t2;subst t2;exact .inl ⟨itd.stop _ H2 lH (Qy _),k σ2 G2 H2 vs f9 y2 hp2 r2⟩
theorem bE{g:OX}{t:Mo Bool}:∀σ H Q,tS K B n (sQ mi g t a) p σ H Q->Mn (wX K B mi) (vV K B n g) (pM K B t) (tS K B n a p) σ H Q:=by
 rintro σ H Q ⟨G,env,zs,env',ys,rl,no,gp,hp,e,hl,k⟩;obtain⟨⟨items,a8⟩,e1,e2⟩:=B9 e;refine⟨G,env,items,a8,rl,e1,fun J G1 H1 j3 itd=>?_⟩;have hp1:H1 p=some (.lst ys):=j3.keep p _ no nC hp;refine Mq j3.rel itd (fun z=>(j3.sub p z).elim no fun q=>by rw[hp]at q;cases q) (j3.stay p (by rw[hp];simp) no gp) hp1 e2 hl fun σ' G' H' vs ev y h r=>?_;have nx:∀φ,H1 p≠some (.ext φ):=fun φ z=>by rw[hp1]at z;cases z
 exact k σ' G' H' vs ((j3.swapAt (o:=.lst (ys++vs)) no (by rw[hp];simp) gp nC nx).trans ev) y h r
theorem Mr{keep:ay}{g:OX}{t:Mo Bool}(hkl:keep.length=n):
  ∀(σ:St) H Q,σ.length=n->TL K B (V5 mi keep more g t a) σ H Q->IF (wX K B mi) keep more (vV K B n g) (pM K B t) (tS K B n a) σ H Q:=by
 rintro σ H Q hσn ⟨G,env,total,env',rl,e,k⟩;obtain⟨⟨items,a8⟩,e1,e2⟩:=B9 e;obtain⟨⟨total',envF⟩,e3,e4⟩:=B9 e2;dsimp only at e4;split at e4
 ·rename_i hlen;obtain⟨env'',e5,e6⟩:=D9 e4;cases e6;refine⟨G,env,items,a8,rl,e1,fun J G1 H1 j3 itd p hp=>?_⟩;have hk:keep.length=σ.length:=by rw[hkl,hσn]
  have gp:G1 p=none:=j3.rel.gnone hp;have no1:¬ d9 σ a8 p:=j3.rel.unowned hp;have no:¬ d9 (N0 keep more σ) (K5 keep more a8) p:=fun z=>no1 (Ha z);have relS:∀ys,Rel K B G1 σ a8 (upd H1 p (.lst ys)):=fun ys=>(j3.rel.allocM hp).rel;refine Mq (ys:=[]) ((relS []).ext hk) itd no gp D7 e3 (by simpa using hlen) fun σ2 G2 H2 ys f9 y2 hp2 r2=>?_;rw[Pl,KS]at f9;rw[Pl]at hp2;have evO:=Ev.out (relS ys) hk f9 (fun j hj=>y2 j (by omega)) e5;have evA:=j3.trans ((j3.rel.allocM (o:=.lst ys) hp).trans evO);have hpn:H p=none:=by
   cases q:H p with
   |none=>rfl
   |some o=>exact absurd hp (j3.live p (by rw[q];simp))
  have hpS:(upd H1 p (.lst ys)) p=some (.lst ys):=D7;refine k p ys G2 H2 evA hpn (fun z=>?_) hp2 (f9.stay p (by rw[hpS];simp) no gp) r2;rcases evO.sub p z with q|q
  ·exact no1 q
  ·rw[hpS]at q;cases q
 ·cases e4
def uT(X:Cx)(B:OE)(n:Nat)(elt:Expr)(gens:List Comprehension)(scope:Scope)(pos:Pos)(d:Nat)(p:ah)(a:Mo bb):Prop:=Af X (X7 elt gens scope pos d (.ref p) X.env) (tS X.K B n a p)
theorem Ms{sem:Sem Unit}{t t':X8}(h:Af X sem t)(i:∀σ H Q,t' σ H Q->t σ H Q):Af X sem t':=fun pins s σ H Q I q=>h pins s σ H Q I (i σ H Q q)
section
variable{N':ar}{nE:Scope}{keep:ay}{gs:List Comprehension}{g:OX}{t:Mo Bool}{m:Mo D}{fp:List ah}
theorem CV(hn:gens[d+1]? =none)(he:ED (F4 X N' nE s H fp) B elt m):uT (F4 X N' nE s H fp) B n elt gens scope pos d p (L8 m):=Ms (aZ (fun _ _ z=>z) hn he) bD
theorem Fi(hd:gens[d+1]? =some ⟨tg,iter,ifs,0⟩)(hc:X.calm=true)(hi:EI (F4 X N' nE s H fp) B tg iter mi)(hg:EG (F4 X N' nE s H fp) B n tg g)(ht:U2 (F4 X N' nE s H fp) ifs (pM X.K B t))
  (ha:uT (F4 X N' nE s H fp) B n elt gens scope pos (d+1) p a)(hs:∀x,foldedSetIterable iter (F4 X N' nE s H fp).env x=pure x:=by intro _;rfl):
  uT (F4 X N' nE s H fp) B n elt gens scope pos d p (sQ mi g t a):=Ms (bA (fun _ _ z=>z) hc hd hi hg ht ha hs) bE
theorem bF(ok:mY X N' scope keep more)(hc:X.calm=true)(hi:EI X B tg iter mi)(hg:∀s H fp,EG (F4 X N' scope s H fp) B X.N.length tg g)(ht:∀s H fp,U2 (F4 X N' scope s H fp) ifs (pM X.K B t))
  (he:∀s H fp p,uT (F4 X N' scope s H fp) B X.N.length elt (⟨tg,iter,ifs,0⟩::gs) scope pos 0 p a)
  (hs:∀x,foldedSetIterable iter X.env x=pure x:=by intro _;rfl):EL X B (.ListComp elt (⟨tg,iter,ifs,0⟩::gs) scope pos) (V5 mi keep more g t a):=by
 intro pins s σ H Q I h;exact bB (act:=tS X.K B X.N.length a) ok hc hi hg ht (fun s H fp p=>he s H fp p) hs pins s σ H Q I (Mr ok.klen σ H Q I.len h)
end
section
variable{o:Expr}{ma mb:Mo D}
end
section
variable{prog:af}{c1 c2:Bool}
end
section
variable{R:Result->ak->Prop}{c1 c2:Bool}{n l1 l2 S:ah}{xs ys:ba}
end
section
variable{a b:Expr}{ms:Mo bb}
end
section
variable{prog:af}
end
section
variable{es:au}{gs:bb->a9->Option a9}
end
section
variable{G:Hp}
theorem IG:∀ns:aq,(K2 ns).map kV=ns.map V.int
 |[]=>rfl
 |n::ns=>by show V.int n::(K2 ns).map kV=_;rw[IG ns];rfl
theorem IH:∀{a b:aq},K2 a=K2 b->a=b
 |[],[],_=>rfl
 |[],_::_,e=>by simp[K2]at e
 |_::_,[],e=>by simp[K2]at e
 |x::a,y::b,e=>by
  simp only[K2,Qm,Sq,Sum.inl.injEq]at e;rw[e.1,IH e.2]
def bG(K:Qj)(H:Hp)(b:ah)(k:aq):Prop:=H b=some (.tup ((K2 k).map kV))\/Ez K b (K2 k)
theorem bH{P:af}{b:ah}{k:List Key}(ok:nX P w H h)(kin:K.In h)(e:H b=some (.tup (k.map kV))\/Ez K b k):(tupleKind (L5 P w)).is h k b:=by
 rcases e with e|e
 ·exact WA ok e
 ·rcases e with e|⟨o,its,n,h1,h2,_,h3,_,h4⟩
  ·cases e
  ·exact⟨o,its,n,kin b o h1,h2,h3,Gx h4⟩
end
section
variable{a b:ah}{kvs:List (List Key×V)}
end
section
variable{G:Hp}
end
section
variable{a b:Expr}{ma mb:Mo D}
end
section
variable{p:Pos}{es:au}{ma:Mo D}{ms:Mo bb}
end
section
variable{G G1 G2:Hp}{env a8:a9}{H1 H2:Hp}{vs:ba}{ds:bb}{a:ah}
end
section
variable{p:Pos}{es:au}{ms:Mo bb}{fn:Fn}{k:Nat}
end
end L2.Mir
namespace L2.Mir
open PySem PySem.Spec PyProof.Rows
variable{B:OE}{X:Cx}{ds:bb}{i:Nat}{pos py spos:Pos}{vs:ba}{y:Str}
def bI:D->Option Str
 |.str x=>if x.length≤1000 then some x else none
 |.int i=>if-1000000000000000000<i/\i<1000000000000000000 then some (Str.ofString (toString i))else none
 |_=>none
def Mt:bb->Option Str
 |[]=>some Str.empty
 |d::ds=>(bI d).bind fun x=>(Mt ds).map fun y=>x++y
section
variable{p:Pos}{e:Expr}{vs:au}{ma:Mo D}{ms:Mo bb}
def PJ(X:Cx)(B:OE)(vs:au)(ms:Mo bb):Prop:=∀(pins:OA) (s:ak) (σ:St) (H:Hp) (acc:Str) (Q:Str->Hp->Prop),Inv X pins σ H s->
 (∃G env ds env' y,Rel X.K B G σ env H/\ms env=some (ds,env')/\Mt ds=some y/\acc.length+1000 * ds.length≤sizeLine/\∀G' H',Ev X.K B G σ env H G' σ env' H'->Q (acc++y) H')->
 Joins (model X.prog X.w) X.A X.xe (evalEach vs X.env) acc (fun out s1=>∃H',Inv X pins σ H' s1/\Q out H') s
end
section
variable{N':ar}{scope:Scope}{keep:ay}{more:Nat}{tg iter elt:Expr}{ifs:au}{gs:List Comprehension}{g:TG}{tt:TT}{act:ah->X8}
theorem bJ{wi:TI}(ok:mY X N' scope keep more)(hc:X.calm=true)(hN:X.N.Nodup)(hy:X.N[i]? =some y)(hyl:X.env.scope.names.lookup y=some .local)
  (hsw:swapsWith (.ListComp elt (⟨tg,iter,ifs,0⟩::gs) scope pos) (some (.Name y py)) spos.line X.env=pure true)
  (hi:PI X tg iter wi)(hg:∀s H fp,PG (F4 X N' scope s H fp) tg g)(ht:∀s H fp,U2 (F4 X N' scope s H fp) ifs tt)(he:∀s H fp p,Af (F4 X N' scope s H fp) (X7 elt (⟨tg,iter,ifs,0⟩::gs) scope pos 0 (.ref p) (F4 X N' scope s H fp).env) (act p))
  (hs:∀x,foldedSetIterable iter X.env x=pure x:=by intro _;rfl):PS X (.Assign [.Name y py] (.ListComp elt (⟨tg,iter,ifs,0⟩::gs) scope pos) spos) (Gi (IF wi keep more g tt act) (Gh i)):=by
 intro pins s σ H D I h;rw[exec_Assign_Name_used _ _ _ _ hsw];refine Qq (Xw (Qq ?_));show wpAny _ X.A (do let _←comprehension (.ListComp elt (⟨tg,iter,ifs,0⟩::gs) scope pos) scope X.env _ (newList []) false (eval iter X.env) (some (assign (.Name y py) X.env))) _ _ s;refine Qq (Zj (wpAny_comprehension_free (use:=some (assign (.Name y py) X.env)) (Q:=fun _ s'=>SP X pins D .next s') rfl hs ok.clos ok.kind (fun x hx hl=>by have:=ok.uniq x hx;rwa [hl]at this) (i6 (hi pins s σ H _ I h) fun v s1 h1=>i6 h1 fun itv s2 h2=>?_)) (fun _ s' hq=>Qz (Qz hq)) fun _ _ e=>e);obtain⟨it,fp,tn,J,H2,e,I2,T,st2,f2,run⟩:=h2;subst e;refine Mp (Qf:=fun p H'=>D.nx (σ.set i (some (.ref p))) H') (RR:=fun acc C=>compPost (model X.prog X.w) X.A X.xe (some (assign (.Name y py) X.env)) (fun _ s'=>SP X pins D .next s') acc C) ok hc hg ht he I2 T st2 f2 run ?_;intro p C s' H' m IX qf hn hCL hCc hCn turn;refine wpAny_assign_Name (KU (v:=.ref p) (u:=.ref p) IX hN hy (.inl hyl) rfl (fun s'' I'' hs''=>?_) (.inr hyl));obtain⟨a,hsb,ha⟩:=hs'';have hCa:C≠a:=by
  rcases ha with z|z
  ·rw[z];exact hCL
  ·exact fun q=>hCc y a z q.symm
 exact⟨m,hn.sameBut hsb hCa,fun h' hs'=>⟨_,H',turn _ H' s'' h' I'' hCn hs',qf⟩⟩
end
section
variable{N':ar}{scope nE:Scope}{keep:ay}{more n d:Nat}{tg iter elt:Expr}{ifs:au}{gens gs:List Comprehension}{g:OX}{t:Mo Bool}{m:Mo D}{mi:Mo bb}{a:Mo bb}{s:ak}{H:Hp}{fp:List ah}{p:ah}
theorem Di(ok:mY X N' scope keep more)(hc:X.calm=true)(hN:X.N.Nodup)(hy:X.N[i]? =some y)(hyl:X.env.scope.names.lookup y=some .local)
  (hsw:swapsWith (.ListComp elt (⟨tg,iter,ifs,0⟩::gs) scope pos) (some (.Name y py)) spos.line X.env=pure true)
  (hi:EI X B tg iter mi)(hg:∀s H fp,EG (F4 X N' scope s H fp) B X.N.length tg g)(ht:∀s H fp,U2 (F4 X N' scope s H fp) ifs (pM X.K B t))
  (he:∀s H fp p,uT (F4 X N' scope s H fp) B X.N.length elt (⟨tg,iter,ifs,0⟩::gs) scope pos 0 p a)
  (hs:∀x,foldedSetIterable iter X.env x=pure x:=by intro _;rfl):ES X B (.Assign [.Name y py] (.ListComp elt (⟨tg,iter,ifs,0⟩::gs) scope pos) spos) (K8 i (V5 mi keep more g t a)):=by
 intro pins s σ H D I h;obtain⟨G,env,fl,env',rl,e,k⟩:=h;obtain⟨⟨d,a8⟩,e1,e2⟩:=D9 e;cases e2;exact bJ (act:=tS X.K B X.N.length a) ok hc hN hy hyl hsw hi hg ht (fun s H fp p=>he s H fp p) hs pins s σ H D I (Mr ok.klen σ H _ I.len ⟨G,env,d,_,rl,e1,fun a xs G' H' ev ha no h' g' r=>k _ G' H' (ev.setOwn (fun z=>rl.old a z ha) ha no h' g' r)⟩)
end
def W.view:W->Option D
 |.dat d=>some d
 |.own ds=>some (.lst ds)
 |.par ds=>some (.lst ds)
 |.ownD ks vs=>some (.dct ks vs)
 |.parD ks vs=>some (.dct ks vs)
 |.ownX ks vs=>some (.dcx ks vs)
 |.parX ks vs=>some (.dcx ks vs)
 |.nil=>none
def D.flat:D->Bool
 |.non=>true
 |.bl _=>true
 |.int _=>true
 |.str _=>true
 |_=>false
def Fj(env:a9):List Nat->Option bb
 |[]=>some []
 |i::is=>((env[i]?).bind W.view).bind fun d=>(Fj env is).map fun ds=>d::ds
def Dj(n:Nat)(f:Fn)(is:List Nat):Mo D:=fun env=>(Fj env is).bind fun ds=>if ds.length=n then(f (ds.map W.dat)).bind fun q=>match q.1 with
 |.d d=>if d.flat then some (d,env)else none
 |_=>none else none
inductive k8 (X:Cx):List Expr->List Nat->Prop
 |nil:k8 X [] []
 |cons {x:Str}{p:Pos}{i:Nat}{es:List Expr}{is:List Nat}:PE X (.Name x p) (T0 i)->k8 X es is->k8 X (.Name x p::es) (i::is)
def TVs(is:List Nat):TA:=fun σ H Q=>∃vs,Paired (fun i v=>σ[i]? =some (some v)) is vs/\Q vs H
theorem Mv{X:Cx}:∀{es:au}{is:List Nat},k8 X es is->PA X es (TVs is)
 |_,_,.nil=>nV Q6 fun σ H Q ⟨vs,h,q⟩=>by cases h;exact q
 |_,_,.cons h t=>nV (M3 h (Mv t) rfl) fun σ H Q ⟨vs,h,q⟩=>by
  cases h with
  |cons h1 h2=>exact⟨_,h1,_,h2,q⟩
section
variable{K:Qj}{G:Hp}{σ:St}{env:a9}{H:Hp}
open Classical in
noncomputable def W3 (G:Hp) (σ:St) (env:a9) (H:Hp):Hp:=fun b=>if d9 σ env b then H b else G b
theorem II(rl:Rel K B G σ env H):Le G (W3 G σ env H):=fun b o e=>by
 unfold W3;split
 ·exact rl.sub b o e
 ·exact e
theorem bK(rl:Rel K B G σ env H):Le (W3 G σ env H) H:=fun b o e=>by
 unfold W3 at e;split at e
 ·exact e
 ·exact rl.sub b o e
theorem Mw{b:ah}(h:d9 σ env b):W3 G σ env H b=H b:=Qg h
theorem bL(rl:Rel K B G σ env H){v:V}{d:D}(hv:σ[i]? =some (some v))(h:((env[i]?).bind W.view)=some d):b0 K (W3 G σ env H) v d:=by
 obtain⟨w,e1,e2⟩:=B9 h;have mutc:∀m,w.mut=some m->(∀G1 a o,G1 a=some o->nU K G1 o m->b0 K G1 (.ref a) d)->b0 K (W3 G σ env H) v d:=fun m em hr=>by
  obtain⟨a,o,h1,h2,h3,h4⟩:=rl.own i w m e1 em;rw[hv]at h1;cases h1;exact hr _ a o (by rw[Mw ⟨i,w,m,e1,em,hv⟩];exact h2) (h3.mono (II rl))
 have hl:∀ds,d=.lst ds->∀G1 a o,G1 a=some o->nU K G1 o (.l ds)->b0 K G1 (.ref a) d:=fun ds z G1 a o h ⟨xs,z2,q⟩=>by subst z z2;exact HA h q
 have hd:∀ks vs,d=.dct ks vs->∀G1 a o,G1 a=some o->nU K G1 o (.d ks vs)->b0 K G1 (.ref a) d:=fun ks vs z G1 a o h ⟨kvs,z2,q1,q2⟩=>by subst z z2;simp only[b0];exact⟨a,kvs,rfl,h,q1,q2⟩
 cases w with
 |nil=>cases e2
 |dat d'=>
  cases e2;obtain⟨v',q1,q2⟩:=rl.dat i d e1;rw[hv]at q1;cases q1;exact b0.mono (II rl) d q2
 |own ds=>cases e2;exact mutc _ rfl (hl ds rfl)
 |par ds=>cases e2;exact mutc _ rfl (hl ds rfl)
 |ownD ks vs=>cases e2;exact mutc _ rfl (hd ks vs rfl)
 |parD ks vs=>cases e2;exact mutc _ rfl (hd ks vs rfl)
 |ownX ks vs=>cases e2;exact mutc _ rfl fun G1 a o h ⟨es,ep,xs,z2,q1,q2,q3⟩=>by subst z2;simp only[b0];exact⟨a,es,ep,xs,rfl,h,q1,q2,q3⟩
 |parX ks vs=>cases e2;exact mutc _ rfl fun G1 a o h ⟨es,ep,xs,z2,q1,q2,q3⟩=>by subst z2;simp only[b0];exact⟨a,es,ep,xs,rfl,h,q1,q2,q3⟩
theorem bM(rl:Rel K B G σ env H):∀{is:List Nat}{vs:ba}{ds:bb},Paired (fun i v=>σ[i]? =some (some v)) is vs->Fj env is=some ds->B4 K (W3 G σ env H) vs ds:=by
 intro is vs ds p
 induction p generalizing ds with
 |nil=>intro e;cases e;exact f7
 |cons h t ih=>
  intro e;obtain⟨d,e1,e2⟩:=B9 e;obtain⟨ds',e3,e4⟩:=D9 e2;subst e4;exact f6 (bL rl h e1) (ih e3)
theorem bN{a:ah}:¬ d9 (vs.map some) (ds.map W.dat) a:=by
 rintro⟨i,w,m,e1,e2,_⟩;rw[Zw]at e1;cases q:ds[i]? with
 |none=>rw[q]at e1;cases e1
 |some d=>rw[q]at e1;cases e1;cases e2
theorem bO(rl:Rel K B G σ env H)(r:B4 K (W3 G σ env H) vs ds):Rel K M7 (W3 G σ env H) (vs.map some) (ds.map W.dat) H:=by
 have no:∀(i:Nat) (w:W) (m:Mu),(ds.map W.dat)[i]? =some w->w.mut=some m->False:=fun i w m e1 e2=>by
  rw[Zw]at e1;cases q:ds[i]? with
  |none=>rw[q]at e1;cases e1
  |some d=>rw[q]at e1;cases e1;cases e2
 refine⟨bK rl,by simp[r.length],fun i d e=>?_,fun i w m e1 e2=>(no i w m e1 e2).elim,fun i j w w' m m' a e1 e2=>(no i w m e1 e2).elim,fun i w a e1 eo _ h=>h,fun b h=>h.elim,rl.tabs,fun b o e=>?_⟩
 ·rw[Zw]at e;cases q:ds[i]? with
  |none=>rw[q]at e;cases e
  |some d'=>
   rw[q]at e;cases e;obtain⟨v,g1,g2⟩:=r.get q;exact⟨v,by rw[Zw,g1];rfl,g2⟩
 ·unfold W3 at e;split at e
  ·rename_i ow;obtain⟨i,w,m,q1,q2,q3⟩:=ow;obtain⟨a,o',p1,p2,p3,_⟩:=rl.own i w m q1 q2;rw[q3]at p1;cases p1;rw[p2]at e;cases e;exact p3.nt
  ·exact rl.gnt b o e
theorem bP(rl:Rel K B G σ env H){G2 H2:Hp}{ws':bf}(ev:Ev K M7 (W3 G σ env H) (vs.map some) (ds.map W.dat) H G2 (vs.map some) ws' H2):Ev K B G σ env H G σ env H2:=by
 have le2:Le G H2:=((II rl).trans ev.same).trans ev.rel.sub;refine⟨⟨le2,rl.len,rl.dat,fun i w m e1 e2=>?_,rl.inj,rl.fresh,fun b h=>ev.live b (rl.old b h),ev.rel.tabs,rl.gnt⟩,Le.refl,fun b o _ t e=>ev.keep b o bN t e,ev.live,fun b _ _ g=>g,fun a z=>.inl z,fun i w e hp=>⟨rfl,w,e,hp⟩,rfl⟩;obtain⟨a,o,h1,h2,h3,h4⟩:=rl.own i w m e1 e2;exact⟨a,o,h1,ev.rel.sub _ _ (ev.same _ _ (by rw[Mw ⟨i,w,m,e1,e2,h1⟩];exact h2)),h3,h4⟩
end
section
variable{p:Pos}{e:Expr}{es:au}{is:List Nat}{fn:Fn}{k n:Nat}{x:Str}
theorem My(D:Def X.prog X.w X.K X.mg X.base x k n fn)(hr:g9 k X.A)(hg:Gl X x)(ha:k8 X (e::es) is)(hdb:(x==("__debug__":Str))=false:=by decide)
  (he:starEach (e::es) X.env=(false,eval e X.env)::starEach es X.env:=by rfl)(hpl:(backTo pos (starEach es X.env)).any (·.1)=false:=by rfl):
  ED X B (.Call (.Name x p) (e::es) [] pos) (Dj n fn is):=by
 obtain⟨f,fd,ps,F,rfl,hm,hk,hb⟩:=D.ex;refine c9 (Es F hr hg hm hk hb .nil Gw (Mv ha) hdb he hpl) ?_;rintro σ H Q ⟨G,env,d,env',rl,e,k⟩;obtain⟨ds,e1,e2⟩:=B9 e;split at e2
 case isFalse=>cases e2
 rename_i hn;obtain⟨⟨r,ws'⟩,e3,e4⟩:=B9 e2;cases r with
 |l _=>cases e4
 |d d'=>
  dsimp only at e4;split at e4
  case isFalse=>cases e4
  rename_i hf;cases e4;have wF:∀(is:List Nat) (ds:List Mir.D),Fj env is=some ds->∃vs:ba,Paired (fun i v=>σ[i]? =some (some v)) is vs:=by
   intro is
   induction is with
   |nil=>intro ds _;exact⟨[],.nil⟩
   |cons i is ih=>
    intro ds h;obtain⟨d0,h1,h2⟩:=B9 h;obtain⟨ds1,h3,h4⟩:=D9 h2;obtain⟨w,w1,w2⟩:=B9 h1;obtain⟨vs,hv⟩:=ih ds1 h3;have:∃v,σ[i]? =some (some v):=by
     cases w with
     |nil=>cases w2
     |dat d2=>obtain⟨v,q,_⟩:=rl.dat i _ w1;exact⟨v,q⟩
     |own ds2=>obtain⟨a,_,q,_⟩:=rl.own i _ _ w1 rfl;exact⟨_,q⟩
     |par ds2=>obtain⟨a,_,q,_⟩:=rl.own i _ _ w1 rfl;exact⟨_,q⟩
     |ownD _ _=>obtain⟨a,_,q,_⟩:=rl.own i _ _ w1 rfl;exact⟨_,q⟩
     |parD _ _=>obtain⟨a,_,q,_⟩:=rl.own i _ _ w1 rfl;exact⟨_,q⟩
     |ownX _ _=>obtain⟨a,_,q,_⟩:=rl.own i _ _ w1 rfl;exact⟨_,q⟩
     |parX _ _=>obtain⟨a,_,q,_⟩:=rl.own i _ _ w1 rfl;exact⟨_,q⟩
    obtain⟨v,q⟩:=this;exact⟨v::vs,.cons q hv⟩
  obtain⟨vs,hv⟩:=wF is ds e1;have rp:=bM rl hv e1;refine⟨vs,hv,?_⟩;show nY X.K ps.length fn (vs++[]) H Q _;rw[Jo];refine⟨W3 G σ env H,ds.map W.dat,.d d,ws',by simpa using hn,fun w hw=>?_,bO rl rp,e3,fun v G2 H2 ev r2=>k v G H2 (bP rl ev) ?_⟩
  ·obtain⟨d1,_,rfl⟩:=Zm.mp hw;exact .inl ⟨d1,rfl⟩
  ·cases d<;>first|(simp only[b0]at r2 ⊢;exact r2)|cases hf
end
end L2.Mir
namespace L2.Mir
open PySem PyProof PyProof.Rows L2
variable{A:Around}{B:OE}{E:OU}{G H:Hp}{K:Qj}{X:Cx}{e:Expr}{pos:Pos}{prog:af}{r:Nat}{s:ak}{w:ag}{σ:St}
variable{X:Cx}{B:OE}
def AB:OO->OO->Bool
 |[],[]=>false
 |[],_::_=>true
 |_::_,[]=>false
 |x::xs,y::ys=>if x=y then AB xs ys else HT.lexLt x y
theorem bQ(x y:aq)(xs ys:OO):AB (x::xs) (y::ys)=if x=y then AB xs ys else HT.lexLt x y:=rfl
inductive j9 (h:Heap):List Value->OO->Prop
 |nil:j9 h [] []
 |cons {a:Addr}{its:Array Value}{k:List Int}{vs:List Value}{ks:OO}(t:IsTup h a its) (i:IntsAre its.toList k) (r:j9 h vs ks):j9 h (.ref a::vs) (k::ks)
theorem j9.length{h:Heap}{vs:ao}{ks:OO}(r:j9 h vs ks):vs.length=ks.length:=by
 induction r with
 |nil=>rfl
 |cons _ _ _ ih=>simp[ih]
theorem IJ{h:Heap}:∀{vs:ao}{ns:aq},IntsAre vs ns->∃as,ReadsAll h vs (ns.map PyData.int) as
 |_,_,.nil=>⟨_,.nil⟩
 |_,_,.cons n t r=>by
  obtain⟨as,q⟩:=IJ (h:=h) r;exact⟨_,.cons (.int n t) q⟩
theorem CW:∀ns:aq,PyData.canLayAll0 (ns.map PyData.int)=true
 |[]=>rfl
 |n::ns=>by simp[PyData.canLayAll0,PyData.canLay0,CW ns]
theorem NA:∀ns:aq,PyData.depthAll (ns.map PyData.int)≤1
 |[]=>by simp[PyData.depthAll]
 |n::ns=>by
  have:=NA ns;simp only[Qm,PyData.depthAll,PyData.depth];omega
theorem NB:∀l k:aq,PyData.eqvAll (l.map PyData.int) (k.map PyData.int)=decide (l=k)
 |[],[]=>by simp[PyData.eqvAll]
 |[],_::_=>by simp[PyData.eqvAll]
 |_::_,[]=>by simp[PyData.eqvAll]
 |a::l,b::k=>by
  simp only[Qm,PyData.eqvAll,NB l k,PyData.eqv]
  by_cases h:a=b<;>simp[h]
theorem bR{a b:ah}{xs ys:az}{l k:aq}(ta:IsTup s.heap a xs)(ia:IntsAre xs.toList l)(tb:IsTup s.heap b ys)(ib:IntsAre ys.toList k)(hu:A.units+8<cLine):
  SeqAt.EqAt A s (.ref a) (.ref b) (decide (l=k)):=by
 obtain⟨o,h1,h2,n,h3⟩:=ta;obtain⟨o',g1,g2,n',g3⟩:=tb;obtain⟨as,ra⟩:=IJ (h:=s.heap) ia;obtain⟨bs,rb⟩:=IJ (h:=s.heap) ib;have c1:(PyData.tuple (l.map .int)).canLay0=true:=by simpa [PyData.canLay0]using CW l
 have c2:(PyData.tuple (k.map .int)).canLay0=true:=by simpa [PyData.canLay0]using CW k
 have d1:(PyData.tuple (l.map .int)).depth≤2:=by
  have:=NA l;simp only[PyData.depth];omega
 have:=SeqAt.eqAt_reads (.tuple (l.map .int)) (.tuple (k.map .int)) A s (.ref a) (.ref b) _ _ (.tuple h1 h2 h3 ra) (.tuple g1 g2 g3 rb) c1 c2 (by
  have:min (PyData.tuple (l.map .int)).depth (PyData.tuple (k.map .int)).depth≤(PyData.tuple (l.map .int)).depth:=Nat.min_le_left _ _;omega)
 have e:PyData.eqv (.tuple (l.map .int)) (.tuple (k.map .int))=decide (l=k):=by
  rw[←NB l k];simp[PyData.eqv]
 rw[e]at this;exact this
section
open PySem.SeqAt
open PySem.AutoSeq1 (wpAny_loadPart')
open PySem.MeetsSeq PySem.MeetsSeq2 PySem.MeetsSeq3
end
def pH:bb->Option (OO)
 |[]=>some []
 |.tup x::r=>(i9 x).bind fun a=>(pH r).map fun l=>a::l
 |_::_=>none
section
variable{pins:OA}
theorem NC(I:Inv X pins σ H s)(l:Le G H):∀{ds:bb}{xs:ba}{us:ao}{ks:OO},C7 xs us->B4 X.K G xs ds->pH ds=some ks->j9 s.heap us ks
 |[],_,_,_,v,r,e=>by
  simp only[B4]at r;subst r;cases v;cases e;exact .nil
 |d::ds,_,_,ks,v,r,e=>by
  simp only[B4]at r;obtain⟨x,t,rfl,q,r⟩:=r;cases d<;>first|(exact absurd (show(none:Option (OO))=some ks from e) (by simp))|skip
  rename_i es;obtain⟨k,e1,e2⟩:=B9 (show(i9 es).bind _=some ks from e);obtain⟨l',e3,e4⟩:=D9 e2;subst e4;simp only[b0]at q;obtain⟨a,ys,rfl,hq,rp⟩:=q;have hy:=AZ rp e1;subst hy;cases v with
  |cons v1 v2=>
   cases v1;obtain⟨its,rv,p1,_⟩:=I.tuple (l.sqT hq);exact .cons p1 (by simpa using Et rv) (NC I l v2 r e3)
end
section
variable{st:Expr}{ma:Mo D}{p2:Pos}
end
section
variable{h₀:Heap}{L kS D:ah}{m:OI}{news0:OA}{e1:Nat}{Fin:ao->Nat->ak->Prop}
end
section
variable{pins:OA}
end
section
variable{ma:Mo D}{p p1 kp1 kp2:Pos}{j:Nat}{p2:Pos}
end
section
open PySem.SeqAt
open PySem.AutoSeq1 (wpAny_loadPart')
open PySem.MeetsSeq PySem.MeetsSeq2 PySem.MeetsSeq3
end
section
variable{o:Expr}{ma mb:Mo D}
end
section
variable{H0 G':Hp}{σ':St}{env env':a9}{H':Hp}
end
section
variable(K:Qj)(B:OE)(r:Nat)
end
section
variable{a b:Expr}{st:Stmt}{rest:List Stmt}
end
section
variable{a b tg:Expr}{st:Stmt}{rest:List Stmt}
end
mutual
def D.lf:D->Bool
 |.non=>true
 |.bl _=>true
 |.int _=>true
 |.str _=>true
 |.tup ds=>vE ds
 |_=>false
def vE:bb->Bool
 |[]=>true
 |d::ds=>d.lf&&vE ds
end
section
variable{G':Hp}
mutual
theorem uN(h:∀b xs,G b=some (.tup xs)->G' b=some (.tup xs)):∀(d:D) {v:V},d.lf=true->b0 K G v d->b0 K G' v d
 |.non,v,_,r=>by simpa only[b0]using r
 |.bl b,v,_,r=>by simpa only[b0]using r
 |.int i,v,_,r=>by simpa only[b0]using r
 |.str x,v,_,r=>by simpa only[b0]using r
 |.tup ds,v,l,r=>by
  simp only[b0]at r ⊢;obtain⟨a,xs,e,q,t⟩:=r;exact⟨a,xs,e,q.imp (fun e=>h _ _ e) id,qV h ds (by simpa only[D.lf]using l) t⟩
 |.lst ds,v,l,r=>by simp[D.lf]at l
 |.emp,v,l,r=>by simp[D.lf]at l
 |.obj o,v,l,r=>by simp[D.lf]at l
 |.dct _ _,v,l,r=>by simp[D.lf]at l
 |.dcx _ _,v,l,r=>by simp[D.lf]at l
theorem qV(h:∀b xs,G b=some (.tup xs)->G' b=some (.tup xs)):∀(ds:bb) {xs:ba},vE ds=true->B4 K G xs ds->B4 K G' xs ds
 |[],_,_,r=>by simpa only[B4]using r
 |d::ds,_,l,r=>by
  simp only[B4]at r ⊢;obtain⟨x,t,e,q,u⟩:=r;have l':d.lf=true/\vE ds=true:=by simpa only[vE,Qr]using l
  exact⟨x,t,e,uN h d l'.1 q,qV h ds l'.2 u⟩
end
end
section
variable{H0:Hp}{env:a9}
end
section
variable{p px:Pos}{fn:Fn}{k n:Nat}{x y:Str}
end
section
variable{G1:Hp}{σ1:St}{env a8:a9}{H1:Hp}
end
section
variable{N':ar}{scope:Scope}{keep:ay}{more:Nat}{tg iter elt:Expr}{g:OX}{ml mi:Mo bb}
end
section
variable{ma:Mo D}{p2:Pos}
end
open PySem.W Builtin Builtin.ObjectAttr Builtin.Getset_descriptor PySem.Calls
theorem x9:typeLookup (.type "function") "__getattribute__"=pure (some (.builtin "object.__getattribute__")):=by rfl
theorem wY:getOf (some (.builtin "object.__class__"))=pure (some (.builtin "getset_descriptor.__get__")):=by rfl
section
variable{x:ah}{h:Heap}{g:Array GenState}{d:Drawn}{t:Nat}{os:OsState}
end
def yF(K:Qj)(mg:OI)(x:Str):Prop:=∃f,PySem.W.nsIn K mainGlobals x=some (some (.ref f))/\mg x=some (.ref f)/\PySem.W.KitX K (.ref f) (.type "function") (fun _=>True)
section
variable{es:au}{p:Pos}{y:Str}{i k n:Nat}{as:Mo (List Ar)}
def bT(X:Cx)(n:Nat)(l:List (Str×Fn)):Prop:=∀nm fn,l.lookup nm=some fn->∃k,g9 k X.A/\Def X.prog X.w X.K X.mg X.base nm k n fn/\yF X.K X.mg nm
def bU(X:Cx)(n:Nat)(l:List (Str×(bf->Option Str))):Prop:=∀nm g,l.lookup nm=some g->∃k,g9 k X.A/\qL X.prog X.w X.K X.mg X.base nm k n g/\yF X.K X.mg nm
end
inductive pU (K:Qj) (G:Hp):List V->List (List Int×V)->Prop
 |nil:pU K G [] []
 |cons {q b:Addr}{k:List Int}{v:V}{xs:List V}{ps:List (List Int×V)}:qT K G q [.ref b,v]->bG K G b k->pU K G xs ps->pU K G (.ref q::xs) ((k,v)::ps)
section
variable{pins:OA}{R:Result->ak->Prop}{l it d:ah}{xs:ba}
end
end L2.Mir
namespace L2.Mir
open PySem PySem.Spec PyProof.Rows PySem.W
variable{A:Around}{B:OE}{E:OU}{G H:Hp}{K:Qj}{P prog:af}{Q:Option aj->ak->Prop}{X:Cx}{a b e tg:Expr}{apos cpos p pos tp:Pos}{d:D}{ds:bb}{elts:au}{ep i j k kk mask n q:Nat}{es:Array (Int×aj)}{h:Heap}{hs:aq}{ks:List KX}{m ma mb:Mo D}{ow:Array (Option Nat)}{pins:OA}{s:ak}{t':aa}{v:aj}{w:ag}{x:Str}{xs:ba}{ys:List (KX×ah×aj)}{α:Type}
structure a0B(P:af)(w:ag)(K:Frag)(mg:OI)(base:Heap)(x:Str)(k n:Nat)(fn:Fn)(ts:List ah):Prop where
 ex:∃(f:ah) (fd:FuncData) (ps:ar),i4 P w K mg base mZ k f fd ps (uM K ts n fn)/\ps.length=n/\mg x=some (.ref f)/\keepIn K (.ref f)=true/\Q7 K fd ps []
section
variable{es:au}{as:Mo (List Ar)}{fn:Fn}{ts:List ah}{f:ah}{fd:FuncData}{ps:ar}{t:TA}{E:XK}
end
theorem L9{N P:ar}{sc:Scope}(a:sc.kind=.function:=by rfl)(b:sc.isCoroutine=false:=by rfl)(c:sc.isGenerator=false:=by rfl)(d:N.Nodup:=by rfl')(e:N.take P.length=P:=by rfl)(f:∀x∈P,sc.names.lookup x=some .local\/sc.names.lookup x=some .cell:=by rfl')(g:∀y∈sc.names,y.2≠.free:=by rfl'):c8 N P sc:=⟨a,b,c,d,e,f,g⟩
theorem rK{M:List α->Prop}(h:∀a,M [a]):∀us:List α,us.length=1->M us
 |[a],_=>h a
theorem tT{M:List α->Prop}(h:∀a b,M [a,b]):∀us:List α,us.length=2->M us
 |[a,b],_=>h a b
theorem yG{M:List α->Prop}(h:∀a b c,M [a,b,c]):∀us:List α,us.length=3->M us
 |[a,b,c],_=>h a b c
section
variable{o:Expr}
end
section
variable{o:Expr}
end
section
variable{e2:Expr}
end
def yH:List (Key×Key)->Key->Option Key
 |[],_=>none
 |p::l,k=>if p.1=k then some p.2 else yH l k
structure DkG(P:af)(w:ag)(K:Qj)(mg:OI)(x:Str)(kvs:List (Key×Key)):Prop where
 ex:∃a,mg x=some (.ref a)/\(a==sysModules)=false/\∀h:Heap,K.In h->(∃o,h.get? a=some o/\o.cls=.type "dict")/\∃g:Key->Option aj,h.MapOf (L5 P w) a g/\∀k,Ej ((yH kvs k).map kV) (g k)
section
variable{kvs:List (Key×Key)}
end
section
variable{k1 k2 k3 v1 v2 v3:Expr}{a1 a2 a3 b1 b2 b3:Key}
end
inductive uO (P:Program) (w:World):List DictEntry->List (Key×Key)->Prop
 |nil:uO P w [] []
 |cons {e:DictEntry}{p:Key×Key}{es:List DictEntry}{kvs:List (Key×Key)}:D1 (kV p.1) e.key->e.hash=(L5 P w).hash p.1->D1 (kV p.2) e.val->uO P w es kvs->uO P w (e::es) (p::kvs)
section
variable{st:Expr}{p2:Pos}
end
def yI:List (Str×Str)->Key->Option Str
 |[],_=>none
 |p::l,k=>if(.inr p.1:Key)=k then some p.2 else yI l k
def bV(mg:OI):Option Str->Option aj->Prop
 |none,o=>o=none
 |some n,o=>∃f,mg n=some (.ref f)/\o=some (.ref f)
structure DfG(P:af)(w:ag)(K:Qj)(mg:OI)(x:Str)(kvs:List (Str×Str)):Prop where
 ex:∃a,mg x=some (.ref a)/\(a==sysModules)=false/\∀h:Heap,K.In h->(∃o,h.get? a=some o/\o.cls=.type "dict")/\∃g:Key->Option aj,h.MapOf (L5 P w) a g/\∀k,bV mg (yI kvs k) (g k)
 wk:(kvs.map fun p=>(.inr p.1:Key)).Nodup->∃a vs ep,mg x=some (.ref a)/\(a==sysModules)=false/\vs.map (·.1)=kvs.map (fun p=>(.inr p.1:Key))/\∀h:Heap,K.In h->h.DictAt (L5 P w) a vs ep
section
variable{kvs:List (Str×Str)}
end
inductive uP (P:Program) (w:World) (mg:OI):List DictEntry->List (Str×Str)->Prop
 |nil:uP P w mg [] []
 |cons {e:DictEntry}{p:Str×Str}{f:Addr}{es:List DictEntry}{kvs:List (Str×Str)}:D1 (.str p.1) e.key->e.hash=(L5 P w).hash (.inr p.1)->e.val=.ref f->mg p.2=some (.ref f)->uP P w mg es kvs->uP P w mg (e::es) (p::kvs)
section
variable{G':Hp}{σ σ':St}{env env':a9}{H':Hp}
theorem Ev.layO{a:ah}{o o0:HO}(v:Ev K B G σ env H G' σ' env' H')(ha:H a=none)(no:¬ d9 σ' env' a)(h':H' a=some o0)(ne:∀φ,o0≠.ext φ)(nt:NT o)(g':G' a=none):
  Ev K B G σ env H (upd G' a o) σ' env' (upd H' a o):=by
 have live':∀c,H' c≠none->(upd H' a o) c≠none:=fun c hc=>by
  by_cases hb:c=a
  ·subst hb;rw[D7];simp
  ·rw[C6 hb];exact hc
 refine⟨⟨fun b u e=>?_,v.rel.len,fun i d e=>?_,fun i w ds e1 e2=>?_,v.rel.inj,v.rel.fresh,fun c hc=>live' c (v.rel.old c hc),v.rel.tabs.upd nt (fun φ z=>by rw[h']at z;exact ne φ (Yl z)),FA v.rel.gnt nt⟩,v.same.trans (Le.upd g'),fun c u n t e=>?_,fun c e=>live' c (v.live c e),fun b e n g=>?_,v.sub,v.par,v.slen⟩
 ·by_cases hb:b=a
  ·subst hb;rw[D7]at e ⊢;exact e
  ·rw[C6 hb]at e ⊢;exact v.rel.sub b u e
 ·obtain⟨x,e1,e2⟩:=v.rel.dat i d e;exact⟨x,e1,b0.mono (Le.upd g') d e2⟩
 ·obtain⟨p,ys,e3,e4,e5,e6⟩:=v.rel.own i w ds e1 e2;have hp:p≠a:=fun z=>no ⟨i,w,ds,e1,e2,by rw[←z];exact e3⟩;exact⟨p,ys,e3,by rw[C6 hp];exact e4,e5.mono (Le.upd g'),by rw[C6 hp];exact e6⟩
 ·rw[C6 (fun z=>by rw[z,ha]at e;cases e)];exact v.keep c u n t e
 ·have hb:b≠a:=fun z=>e (z ▸ ha);rw[C6 hb];exact v.stay b e n g
end
section
variable{k1 k2 k3 k4 v1 v2 v3 v4:Expr}{a1 a2 a3 a4:Str}{m1 m2 m3 m4:Mo D}
end
section
variable{fn:Fn}
end
section
variable{kvs:List (Str×Str)}
end
section
variable{R:Result->ak->Prop}{I S:ah}{fp wr:List ah}{P:Nat->aj->Prop}{St:Nat->Heap->Prop}{bt:Nat->Nat->Bool}{Z:Heap->Prop}
end
section
variable{p1:Pos}{e2:Expr}{fn:Fn}{y:Str}
end
def O8(h:Heap):ao->List (OO)->Prop
 |[],[]=>True
 |v::vs,k::ks=>(∃a its,v=.ref a/\IsTup h a its/\j9 h its.toList k/\k≠[])/\O8 h vs ks
 |_,_=>False
theorem O8.mono{h h':Heap}:∀{vs:ao}{ks:List (OO)},O8 h vs ks->(∀a its,IsTup h a its->IsTup h' a its)->O8 h' vs ks
 |[],[],_,_=>trivial
 |v::vs,k::ks,⟨⟨a,its,e,t,i,n⟩,r⟩,f=>by
  refine⟨⟨a,its,e,f _ _ t,?_,n⟩,O8.mono r f⟩;clear t e n r;generalize its.toList=us at *
  induction i with
  |nil=>exact .nil
  |cons t i _ ih=>exact .cons (f _ _ t) i ih
 |[],_::_,h,_=>h.elim
 |_::_,[],h,_=>h.elim
theorem O8.len{h:Heap}:∀{vs:ao}{ks:List (OO)},O8 h vs ks->vs.length=ks.length
 |[],[],_=>rfl
 |v::vs,k::ks,h=>by simp[O8.len h.2]
 |[],_::_,h=>h.elim
 |_::_,[],h=>h.elim
theorem O8.get{h:Heap}:∀{vs:ao}{ks:List (OO)}{i:Nat},O8 h vs ks->i<vs.length->∃a its,vs.getD i Value.none=.ref a/\IsTup h a its/\j9 h its.toList (ks.getD i [])
 |v::vs,k::ks,0,⟨⟨a,its,e,t,i,n⟩,r⟩,_=>⟨a,its,by simpa using e,t,by simpa using i⟩
 |v::vs,k::ks,i+1,⟨_,r⟩,hi=>by
  obtain⟨a,its,e,t,j⟩:=O8.get (i:=i) r (by simpa using hi);exact⟨a,its,by simpa using e,t,by simpa using j⟩
 |[],_,_,_,hi=>by simp at hi
 |_::_,[],_,h,_=>h.elim
theorem bW{M:Model}{a:ah}{its:az}(t:IsTup h a its):PySem.W.Looks M h (typeOf (.ref a)) (.type "tuple"):=by
 obtain⟨o,h1,h2,_⟩:=t;exact h2 ▸ (PySem.W.Looks.ld h1).andThen .now
theorem O8.firsts{h:Heap}:∀{vs:ao}{ks:List (OO)},O8 h vs ks->∃fs,PySem.W.KatTups h vs fs/\fs.length=vs.length/\∀v∈fs,∃a its,v=Value.ref a/\IsTup h a its
 |[],[],_=>⟨[],.nil,rfl,fun _ h=>nomatch h⟩
 |_::vs,k::ks,⟨⟨a,its,rfl,⟨o,h1,h2,n,h3⟩,hi,hn⟩,r⟩=>by
  obtain⟨fs,f1,f2,f3⟩:=O8.firsts r;obtain⟨its⟩:=its;dsimp only at hi;cases hi with
  |nil=>exact absurd rfl hn
  |@cons b jts _ us _ t i hr=>
   refine⟨.ref b::fs,.cons h1 h2 h3 (by simp) f1,by simp[f2],fun v hv=>?_⟩;rcases Qp.mp hv with rfl|hv
   ·exact⟨b,jts,rfl,t⟩
   ·exact f3 v hv
 |[],_::_,h=>h.elim
 |_::_,[],h=>h.elim
def BG(fin:Bool):OO->OO->Bool
 |a::as,b::bs=>if a=b then BG fin as bs else HT.lexLt a b
 |_,_=>fin
theorem ND:∀(as bs:OO),BG (decide (as.length<bs.length)) as bs=AB as bs
 |[],[]=>rfl
 |[],_::_=>by simp[BG,AB]
 |_::_,[]=>by simp[BG,AB]
 |a::as,b::bs=>by
  rw[bQ,←ND as bs];simp[BG]
section
variable{fin:Bool}{Q:Bool->ak->Prop}
theorem bY(hu:A.units+8<cLine){us:ao}{as:OO}(h1:j9 s.heap us as):∀{ws:ao}{bs:OO}{i:Nat},j9 s.heap ws bs->Q (BG fin as bs) s->PySem.W.KatLex prog w A false fin Q (us.zip ws) i s:=by
 induction h1 with
 |nil=>intro ws bs i _ q;exact q
 |@cons _ _ a _ _ ta ia ha ih=>
  intro ws bs i h2 q;cases h2 with
  |nil=>exact q
  |@cons _ _ b _ _ tb ib hb=>
   refine PySem.W.kat_cons (bR ta ia tb ib hu prog w _ _ ?_)
   by_cases e:a=b
   ·subst e;rw[Yb rfl];exact PySem.W.kat_yes (ih hb (by simpa [BG]using q))
   ·rw[Zg e];refine PySem.W.kat_no ?_;have q':Q (HT.lexLt a b) s:=by simpa [BG,e]using q
    exact PySem.W.kat_one _ _ (HT.qI ta tb ia ib (by omega) (show PySem.W.BoolBack Q (.bool (HT.lexLt a b)) s from q'))
end
def Bj:bb->Option (List (OO))
 |[]=>some []
 |.tup as::r=>(pH as).bind fun t=>if t.isEmpty then none else(Bj r).map fun l=>t::l
 |_::_=>none
section
variable{σ:St}
theorem NF(I:Inv X pins σ H s)(l:Le G H):∀{ds:bb}{xs:ba}{us:ao}{ks:List (OO)},B4 X.K G xs ds->C7 xs us->Bj ds=some ks->O8 s.heap us ks
 |[],_,us,ks,r,v,e=>by simp only[B4]at r;subst r;cases v;cases e;trivial
 |d::ds,_,us,ks,r,v,e=>by
  simp only[B4]at r;obtain⟨x,t,rfl,q,r⟩:=r;unfold Bj at e;split at e
  ·rename_i z;cases z
  ·rename_i as r' z;cases z;obtain⟨k,e1,e2⟩:=B9 e;split at e2
   ·cases e2
   ·rename_i hne;obtain⟨ks',e3,e4⟩:=D9 e2;subst e4;simp only[b0]at q;obtain⟨a,ys,rfl,q1,q2⟩:=q;cases v with
    |cons v1 v2=>
     cases v1;obtain⟨its,rv,p,_⟩:=I.tuple (l.sqT q1);exact⟨⟨a,its.toArray,rfl,p,by simpa using NC I l rv q2 e1,fun z=>hne (by rw[z];rfl)⟩,NF I l r v2 e3⟩
  ·cases e
end
theorem IK{g:OX}{t:Mo Bool}{m:Mo D}:∀{ds:bb}{env e:a9}{r:bb},O0 g t m ds env=some (r,e)->N2 g t (L8 m) ds env=some (r,e)/\r.length≤ds.length
 |[],env,e,r,h=>by cases h;exact⟨rfl,Qy _⟩
 |d::ds,env,e,r,h=>by
  obtain⟨e1,h1,h⟩:=B9 h;obtain⟨⟨b,e2⟩,h2,h⟩:=B9 h;have goal:∀z,((g d env).bind fun e1=>(t e1).bind fun p=>if p.1 then(L8 m p.2).bind fun q'=>(N2 g t (L8 m) ds q'.2).map fun r=>(q'.1++r.1,r.2)else N2 g t (L8 m) ds p.2)=z->N2 g t (L8 m) (d::ds) env=z:=fun z h=>h;cases b with
  |false=>
   obtain⟨a1,a2⟩:=IK (show O0 g t m ds e2=some (r,e)from h);exact⟨goal _ (by rw[h1,Qk,h2];exact a1),Nat.le_succ_of_le a2⟩
  |true=>
   obtain⟨⟨x,e3⟩,h3,h⟩:=B9 (show(m e2).bind (fun q=>(O0 g t m ds q.2).map fun r=>(q.1::r.1,r.2))=some (r,e)from h);obtain⟨⟨r',e4⟩,h4,h5⟩:=D9 h;cases h5;obtain⟨a1,a2⟩:=IK h4;refine⟨goal _ ?_,Rt a2⟩;have he:L8 m e2=some ([x],e3):=by
    show(m e2).map _=_;rw[h3];rfl
   rw[h1,Qk,h2];show(L8 m e2).bind _=_;rw[he];show(N2 g t (L8 m) ds e3).map _=_;rw[a1];rfl
theorem NG{mi:Mo bb}{keep:ay}{more:Nat}{g:OX}{t:Mo Bool}{env:a9}{x:bb×a9}(h:N1 mi keep more g t m env=some x):V5 mi keep more g t (L8 m) env=some x:=by
 obtain⟨p,h1,h⟩:=B9 h;split at h
 case isFalse=>cases h
 rename_i hl;obtain⟨⟨r,e⟩,h2,h3⟩:=B9 h;obtain⟨a1,a2⟩:=IK h2;unfold V5;rw[h1,Qk,a1,Qk,Qg (Qn a2 hl)];exact h3
section
variable{N':ar}{scope:Scope}{keep:ay}{more:Nat}{iter elt:Expr}{ifs:au}{g:OX}{t:Mo Bool}{mi:Mo bb}
theorem BH(ok:mY X N' scope keep more)(hc:X.calm=true)(hi:EI X B tg iter mi)(hg:∀s H fp,EG (F4 X N' scope s H fp) B X.N.length tg g)(ht:∀s H fp,U2 (F4 X N' scope s H fp) ifs (pM X.K B t))(he:∀s H fp,ED (F4 X N' scope s H fp) B elt m)
  (hs:∀x,foldedSetIterable iter X.env x=pure x:=by intro _;rfl):EL X B (.ListComp elt [⟨tg,iter,ifs,0⟩] scope pos) (N1 mi keep more g t m):=
 c9 (bF ok hc hi hg ht (fun s H fp p=>CV rfl (he s H fp)) hs) (by rintro σ H Q ⟨G,env,d,env',rl,e,k⟩;exact⟨G,env,d,env',rl,NG e,k⟩)
theorem NH{y:Str}{py spos:Pos}(ok:mY X N' scope keep more)(hc:X.calm=true)(hN:X.N.Nodup)(hy:X.N[i]? =some y)(hyl:X.env.scope.names.lookup y=some .local)
  (hsw:swapsWith (.ListComp elt [⟨tg,iter,ifs,0⟩] scope pos) (some (.Name y py)) spos.line X.env=pure true)
  (hi:EI X B tg iter mi)(hg:∀s H fp,EG (F4 X N' scope s H fp) B X.N.length tg g)(ht:∀s H fp,U2 (F4 X N' scope s H fp) ifs (pM X.K B t))(he:∀s H fp,ED (F4 X N' scope s H fp) B elt m)
  (hs:∀x,foldedSetIterable iter X.env x=pure x:=by intro _;rfl):ES X B (.Assign [.Name y py] (.ListComp elt [⟨tg,iter,ifs,0⟩] scope pos) spos) (K8 i (N1 mi keep more g t m)):=by
 refine j8 (Di (i:=i) ok hc hN hy hyl hsw hi hg ht (fun s H fp p=>CV rfl (he s H fp)) hs) ?_;rintro D σ H ⟨G,env,fl,env',rl,e,k⟩;obtain⟨⟨d,a8⟩,e1,e2⟩:=D9 e;cases e2;refine⟨G,env,.nx,a8.set i (.own d),rl,?_,k⟩;show(V5 mi keep more g t (L8 m) env).map _=_;rw[NG e1];rfl
end
def tD(xs:Array Nat):Prop:=∀a b,a<b->b<xs.size->xs.getD a 0<xs.getD b 0
theorem IL{xs:Array Nat}(h:tD xs){a b:Nat}(l:a≤b)(hb:b<xs.size):xs.getD a 0≤xs.getD b 0:=by
 rcases Jx a b with q|q
 ·exact Zy (h a b q hb)
 ·have:a=b:=by omega
  subst this;exact Qy _
theorem bZ{xs:Array Nat}(h:i<xs.size):xs.getD i j=xs.getD i 0:=by simp[Array.getD,h]
theorem IM{xs:Array Nat}{j:Nat}(hs:tD xs):∀(f lo hi:Nat),lo≤hi->hi≤xs.size->hi-lo≤f->(∀q,q<lo->xs.getD q 0<j)->(∀q,hi≤q->q<xs.size->j≤xs.getD q 0)->
  SetTable.below.go xs j f lo hi≤xs.size/\(∀q,q<SetTable.below.go xs j f lo hi->xs.getD q 0<j)/\(∀q,SetTable.below.go xs j f lo hi≤q->q<xs.size->j≤xs.getD q 0)
 |0,lo,hi,h1,h2,h3,h4,h5=>by
  have:lo=hi:=by omega
  subst this;exact⟨h2,h4,h5⟩
 |f+1,lo,hi,h1,h2,h3,h4,h5=>by
  unfold SetTable.below.go
  by_cases hl:lo<hi
  ·rw[Qg hl];dsimp only;have hm:(lo+hi)/2<xs.size:=by omega
   rw[bZ hm]
   by_cases hc:xs.getD ((lo+hi)/2) 0<j
   ·rw[Qg hc];refine IM hs f _ _ (by omega) h2 (by omega) (fun q hq=>?_) h5;exact Vm (IL hs (by omega) hm) hc
   ·rw[Qb hc];refine IM hs f _ _ (by omega) (by omega) (by omega) h4 (fun q hq hq2=>?_);exact Qn (Nat.le_of_not_lt hc) (IL hs hq hq2)
  ·rw[Qb hl];have:lo=hi:=by omega
   subst this;exact⟨h2,h4,h5⟩
theorem IP{xs:Array Nat}(hs:tD xs)(j:Nat):SetTable.below xs j≤xs.size/\(∀q,q<SetTable.below xs j->xs.getD q 0<j)/\(∀q,SetTable.below xs j≤q->q<xs.size->j≤xs.getD q 0):=
 IM hs _ _ _ (Yt _) (Qy _) (by omega) (fun q h=>absurd h (Vc _)) (fun q h1 h2=>absurd h1 (by omega))
theorem cA{xs:Array Nat}(hs:tD xs)(hq:q<xs.size):SetTable.below xs (xs.getD q 0)=q:=by
 obtain⟨h1,h2,h3⟩:=IP hs (xs.getD q 0);rcases Nat.lt_trichotomy (SetTable.below xs (xs.getD q 0)) q with h|h|h
 ·have:=h3 _ (Qy _) (by omega);have:=hs _ _ h hq;omega
 ·exact h
 ·have:=h2 q h;omega
theorem IQ{xs:Array Nat}(hq:q<xs.size):xs[q]? =some (xs.getD q 0):=by simp[Array.getD,hq]
theorem NI{t:aa}(hs:tD t.place)(hq:q<t.place.size):t.slot (t.place.getD q 0)=.live q:=by
 unfold SetTable.slot;dsimp only;rw[cA hs hq,IQ hq];simp
theorem cB{t:aa}(hs:tD t.place)(hd:t.dummies= #[])(hj:∀q,q<t.place.size->t.place.getD q 0≠j):t.slot j=.empty:=by
 unfold SetTable.slot;dsimp only;have e:¬ ((t.place[SetTable.below t.place j]? ==some j)=true):=by
  intro h;have h:=Pk h;have hl:SetTable.below t.place j<t.place.size:=by
   rcases Jx (SetTable.below t.place j) t.place.size with q|q
   ·exact q
   ·rw[Yv q]at h;cases h
  rw[IQ hl]at h;exact hj _ hl (Yl h)
 rw[Qb e,hd];have e2:SetTable.has #[] j=false:=by
  unfold SetTable.has;simp
 rw[e2];simp
def G0(t:aa):Nat->SetTable.Probe->SetTable.Probe
 |0,p=>p
 |n+1,p=>G0 t n (t.advance p)
theorem IS(t:aa):∀(n:Nat) (p:SetTable.Probe),G0 t (n+1) p=t.advance (G0 t n p)
 |0,_=>rfl
 |n+1,p=>IS t n (t.advance p)
theorem IT(t:aa)(a:Nat):∀(b:Nat) (p:SetTable.Probe),G0 t a (G0 t b p)=G0 t (b+a) p
 |0,p=>by rw[Yu];rfl
 |b+1,p=>by
  show G0 t a (G0 t b (t.advance p))=_;rw[IT t a b];rw[show b+1+a=(b+a)+1 by omega];rfl
theorem cC(t:aa)(p:SetTable.Probe):(t.advance p).dummy=p.dummy:=by
 unfold SetTable.advance;split
 ·rfl
 ·rfl
def qM(mask i perturb:Nat):SetTable.Probe:={j:=i,more:=SetTable.runEnd mask i-i,i:=i,perturb:=perturb,dummy:=none}
theorem Dk(t:aa)(h:Int):t.probeStart h=qM t.mask (SetTable.bits h%(t.mask+1)) (SetTable.bits h):=rfl
theorem IU(t:aa)(i pt:Nat):∀n,n≤SetTable.runEnd t.mask i-i->G0 t n (qM t.mask i pt)={j:=i+n,more:=SetTable.runEnd t.mask i-i-n,i:=i,perturb:=pt,dummy:=none}
 |0,_=>rfl
 |n+1,h=>by
  rw[IS,IU t i pt n (by omega)];unfold SetTable.advance;rw[Qg (show SetTable.runEnd t.mask i-i-n>0 by omega)];simp only[SetTable.Probe.mk.injEq,and_true,true_and];omega
theorem NJ(t:aa)(i pt:Nat):G0 t (SetTable.runEnd t.mask i-i+1) (qM t.mask i pt)=qM t.mask (SetTable.leap t.mask i pt).1 (SetTable.leap t.mask i pt).2:=by
 rw[IS,IU t i pt _ (Qy _)];unfold SetTable.advance;rw[Qb (by simp)];rfl
theorem cD(mask i:Nat):SetTable.runEnd mask i-i≤9:=by
 unfold SetTable.runEnd;split<;>omega
def K7(mask:Nat):Nat->Nat×Nat->Nat×Nat
 |0,p=>p
 |n+1,p=>K7 mask n (SetTable.leap mask p.1 p.2)
theorem Fk(mask:Nat):∀(n:Nat) (p:Nat×Nat),K7 mask (n+1) p=SetTable.leap mask (K7 mask n p).1 (K7 mask n p).2
 |0,_=>rfl
 |n+1,p=>Fk mask n _
theorem groups(t:aa)(i pt:Nat):∀n,∃m,m≤10 * n/\G0 t m (qM t.mask i pt)=qM t.mask (K7 t.mask n (i,pt)).1 (K7 t.mask n (i,pt)).2
 |0=>⟨0,Qy _,rfl⟩
 |n+1=>by
  obtain⟨m,h1,h2⟩:=groups t i pt n;refine⟨m+(SetTable.runEnd t.mask (K7 t.mask n (i,pt)).1-(K7 t.mask n (i,pt)).1+1),?_,?_⟩
  ·have:=cD t.mask (K7 t.mask n (i,pt)).1;omega
  ·rw[←IT,h2,NJ,Fk]
theorem NK(mask:Nat)(i pt:Nat):∀n,(K7 mask n (i,pt)).2=pt/32^n
 |0=>by simp[K7]
 |n+1=>by
  rw[Fk];show(K7 mask n (i,pt)).2/32=_;rw[NK mask i pt n,Nat.div_div_eq_div_mul,Nat.pow_succ]
theorem cE(h:Int):SetTable.bits h<2^64:=by
 unfold SetTable.bits;have h1:0≤h%(2^64:Int):=Us _ (by decide);have h2:h%(2^64:Int)<2^64:=Vl _ (by decide);omega
def xC(mask:Nat):Nat->Nat->Nat
 |0,i=>i
 |n+1,i=>xC mask n ((i * 5+1)%(mask+1))
theorem NL(mask:Nat):∀(n i:Nat),K7 mask n (i,0)=(xC mask n i,0)
 |0,_=>rfl
 |n+1,i=>by
  show K7 mask n (SetTable.leap mask i 0)=_;have:SetTable.leap mask i 0=((i * 5+1)%(mask+1),0):=by
   unfold SetTable.leap;simp
  rw[this,NL mask n];rfl
theorem NM(mask a:Nat):∀(b:Nat) (p:Nat×Nat),K7 mask a (K7 mask b p)=K7 mask (b+a) p
 |0,p=>by rw[Yu];rfl
 |b+1,p=>by
  show K7 mask a (K7 mask b _)=_;rw[NM mask a b];rw[show b+1+a=(b+a)+1 by omega];rfl
def cov(mask:Nat):Bool:=(List.range (mask+1)).all fun i=>(List.range (mask+1)).all fun k=>(List.range (mask+1)).any fun n=>xC mask n i==k
theorem cF(mask n:Nat)(p:Nat×Nat):(K7 mask (n+1) p).1<mask+1:=by
 rw[Fk];exact Pd _ (Xj _)
theorem meets(hc:cov mask=true)(h:Int)(hk:k≤mask):∃n,n<mask+14/\(K7 mask n (SetTable.bits h%(mask+1),SetTable.bits h)).1=k:=by
 have e1:K7 mask 13 (SetTable.bits h%(mask+1),SetTable.bits h)=((K7 mask 13 (SetTable.bits h%(mask+1),SetTable.bits h)).1,0):=by
  apply Ut
  ·rfl
  ·rw[NK];have:=cE h;exact Nat.div_eq_of_lt (Ql this (by decide))
 have hl:(K7 mask 13 (SetTable.bits h%(mask+1),SetTable.bits h)).1<mask+1:=cF mask 12 _;unfold cov at hc;have h1:=Zb.mp hc _ (Yp.mpr hl);have h2:=Zb.mp h1 _ (Yp.mpr (show k<mask+1 by omega));obtain⟨n,hn,he⟩:=List.any_eq_true.mp h2;refine⟨13+n,by have:=Yp.mp hn;omega,?_⟩;rw[←NM,e1,NL];exact Pk he
theorem cG:cov 7=true:=by rfl'
theorem NN:cov 31=true:=by rfl'
def road(t:aa)(h:Int)(n:Nat):Nat:=(G0 t n (t.probeStart h)).j
theorem cH{t:aa}(hc:cov t.mask=true)(h:Int)(hk:k≤t.mask):∃m,m<10 * SetTable.turns t.mask/\road t h m=k:=by
 obtain⟨n,hn,he⟩:=meets hc h hk;obtain⟨m,hm,hg⟩:=groups t (SetTable.bits h%(t.mask+1)) (SetTable.bits h) n;refine⟨m,?_,?_⟩
 ·unfold SetTable.turns;omega
 ·unfold road;rw[Dk,hg,he];rfl
theorem NO{t:aa}{hashAt:Nat->Int}{h:Int}(hs:tD t.place)(hd:t.dummies= #[]):
  ∀(m f:Nat) (p:SetTable.Probe),m<f->p.dummy=none->(∀n,n<m->∃q,q<t.place.size/\t.place.getD q 0=(G0 t n p).j)->(∀q,q<t.place.size->t.place.getD q 0≠(G0 t m p).j)->
  (∃n q,n<m/\q<t.place.size/\t.place.getD q 0=(G0 t n p).j/\hashAt q=h/\SetTable.probe.go t hashAt h f p=some (.candidate (G0 t n p).j q (G0 t (n+1) p))/\∀n' q',n'<n->q'<t.place.size->t.place.getD q' 0=(G0 t n' p).j->hashAt q'≠h)\/
  ((∀n q,n<m->q<t.place.size->t.place.getD q 0=(G0 t n p).j->hashAt q≠h)/\SetTable.probe.go t hashAt h f p=some (.empty (G0 t m p).j none))
 |0,f+1,p,_,hp,_,he=>by
  right
  refine⟨fun n q hn=>absurd hn (Vc _),?_⟩;have he:t.slot p.j=.empty:=cB hs hd he;unfold SetTable.probe.go;rw[he];simp[G0,hp]
 |m+1,f+1,p,hm,hp,hl,he=>by
  obtain⟨q,hq,ej⟩:=hl 0 (Xj _);have ej:t.place.getD q 0=p.j:=ej;have es:t.slot p.j=.live q:=by rw[←ej];exact NI hs hq
  have uq:∀q',q'<t.place.size->t.place.getD q' 0=p.j->q'=q:=fun q' hq' e'=>by
   have:=NI hs hq';rw[e',es]at this;exact(SetTable.Slot.live.inj this).symm
  unfold SetTable.probe.go;rw[es];dsimp only
  by_cases hh:hashAt q=h
  ·left
   refine⟨0,q,Xj _,hq,ej,hh,?_,fun n' q' hn'=>absurd hn' (Vc _)⟩;rw[Qg (by rw[hh];exact Pj _)];rfl
  ·rw[Qb (fun z=>hh (Pk z))];rcases NO hs hd m f (t.advance p) (by omega) (by rw[cC];exact hp) (fun n hn=>hl (n+1) (by omega)) he with⟨n,q2,h1,h2,h3,h4,h5,h6⟩|⟨h1,h2⟩
   ·left
    refine⟨n+1,q2,by omega,h2,h3,h4,h5,fun n' q' hn' hq' e'=>?_⟩;cases n' with
    |zero=>rw[uq q' hq' e'];exact hh
    |succ n'=>exact h6 n' q' (by omega) hq' e'
   ·right
    refine⟨fun n q' hn hq' e'=>?_,h2⟩;cases n with
    |zero=>rw[uq q' hq' e'];exact hh
    |succ n=>exact h1 n q' (by omega) hq' e'
structure Tb(t:aa)(es:Array (Int×aj))(L:List (Nat×Int×aj)):Prop where
 pl:t.place.toList=L.map (·.1)
 en:es.toList=L.map (·.2)
 ri:(L.map (·.1)).Pairwise (· < ·)
 le:∀x∈L,x.1≤t.mask
 du:t.dummies= #[]
 rd:∀x∈L,∃n,road t x.2.1 n=x.1/\∀n',n'<n->road t x.2.1 n'∈L.map (·.1)
variable{t:aa}{es:Array (Int×aj)}{L:List (Nat×Int×aj)}
theorem IV{xs:Array Nat}{l:List Nat}(e:xs.toList=l)(q:Nat):xs.getD q 0=l.getD q 0:=by
 subst e;simp[Array.getD,List.getD];split<;>simp_all
theorem Tb.size(h:Tb t es L):t.place.size=L.length:=by
 have:=Yz List.length h.pl;simpa using this
theorem Tb.esz(h:Tb t es L):es.size=L.length:=by
 have:=Yz List.length h.en;simpa using this
theorem Tb.ris(h:Tb t es L):tD t.place:=by
 intro a b hab hb;rw[IV h.pl,IV h.pl];have hl:b<(L.map (·.1)).length:=by rw[Qv,←h.size];exact hb
 have:=List.pairwise_iff_getElem.mp h.ri a b (by omega) hl hab;rw[Zl,Zl,Qe hl,Qe (show a<(L.map (·.1)).length by omega)];exact this
theorem Tb.at(h:Tb t es L)(hq:q<L.length):t.place.getD q 0=(L[q]).1/\es[q]? =some (L[q]).2:=by
 refine⟨?_,?_⟩
 ·rw[IV h.pl,Zl,Zw,Qe hq];rfl
 ·rw[←Jt,h.en,Zw,Qe hq];rfl
theorem Tb.mem(h:Tb t es L):(∃q,q<t.place.size/\t.place.getD q 0=j)↔j∈L.map (·.1):=by
 rw[h.size]
 constructor
 ·rintro⟨q,hq,e⟩;rw[(h.at hq).1]at e;exact Zm.mpr ⟨_,Px hq,e⟩
 ·intro hj;obtain⟨x,hx,e⟩:=Zm.mp hj;obtain⟨q,hq,eq⟩:=List.mem_iff_getElem.mp hx;exact⟨q,hq,by rw[(h.at hq).1,eq];exact e⟩
theorem tU:∀(n:Nat) (l:List Nat),(∀k,k<n->k∈l)->n≤l.length
 |0,_,_=>Yt _
 |n+1,l,h=>by
  have h1:=tU n (l.erase n) fun k hk=>(List.mem_erase_of_ne (by omega)).mpr (h k (by omega));have h2:=h n (by omega);rw[Xa h2]at h1;have:=List.length_pos_of_mem h2;omega
theorem least{P:Nat->Prop}:∀(m:Nat),P m->∃n,n≤m/\P n/\∀k,k<n-> ¬ P k
 |m,h=>by
  induction m using Nat.strongRecOn with
  |ind m ih=>
   by_cases hk:∃k,k<m/\P k
   ·obtain⟨k,h1,h2⟩:=hk;obtain⟨n,h3,h4⟩:=ih k h1 h2;exact⟨n,by omega,h4⟩
   ·exact⟨m,Qy _,h,fun k h1 h2=>hk ⟨k,h1,h2⟩⟩
theorem Tb.ends(h:Tb t es L)(hc:cov t.mask=true)(hL:L.length≤t.mask)(hh:Int):∃m,m<10 * SetTable.turns t.mask/\road t hh m∉L.map (·.1)/\∀n,n<m->road t hh n∈L.map (·.1):=by
 have hk:∃k,k≤t.mask/\k∉L.map (·.1):=by
  apply Jy;intro hn;have all:∀k,k≤t.mask->k∈L.map (·.1):=fun k hk=>Jy fun z=>hn ⟨k,hk,z⟩;have:=tU (t.mask+1) (L.map (·.1)) fun k hk=>all k (by omega);rw[Qv]at this;omega
 obtain⟨k,hk,hk2⟩:=hk;obtain⟨m,hm,em⟩:=cH hc hh hk;obtain⟨n,h1,h2,h3⟩:=least (P:=fun m=>road t hh m∉L.map (·.1)) m (by show road t hh m∉_;rw[em];exact hk2);exact⟨n,by omega,h2,fun n' hn=>Jy fun z=>h3 n' hn z⟩
theorem cI{t:aa}(e:t.mask=t'.mask)(p:SetTable.Probe):t.advance p=t'.advance p:=by
 unfold SetTable.advance;rw[e]
theorem NP{t t':aa}(e:t.mask=t'.mask):∀(n:Nat) (p:SetTable.Probe),G0 t n p=G0 t' n p
 |0,_=>rfl
 |n+1,p=>by
  show G0 t n (t.advance p)=G0 t' n (t'.advance p);rw[cI e,NP e n]
theorem Dl{t:aa}(e:t.mask=t'.mask)(h:Int)(n:Nat):road t h n=road t' h n:=by
 unfold road;rw[Dk,Dk,e,NP e]
theorem IW(h:i≤mask):i≤SetTable.runEnd mask i/\SetTable.runEnd mask i≤mask:=by
 unfold SetTable.runEnd;split<;>omega
theorem NQ(t:aa):∀(n:Nat) (p:SetTable.Probe),p.j+p.more≤t.mask->(G0 t n p).j+(G0 t n p).more≤t.mask
 |0,_,h=>h
 |n+1,p,h=>by
  refine NQ t n _ ?_;unfold SetTable.advance;split
  ·dsimp only;omega
  ·dsimp only;have h1:(SetTable.leap t.mask p.i p.perturb).1≤t.mask:=Tn (Pd _ (Xj _));have:=IW h1;omega
theorem cJ(h:i≤mask)(pt:Nat):(qM mask i pt).j+(qM mask i pt).more≤mask:=by
 have:=IW h;show i+(SetTable.runEnd mask i-i)≤mask;omega
theorem IY(t:aa)(h:Int)(n:Nat):road t h n≤t.mask:=by
 have h1:SetTable.bits h%(t.mask+1)≤t.mask:=Tn (Pd _ (Xj _));have:=NQ t n (t.probeStart h) (by rw[Dk];exact cJ h1 _);unfold road;omega
theorem NR(xs:Array α)(p:Nat)(x:α)(hp:p≤xs.size):(SetTable.insertAt xs p x).toList=xs.toList.take p++x::xs.toList.drop p:=by
 unfold SetTable.insertAt;simp[Array.toList_extract,Js]
theorem Tb.put{t:aa}{L:List (Nat×Int×aj)}(T:Tb t es L){m:Nat}{h:Int}{x:aj}(hj:j∉L.map (·.1))(hm:road t h m=j)(hr:∀n,n<m->road t h n∈L.map (·.1)):
  ∃L',Tb (t.put j).1 (SetTable.insertAt es (t.put j).2 (h,x)) L'/\L'.Perm ((j,h,x)::L):=by
 have hp:(t.put j).2=SetTable.below t.place j:=rfl;obtain⟨b1,b2,b3⟩:=IP T.ris j;rw[T.size]at b1 b3;have hmask:(t.put j).1.mask=t.mask:=rfl;have perm:(L.take (SetTable.below t.place j)++(j,h,x)::L.drop (SetTable.below t.place j)).Perm ((j,h,x)::L):=by
  refine List.perm_middle.trans ?_;rw[List.take_append_drop]
 refine⟨L.take (SetTable.below t.place j)++(j,h,x)::L.drop (SetTable.below t.place j),?_,perm⟩;have mem':∀y,y∈L.map (·.1)->y∈(L.take (SetTable.below t.place j)++(j,h,x)::L.drop (SetTable.below t.place j)).map (·.1):=fun y hy=>by
  obtain⟨z,hz,e⟩:=Zm.mp hy;exact Zm.mpr ⟨z,perm.mem_iff.mpr (Qo _ hz),e⟩
 refine⟨?_,?_,?_,?_,?_,?_⟩
 ·show(SetTable.insertAt t.place (SetTable.below t.place j) j).toList=_;rw[NR _ _ _ (by rw[T.size];exact b1),T.pl];simp[Pq,Pz]
 ·rw[hp,NR _ _ _ (by rw[T.esz];exact b1),T.en];simp[Pq,Pz]
 ·rw[Ju,Qm];refine List.pairwise_append.mpr ⟨?_,?_,?_⟩
  ·rw[Pq];exact T.ri.sublist (Rb _ _)
  ·refine Yc.mpr ⟨?_,by rw[Pz];exact T.ri.sublist (List.drop_sublist _ _)⟩;intro y hy;rw[Pz]at hy;obtain⟨i,hi,e⟩:=List.mem_drop_iff_getElem.mp hy;rw[Qv]at hi;have h3:=b3 (SetTable.below t.place j+i) (by omega) (by omega);rw[(T.at (show SetTable.below t.place j+i<L.length by omega)).1]at h3;have e':(L[SetTable.below t.place j+i]'(by omega)).1=y:=by rw[←e,Ro]
   rw[e']at h3;rcases Jx j y with q|q
   ·exact q
   ·have:j=y:=by omega
    subst this;exact absurd (List.mem_of_mem_drop hy) hj
  ·intro y hy z hz;have hyj:y<j:=by
    rw[Pq]at hy;obtain⟨i,hi,e⟩:=List.mem_take_iff_getElem.mp hy;rw[Qv]at hi;have h2:=b2 i (by omega);rw[(T.at (show i<L.length by omega)).1]at h2;rw[Ro]at e;omega
   rcases Qp.mp hz with rfl|hz
   ·exact hyj
   ·rw[Pz]at hz;obtain⟨i,hi,e⟩:=List.mem_drop_iff_getElem.mp hz;rw[Qv]at hi;have h3:=b3 (SetTable.below t.place j+i) (by omega) (by omega);rw[(T.at (show SetTable.below t.place j+i<L.length by omega)).1]at h3;rw[Ro]at e;omega
 ·intro y hy;rcases Qp.mp (perm.mem_iff.mp hy)with rfl|hy
  ·show j≤t.mask;rw[←hm];exact IY t h m
  ·exact T.le y hy
 ·show(if SetTable.has t.dummies j then _ else t.dummies)= #[];rw[T.du];have e2:SetTable.has #[] j=false:=by unfold SetTable.has;simp
  rw[e2];rfl
 ·intro y hy;rcases Qp.mp (perm.mem_iff.mp hy)with rfl|hy
  ·exact⟨m,by rw[Dl hmask];exact hm,fun n hn=>by rw[Dl hmask];exact mem' _ (hr n hn)⟩
  ·obtain⟨n,h1,h2⟩:=T.rd y hy;exact⟨n,by rw[Dl hmask];exact h1,fun n' hn=>by rw[Dl hmask];exact mem' _ (h2 n' hn)⟩
abbrev fr(ow:Array (Option Nat))(j:Nat):Bool:=(ow.getD j (some 0)).isNone
theorem NS{t:aa}{ow:Array (Option Nat)}:∀(n f i pt:Nat),n<f->i≤t.mask->fr ow (K7 t.mask n (i,pt)).1=true->
  ∃m,SetTable.layClean.free t.mask ow f i pt=some (G0 t m (qM t.mask i pt)).j/\fr ow (G0 t m (qM t.mask i pt)).j=true/\∀m',m'<m->fr ow (G0 t m' (qM t.mask i pt)).j=false
 |n,0,i,pt,h,_,_=>absurd h (Vc _)
 |n,f+1,i,pt,h,hi,he=>by
  unfold SetTable.layClean.free;obtain⟨r1,r2⟩:=IW hi;have at':∀k,k≤SetTable.runEnd t.mask i-i->(G0 t k (qM t.mask i pt)).j=i+k:=fun k hk=>by rw[IU t i pt k hk]
  cases hf:(List.range (SetTable.runEnd t.mask i+1-i)).find? fun k=>(ow.getD (i+k) (some 0)).isNone with
  |some k=>
   dsimp only;obtain⟨h1,as,bs,h2,h3⟩:=List.find?_eq_some_iff_append.mp hf;have hk:k∈List.range (SetTable.runEnd t.mask i+1-i):=by rw[h2];simp
   have hk':=Yp.mp hk;refine⟨k,by rw[at' k (by omega)],by rw[at' k (by omega)];exact h1,fun m' hm'=>?_⟩;rw[at' m' (by omega)];have hmem:m'∈as:=by
    have hm:m'∈List.range (SetTable.runEnd t.mask i+1-i):=Yp.mpr (by omega);have pK:(List.range (SetTable.runEnd t.mask i+1-i)).Pairwise (· < ·):=List.pairwise_lt_range;rw[h2]at hm pK;rcases Xf.mp hm with z|z
    ·exact z
    ·rcases Qp.mp z with z|z
     ·omega
     ·have:=(Yc.mp (List.pairwise_append.mp pK).2.1).1 m' z;omega
   have:=h3 m' hmem;cases hq:(ow.getD (i+m') (some 0)).isNone with
   |false=>exact hq
   |true=>rw[hq]at this;cases this
  |none=>
   dsimp only;have hall:=List.find?_eq_none.mp hf;have run:∀k,k≤SetTable.runEnd t.mask i-i->fr ow (i+k)=false:=fun k hk=>by
    have:=hall k (Yp.mpr (by omega));cases hq:fr ow (i+k)with
    |false=>rfl
    |true=>exact absurd hq this
   cases n with
   |zero=>
    have:=run 0 (Yt _);rw[Nat.add_zero]at this;have he:fr ow i=true:=he;rw[this]at he;cases he
   |succ n=>
    have hl:(SetTable.leap t.mask i pt).1≤t.mask:=Tn (Pd _ (Xj _));obtain⟨m,h1,h2,h3⟩:=NS n f (SetTable.leap t.mask i pt).1 (SetTable.leap t.mask i pt).2 (by omega) hl he;have step:∀q,G0 t (SetTable.runEnd t.mask i-i+1+q) (qM t.mask i pt)=G0 t q (qM t.mask (SetTable.leap t.mask i pt).1 (SetTable.leap t.mask i pt).2):=fun q=>by
     rw[←IT,NJ]
    refine⟨SetTable.runEnd t.mask i-i+1+m,by rw[step];exact h1,by rw[step];exact h2,fun m' hm'=>?_⟩;rcases Jx m' (SetTable.runEnd t.mask i-i+1)with q|q
    ·rw[at' m' (by omega)];exact run m' (by omega)
    ·obtain⟨d,rfl⟩:∃d,m'=SetTable.runEnd t.mask i-i+1+d:=⟨m'-(SetTable.runEnd t.mask i-i+1),by omega⟩;rw[step];exact h3 d (by omega)
structure sR(t:aa)(hs:aq)(k:Nat)(ow:Array (Option Nat)):Prop where
 sz:ow.size=t.mask+1
 rd:∀j q,ow.getD j none=some q->q<k/\∃n,road t (hs.getD q 0) n=j/\∀n',n'<n->(ow.getD (road t (hs.getD q 0) n') none).isSome=true
 al:∀q,q<k->∃j,ow.getD j none=some q
 inj:∀j j' q,ow.getD j none=some q->ow.getD j' none=some q->j=j'
theorem CY{v:Option Nat}{d:Option Nat}(h:j<ow.size):(ow.setIfInBounds j v).getD i d=if i=j then v else ow.getD i d:=by
 simp only[Array.getD_eq_getD_getElem?,Array.getElem?_setIfInBounds]
 by_cases e:i=j
 ·subst e;simp[h]
 ·simp[e,Za e]
theorem cK(h:fr ow j=true):j<ow.size/\ow.getD j none=none:=by
 have hj:j<ow.size:=by
  rcases Jx j ow.size with q|q
  ·exact q
  ·have:ow.getD j (some 0)=some 0:=by simp[Array.getD,Pm.mpr q]
   unfold fr at h;rw[this]at h;cases h
 refine⟨hj,?_⟩;unfold fr at h;simp only[Array.getD,hj,dif_pos]at h ⊢;simpa using h
theorem NU(hj:j<ow.size)(h:fr ow j=false):(ow.getD j none).isSome=true:=by
 have e:ow.getD j (some 0)=ow.getD j none:=by simp only[Array.getD,hj,dif_pos]
 unfold fr at h;rw[e]at h;cases hq:ow.getD j none with
 |none=>rw[hq]at h;cases h
 |some _=>rfl
theorem sR.free{t:aa}(l:sR t hs k ow)(hk:k≤t.mask):∃j,j≤t.mask/\fr ow j=true:=by
 apply Jy;intro hn;have all:∀j,j≤t.mask->fr ow j=false:=fun j hj=>by
  cases h:fr ow j with
  |false=>rfl
  |true=>exact absurd ⟨j,hj,h⟩ hn
 have hq:∀j,j<t.mask+1->∃q,ow.getD j none=some q:=fun j hj=>by
  have:=NU (by rw[l.sz];exact hj) (all j (by omega));exact Yy.mp this
 have hmap:∀n,n≤t.mask+1->∃qs:List Nat,qs.length=n/\qs.Nodup/\(∀q∈qs,q<k)/\∀q∈qs,∃j,j<n/\ow.getD j none=some q:=by
  intro n
  induction n with
  |zero=>exact fun _=>⟨[],rfl,Rj,fun q h=>absurd h Zr,fun q h=>absurd h Zr⟩
  |succ n ih=>
   intro hn;obtain⟨qs,h1,h2,h3,h4⟩:=ih (by omega);obtain⟨q,e⟩:=hq n (by omega);refine⟨q::qs,by simp[h1],List.nodup_cons.mpr ⟨fun hm=>?_,h2⟩,fun z hz=>?_,fun z hz=>?_⟩
   ·obtain⟨j,hj,ej⟩:=h4 q hm;have:=l.inj _ _ _ e ej;omega
   ·rcases Qp.mp hz with rfl|hz
    ·exact(l.rd _ _ e).1
    ·exact h3 z hz
   ·rcases Qp.mp hz with rfl|hz
    ·exact⟨n,by omega,e⟩
    ·obtain⟨j,hj,ej⟩:=h4 z hz;exact⟨j,by omega,ej⟩
 obtain⟨qs,h1,h2,h3,_⟩:=hmap (t.mask+1) (Qy _);have pig:∀(k:Nat) (qs:List Nat),qs.Nodup->(∀q∈qs,q<k)->qs.length≤k:=by
  intro k
  induction k with
  |zero=>
   intro qs _ h;cases qs with
   |nil=>exact Qy _
   |cons q _=>exact absurd (h q Zv) (Vc _)
  |succ k ih=>
   intro qs hn h;have hl:=ih (qs.erase k) (hn.sublist List.erase_sublist) fun q hq=>by
    have h1:=h q (List.mem_of_mem_erase hq);have h2:q≠k:=fun e=>by subst e;exact(List.Nodup.not_mem_erase hn) hq
    omega
   by_cases hm:k∈qs
   ·rw[Xa hm]at hl;omega
   ·rw[List.erase_of_not_mem hm]at hl;omega
 have:=pig k qs h2 h3;omega
theorem sR.step{t:aa}(l:sR t hs k ow)(hc:cov t.mask=true)(hk:k≤t.mask):
  ∃j,SetTable.layClean.free t.mask ow (SetTable.turns t.mask) (SetTable.bits (hs.getD k 0)%(t.mask+1)) (SetTable.bits (hs.getD k 0))=some j/\sR t hs (k+1) (ow.setIfInBounds j (some k)):=by
 obtain⟨j0,h0,hf⟩:=l.free hk;obtain⟨n,hn,he⟩:=meets hc (hs.getD k 0) h0;have hi:SetTable.bits (hs.getD k 0)%(t.mask+1)≤t.mask:=Tn (Pd _ (Xj _));obtain⟨m,h1,h2,h3⟩:=NS (t:=t) (ow:=ow) n (SetTable.turns t.mask) _ _ (by unfold SetTable.turns;omega) hi (by rw[he];exact hf);have hr:∀m,(G0 t m (qM t.mask (SetTable.bits (hs.getD k 0)%(t.mask+1)) (SetTable.bits (hs.getD k 0)))).j=road t (hs.getD k 0) m:=fun m=>by unfold road;rw[Dk]
 simp only[hr]at h1 h2 h3;refine⟨_,h1,?_⟩;obtain⟨hj,hjn⟩:=cK h2;refine⟨by rw[Array.size_setIfInBounds];exact l.sz,fun j q e=>?_,fun q hq=>?_,fun j j' q e e'=>?_⟩
 ·rw[CY hj]at e
  by_cases ej:j=road t (hs.getD k 0) m
  ·rw[Qg ej]at e;cases e;refine⟨by omega,m,ej.symm,fun n' hn'=>?_⟩;rw[CY hj];split
   ·rfl
   ·exact NU (by rw[l.sz];exact Nat.lt_succ_of_le (IY _ _ _)) (h3 n' hn')
  ·rw[Qb ej]at e;obtain⟨q1,n,q2,q3⟩:=l.rd j q e;refine⟨by omega,n,q2,fun n' hn'=>?_⟩;rw[CY hj];split
   ·rfl
   ·exact q3 n' hn'
 ·rcases Jx q k with h|h
  ·obtain⟨j,e⟩:=l.al q h;refine⟨j,?_⟩;rw[CY hj,Qb,e];intro z;subst z;rw[hjn]at e;cases e
  ·have:q=k:=by omega
   subst this;exact⟨_,by rw[CY hj,Qg rfl]⟩
 ·rw[CY hj]at e e'
  by_cases h1:j=road t (hs.getD k 0) m<;>by_cases h2:j'=road t (hs.getD k 0) m
  ·rw[h1,h2]
  ·rw[Qg h1]at e;rw[Qb h2]at e';cases e;have:=(l.rd _ _ e').1;omega
  ·rw[Qb h1]at e;rw[Qg h2]at e';cases e';have:=(l.rd _ _ e).1;omega
  ·rw[Qb h1]at e;rw[Qb h2]at e';exact l.inj _ _ _ e e'
theorem sR.zero(t:aa)(hs:aq):sR t hs 0 (Array.replicate (t.mask+1) none):=by
 have h:∀j,(Array.replicate (t.mask+1) (none:Option Nat)).getD j none=none:=fun j=>by
  simp only[Array.getD];split
  ·simp
  ·rfl
 refine⟨by simp,fun j q e=>?_,fun q hq=>absurd hq (Vc _),fun j j' q e=>?_⟩
 ·rw[h]at e;cases e
 ·rw[h]at e;cases e
theorem NV{t:aa}{hs:aq}(hc:cov t.mask=true):∀(r:aq) (k:Nat) (ow:Array (Option Nat)),sR t hs k ow->hs.drop k=r->k+r.length≤t.mask+1->
  ∃ow',(r.foldl (fun(acc:Option (Array (Option Nat)×Nat)) h=>do
   let (owner,k)←acc
   let j←SetTable.layClean.free t.mask owner (SetTable.turns t.mask) (SetTable.bits h%(t.mask+1)) (SetTable.bits h)
   pure (owner.setIfInBounds j (some k),k+1)) (some (ow,k)))=some (ow',k+r.length)/\sR t hs (k+r.length) ow'
 |[],k,ow,l,_,_=>⟨ow,rfl,l⟩
 |h::r,k,ow,l,e,hk=>by
  rw[Zd]at hk;obtain⟨j,h1,h2⟩:=l.step hc (by omega);have eh:hs.getD k 0=h:=by
   have:=Yz (·[0]?) e;simp only[List.getElem?_drop,Nat.add_zero,List.getElem?_cons_zero]at this;rw[Zl,this];rfl
  rw[eh]at h1;obtain⟨ow',h3,h4⟩:=NV hc r (k+1) _ h2 (by have:=Yz List.tail e;simpa using this) (by omega);refine⟨ow',?_,?_⟩
  ·rw[List.foldl_cons];show List.foldl _ ((SetTable.layClean.free t.mask ow (SetTable.turns t.mask) (SetTable.bits h%(t.mask+1)) (SetTable.bits h)).bind _) r=_;rw[h1];rw[Zd,show k+(r.length+1)=k+1+r.length by omega];exact h3
  ·rw[Zd,show k+(r.length+1)=k+1+r.length by omega];exact h4
theorem cL{fi mv:Nat}{led plain:Bool}(hc:cov mask=true)(hn:es.size≤mask+1):
  ∃t' od L,SetTable.laid mask fi mv led plain (es.map (·.1))=some (t',od)/\t'.mask=mask/\t'.led=led/\t'.plain=plain/\Tb t' (od.filterMap (es[·]?)) L/\(L.map (·.2)).Perm es.toList/\od.toList.Perm (List.range es.size):=by
 let t:aa:={mask:=mask,place:=#[],dummies:=#[],finger:=fi,led:=led,moves:=mv,plain:=plain}
 obtain⟨ow,h1,h2⟩:=NV (t:=t) (hs:=es.toList.map (·.1)) hc (es.toList.map (·.1)) 0 _ (sR.zero t _) rfl (by simpa using hn);rw[Yu]at h1 h2;have hcl:SetTable.layClean mask (es.map (·.1))=some ow:=by
  unfold SetTable.layClean;rw[←Array.foldl_toList,Ra];have:=Yz (Option.map (·.1)) h1;simpa using this
 have hlen:(es.toList.map (·.1)).length=es.size:=by simp
 rw[hlen]at h2
 let live:=(List.range (mask+1)).filterMap fun j=>(ow.getD j none).map (j,·)
 have hlive:∀x,x∈live↔ow.getD x.1 none=some x.2:=fun x=>by
  obtain⟨j,q⟩:=x
  constructor
  ·intro hx;obtain⟨i,hi,e⟩:=Um.mp hx;obtain⟨v,e1,e2⟩:=Ti.mp e;cases e2;exact e1
  ·intro e;refine Um.mpr ⟨j,Yp.mpr ?_,by rw[e];rfl⟩;rcases Jx j ow.size with z|z
   ·have:=h2.sz;show j<t.mask+1;omega
   ·have:ow.getD j none=none:=by simp[Array.getD,Pm.mpr z]
    rw[this]at e;cases e
 have hlt:∀x∈live,x.2<es.size:=fun x hx=>(h2.rd _ _ ((hlive x).mp hx)).1;have hsort:(live.map (·.1)).Pairwise (· < ·):=by
  refine List.pairwise_map.mpr ?_;refine List.pairwise_filterMap.mpr ?_;refine List.pairwise_lt_range.imp ?_;intro a b hab x hx y hy;obtain⟨v,_,rfl⟩:=Ti.mp hx;obtain⟨u,_,rfl⟩:=Ti.mp hy;exact hab
 have hnd:(live.map (·.2)).Nodup:=by
  refine List.pairwise_map.mpr ?_;refine(List.pairwise_map.mp hsort).imp_of_mem ?_;intro a b ha hb hab e;have:=h2.inj _ _ _ ((hlive a).mp ha) (by rw[e];exact(hlive b).mp hb);omega
 have hperm:(live.map (·.2)).Perm (List.range es.size):=by
  refine List.perm_iff_count.mpr fun q=>?_;rw[hnd.count,(List.nodup_range).count];have:(q∈live.map (·.2))↔q∈List.range es.size:=by
   rw[List.mem_range]
   constructor
   ·intro h;obtain⟨x,hx,e⟩:=Zm.mp h;rw[←e];exact hlt x hx
   ·intro h;obtain⟨j,e⟩:=h2.al q h;exact Zm.mpr ⟨(j,q),(hlive (j,q)).mpr e,rfl⟩
  simp only[this]
 let g:Nat->Int×aj:=fun q=>es.toList.getD q (0,Value.none)
 have hg:∀q,q<es.size->es[q]? =some (g q):=fun q hq=>by
  rw[←Jt];simp only[g,Zl];rw[Qe (by simpa using hq)];rfl
 have hfm:∀l:List (Nat×Nat),(∀x∈l,x.2<es.size)->(l.map (·.2)).filterMap (es[·]?)=l.map fun x=>g x.2:=by
  intro l
  induction l with
  |nil=>intro _;rfl
  |cons x l ih=>
   intro h;rw[Qm,Jd,hg x.2 (h x Zv)];dsimp only;rw[ih fun y hy=>h y (Qo _ hy),Qm]
 refine⟨{mask:=mask,place:=(live.map (·.1)).toArray,dummies:=#[],finger:=fi,led:=led,moves:=mv,plain:=plain},(live.map (·.2)).toArray,live.map fun x=>(x.1,g x.2),?_,rfl,rfl,rfl,?_,?_,hperm⟩
 ·unfold SetTable.laid;rw[hcl];rfl
 ·refine⟨?_,?_,?_,?_,rfl,?_⟩
  ·simp
  ·rw[Array.toList_filterMap];show(live.map (·.2)).filterMap (es[·]?)=_;rw[hfm live hlt,Ys];rfl
  ·rw[Ys];exact hsort
  ·intro x hx;obtain⟨y,hy,rfl⟩:=Zm.mp hx;obtain⟨_,n,e,_⟩:=h2.rd _ _ ((hlive y).mp hy);show y.1≤mask;rw[←e];exact IY t _ _
  ·intro x hx;obtain⟨y,hy,rfl⟩:=Zm.mp hx;obtain⟨hq,n,e,hr⟩:=h2.rd _ _ ((hlive y).mp hy);have eh:(es.toList.map (·.1)).getD y.2 0=(g y.2).1:=by
    simp only[g,Zl,Zw];rw[Qe (by simpa using hq)];rfl
   rw[eh]at e hr;have hrc:∀x n,road {mask:=mask,place:=(live.map (·.1)).toArray,dummies:=#[],finger:=fi,led:=led,moves:=mv,plain:=plain} x n=road t x n:=fun x n=>Dl (by rfl) x n;refine⟨n,(hrc _ _).trans e,fun n' hn'=>?_⟩;rw[hrc];obtain⟨q',hq'⟩:=Yy.mp (hr n' hn');rw[Ys];exact Zm.mpr ⟨(_,q'),(hlive (_,q')).mpr hq',rfl⟩
 ·rw[Ys];have e1:live.map ((·.2)∘fun x=>(x.1,g x.2))=(live.map (·.2)).map g:=by rw[Ys];rfl
  rw[e1];refine(hperm.map g).trans ?_;have:(List.range es.size).map g=es.toList:=by
   apply Rm;intro i;rw[Zw];rcases Jx i es.size with h|h
   ·rw[List.getElem?_range h,Zi,←hg i h,Jt]
   ·rw[Pw (by simpa using h),Pw (by simpa using h)];rfl
  rw[this]
section
variable{K:Type}[DecidableEq K](knd:KeyKind prog w K)
def cM(h:Heap):K ⊕ List K->aj->Prop
 |.inl k,v=>knd.is k v=true
 |.inr ks,v=>∃a,v=.ref a/\IsTupleKey knd h ks a
inductive qN (h:Heap):List (K ⊕ List K)->List Value->Prop
 |nil:qN h [] []
 |cons {k:K ⊕ List K}{v:Value}{ks:List (K ⊕ List K)}{vs:List Value}:cM knd h k v->qN h ks vs->qN h (k::ks) (v::vs)
variable{knd}
end
section
variable{K:Type}[DecidableEq K]{knd:KeyKind prog w K}
end
section
variable{K:Type}[DecidableEq K]{knd:KeyKind prog w K}
variable{S:ah}{o:Obj}{t:aa}{L:List (Nat×Int×aj)}{kx:List (K ⊕ List K)}{ax:ah}
theorem Tb.fits(T:Tb t es L)(hL:L.length≤t.mask):t.fits es.size=true:=by
 unfold SetTable.fits SetTable.fill;rw[T.du,T.size,T.esz];simp[hL]
end
section
variable{K:Type}[DecidableEq K]{knd:KeyKind prog w K}
def Dm(t:aa)(n:Nat):Prop:=(t.mask=7/\n≤4)\/(t.mask=31/\n≤18)
theorem Dm.cov{t:aa}(h:Dm t n):cov t.mask=true/\n≤t.mask/\t.mask%2=1:=by
 rcases h with⟨e,h⟩|⟨e,h⟩
 ·rw[e];exact⟨cG,by omega,rfl⟩
 ·rw[e];exact⟨NN,by omega,rfl⟩
theorem NW{S:ah}{o:Obj}{t:aa}(ho:h.get? S=some o)(hd:o.data=.set es ep t)(es':Array (Int×aj))(t':aa):
  (h.update S (Obj.putSet es' t')).get? S=some {o with data:=.set es' (ep+1) t'}:=by
 have:=Jp (Obj.putSet es' t') ho (by rw[putSet_of es' t' hd];rfl);rw[putSet_of es' t' hd]at this;exact this
theorem Dn(h:n≤1000):n≤sizeLine:=by rw[Jr];omega
end
section
variable{K:Type}[DecidableEq K]{knd:KeyKind prog w K}
end
def V6(h:Heap)(d:ah)(es:Array ae)(ep:Nat):Prop:=∃o,h.get? d=some o/\o.data=.dict es ep
section
variable{it d:ah}{es:Array ae}
theorem cN{v:ah}{Q:OU}(hv:s.heap.IsValuesView v d)(hm:V6 s.heap d es ep)
  (q:Q (.ref s.heap.objs.size) {s with heap:=s.heap.push {cls:=.type "dict_valueiterator",data:=.fields #[.ref d,.int 0 0,.int es.size 0,.int ep 0]}}):wpAny (model prog w) A (pyIter (.ref v)) Q E s:=by
 obtain⟨ov,v1,v2,v3⟩:=id hv;obtain⟨o,d1,d2⟩:=hm;refine Uo hv.typeIs Ps (Zz Ps hv.typeIs PySem.F.entry_dict_values_iter ?_ (PySem.F.args_dict_values_iter_1 _));refine Qq (Qz (Qq ?_));unfold Builtin.Dict_items.dictOf;refine Qq (Zt v1 v3 (x:=.ref d) rfl (Qz (Qq ?_)));unfold Builtin.Dict_items.newIterator;refine Qq (Jv d1 d2 (Qq (Jl d1 d2 ?_)));have ow:Builtin.Dict_items.ownsTuple "dict_valueiterator"=false:=by decide
 simp only[ow,Zq,Zo];refine Qi (Qz ⟨_,rfl,"dict_valueiterator",_,⟨_,Qw _ rfl,rfl⟩,PySem.F.slot_dict_valueiterator_next.lookup,?_⟩);simpa [rawInt]using q
theorem cO{e:ae}(hit:s.heap.IsValIter it d i es.size ep)(hm:V6 s.heap d es ep)(hx:es[i]? =some e)
  (q:∀h',h'.IsValIter it d (i+1) es.size ep->Heap.SameBut it s.heap h'->Q (some e.val) {s with heap:=h'}):wpAny (model prog w) A (pyNext (.ref it)) Q E s:=by
 obtain⟨o,i1,i2,i3⟩:=id hit;obtain⟨od,d1,d2⟩:=hm;have hlt:i<es.size:=by
  rcases Jx i es.size with h|h
  ·exact h
  ·rw[Yv h]at hx;cases hx
 have he:es[i]=e:=by rw[Qt hlt]at hx;exact Yl hx
 have ow:Builtin.Dict_items.ownsTuple "dict_valueiterator"=false:=by decide
 unfold pyNext;refine Qq (Jh (Zk (name:=Str.ofString "__next__") hit.typeIs Jb (Zz Jb hit.typeIs Xc ?_ (Xb _))));refine Qq (Qz (Qq (Qq ?_)))
 first|refine Qq (Uv hit.typeIs (Qz ?_))|refine Qq (Vu hit.typeIs (Qz ?_))
 refine Qq (Ub i1 i3 ?_);simp only[ow,Zq,Zo];show wpAny _ _ (if(Value.ref d==Value.none)=true then _ else _) _ _ s;rw[Qb (show ¬ ((Value.ref d==Value.none)=true)from Qa)];refine Qq (Qz (Qq (Jv d1 d2 ?_)));rw[Qb (by simp)];refine Qq (Qz (Qq (Jl d1 d2 ?_)));rw[Qb (by simp)];refine Qz ?_;simp only[show ¬ ((i:Int)<0)from by omega,Zo,Yj,Qt hlt];refine Qq ?_
 first|refine Qq (Uv hit.typeIs (Qz ?_))|refine Qq (Vu hit.typeIs (Qz ?_))
 refine Qq (Py hit.typeIs ?_);show wpAny _ _ (setField (.ref it) 1 (rawInt ((i:Int)+1))>>=_) _ _ s;refine Qq (Jn i1 i3 (by simp) ?_);have hit':(s.heap.update it (Obj.mapFields (·.setIfInBounds 1 (rawInt ((i:Int)+1))))).IsValIter it d (i+1) es.size ep:=
  ⟨_,Jp _ i1 (Ur (Ye i3 _)),(Va ..).trans i2,by rw[Ye i3];simp[rawInt]⟩
 refine Qq (Ze (Qq (Py (s:={s with heap:=s.heap.update it (Obj.mapFields (·.setIfInBounds 1 (rawInt ((i:Int)+1))))}) hit'.typeIs ?_)));refine Qq (Py (s:={s with heap:=s.heap.update it (Obj.mapFields (·.setIfInBounds 1 (rawInt ((i:Int)+1))))}) hit'.typeIs ?_);show wpAny _ _ (pure es[i].val) _ _ _;exact Qz (Qz ⟨_,rfl,Qz (he ▸ q _ hit' (Zc ..))⟩)
theorem cP(hh:A.handled=none)(hit:s.heap.IsValIter it d i es.size ep)(hm:V6 s.heap d es ep)(hge:es.size≤i)
  (q:∀h',Heap.ExtBut it s.heap h'->Q none {s with heap:=h'}):wpAny (model prog w) A (pyNext (.ref it)) Q E s:=by
 obtain⟨o,i1,i2,i3⟩:=id hit;obtain⟨od,d1,d2⟩:=hm;have ow:Builtin.Dict_items.ownsTuple "dict_valueiterator"=false:=by decide
 unfold pyNext;refine Qq (Jh (Zk (name:=Str.ofString "__next__") hit.typeIs Jb (Zz Jb hit.typeIs Xc ?_ (Xb _))));refine Qq (Qz (Qq (Qq ?_)))
 first|refine Qq (Uv hit.typeIs (Qz ?_))|refine Qq (Vu hit.typeIs (Qz ?_))
 refine Qq (Ub i1 i3 ?_);simp only[ow,Zq,Zo];show wpAny _ _ (if(Value.ref d==Value.none)=true then _ else _) _ _ s;rw[Qb (show ¬ ((Value.ref d==Value.none)=true)from Qa)];refine Qq (Qz (Qq (Jv d1 d2 ?_)));rw[Qb (by simp)];refine Qq (Qz (Qq (Jl d1 d2 ?_)));rw[Qb (by simp)];refine Qz ?_;simp only[show ¬ ((i:Int)<0)from by omega,Zo,Yj,Yv hge];refine Qq ?_
 first|refine Qq (Uv hit.typeIs (Qz ?_))|refine Qq (Vu hit.typeIs (Qz ?_))
 show wpAny _ _ (setField (.ref it) 0 .none>>=_) _ _ s;refine Qq (Jn i1 i3 (by simp) ?_);show wpAny _ _ (newExc (.type "StopIteration") []>>=_) _ _ _;refine Qq ?_;simp only[newExc,newTuple];refine Qq (Qi ?_ (by size_fits));refine Qq (m:=firstArgMember _ _) (Vt (a:=Value.none) (by first|rfl|(simp only[firstArgMember];rfl)) ?_);refine Qi ?_ (by size_fits);simp only[raiseNew];refine Qq (Ta ?_);rw[show A.in1.handled=none from hh];refine Qq (Qz (Rk ?_));refine Qq (Vw (T:="StopIteration") (b:=true) ⟨_,Qw _ rfl,rfl⟩ Tz ?_);exact Qz (q _ (((Zc ..).extBut.push _).push _))
theorem V6.keep{h':Heap}(x:V6 h d es ep)(k:∀o,h.get? d=some o->h'.get? d=some o):V6 h' d es ep:=by
 obtain⟨o,a,b⟩:=x;exact⟨o,k o a,b⟩
theorem cQ(hh:A.handled=none)(I:ah)(hne:d≠I):Walks prog w A I [I,d] [I] es.size (fun i v=>∃e,es[i]? =some e/\v=e.val) (fun i h=>h.IsValIter I d i es.size ep/\V6 h d es ep)where
 sub:=fun b hb=>by simp at hb;simp[hb]
 frame:=fun _ _ _ st hk=>⟨st.1.at fun o e=>hk I (by simp) o e,st.2.keep fun o e=>hk d (by simp) o e⟩
 item:=fun i s Q E hi st hQ=>cO st.1 st.2 (Qt hi) fun h' hit' hs'=>hQ _ h' s.toks ⟨_,Qt hi,rfl⟩ ⟨hit',st.2.keep fun o e=>hs'.extBut d o hne e⟩ fun b o hb e=>hs'.extBut b o (fun h=>hb (by simp[h])) e
 done:=fun s Q E st hQ=>cP hh st.1 st.2 (Qy _) fun h' he'=>hQ h' s.toks fun b o hb e=>he' b o (fun h=>hb (by simp[h])) e
 self:=fun _ _ _ _ st hQ=>wpAny_pyIter_valiter st.1 hQ
theorem cR(d:ah)(hd:(d==sysModules)=false):MeetsIn prog w (Builtin.«dict.values» ⟨[.ref d],[]⟩) (fun _ R s=>s.TypeIs (.ref d) "dict"/\R (.ok (.ret (.ref s.heap.objs.size))) {s with heap:=s.heap.push {cls:=.type "dict_values",data:=.fields #[.ref d]}}):=
 .of_wp fun A R s ⟨hT,h⟩=>by
  refine Qq ?_;unfold Builtin.Dict.noArgs;refine Qq (Pu hT (Qz ?_));show wpAny _ _ (Builtin.Dict.showsAll d>>=_) _ _ s;unfold Builtin.Dict.showsAll;rw[Qb (by rw[hd];exact Qa)];exact Qq (Qz (Qq (Qi (Qz ⟨_,rfl,h⟩))))
end
section
variable{e2:Expr}
end
section
variable{it d:ah}{es:Array ae}
theorem cS{Q:OU}(hT:s.TypeIs (.ref d) "dict")(hd:(d==sysModules)=false)(hm:V6 s.heap d es ep)
  (q:Q (.ref s.heap.objs.size) {s with heap:=s.heap.push {cls:=.type "dict_keyiterator",data:=.fields #[.ref d,.int 0 0,.int es.size 0,.int ep 0]}}):wpAny (model prog w) A (pyIter (.ref d)) Q E s:=by
 obtain⟨o,d1,d2⟩:=hm;refine Uo hT PySem.F.slot_dict_iter (Zz PySem.F.slot_dict_iter hT PySem.F.entry_dict_iter (Qq ?_) (PySem.F.args_dict_iter_1 _));unfold Builtin.Dict.dictSlotNone;refine Qq (Pu hT (Qz ?_));show wpAny _ _ (Builtin.Dict.showsAll d>>=_) _ _ s;unfold Builtin.Dict.showsAll;rw[Qb (by rw[hd];exact Qa)];refine Qq (Qz (Qq (Jv d1 d2 (Qq (Jl d1 d2 ?_)))));refine Qq (Qi (Qz ⟨_,rfl,"dict_keyiterator",_,⟨_,Qw _ rfl,rfl⟩,PySem.F.slot_dict_keyiterator_next.lookup,?_⟩));simpa [rawInt]using q
theorem cT{e:ae}(hit:s.heap.IsKeyIter it d i es.size ep)(hm:V6 s.heap d es ep)(hx:es[i]? =some e)
  (q:∀h',h'.IsKeyIter it d (i+1) es.size ep->Heap.SameBut it s.heap h'->Q (some e.key) {s with heap:=h'}):wpAny (model prog w) A (pyNext (.ref it)) Q E s:=by
 obtain⟨o,i1,i2,i3⟩:=id hit;obtain⟨od,d1,d2⟩:=hm;obtain⟨hlt,he⟩:=Array.getElem?_eq_some_iff.mp hx;have ow:Builtin.Dict_items.ownsTuple "dict_keyiterator"=false:=by decide
 unfold pyNext;refine Qq (Jh (Zk (name:=Str.ofString "__next__") hit.typeIs Jc (Zz Jc hit.typeIs Tj ?_ (Xe _))));refine Qq (Qz (Qq (Qq ?_)))
 first|refine Qq (Uw hit.typeIs (Qz ?_))|refine Qq (Vp hit.typeIs (Qz ?_))
 refine Qq (Ub i1 i3 ?_);simp only[ow,Zq,Zo];show wpAny _ _ (if(Value.ref d==Value.none)=true then _ else _) _ _ s;rw[Qb (show ¬ ((Value.ref d==Value.none)=true)from Qa)];refine Qq (Qz (Qq (Jv d1 d2 ?_)));rw[Qb (by simp)];refine Qq (Qz (Qq (Jl d1 d2 ?_)));rw[Qb (by simp)];refine Qz ?_;simp only[show ¬ ((i:Int)<0)from by omega,Zo,Yj,Qt hlt];refine Qq ?_
 first|refine Qq (Uw hit.typeIs (Qz ?_))|refine Qq (Vp hit.typeIs (Qz ?_))
 refine Qq (wpAny_isOneOf_keyiter hit.typeIs ?_);show wpAny _ _ (setField (.ref it) 1 (rawInt ((i:Int)+1))>>=_) _ _ s;refine Qq (Jn i1 i3 (by simp) ?_);have hit':(s.heap.update it (Obj.mapFields (·.setIfInBounds 1 (rawInt ((i:Int)+1))))).IsKeyIter it d (i+1) es.size ep:=
  ⟨_,Jp _ i1 (Ur (Ye i3 _)),(Va ..).trans i2,by rw[Ye i3];simp[rawInt]⟩
 refine Qq (Ze (Qq (wpAny_isOneOf_keyiter (s:={s with heap:=s.heap.update it (Obj.mapFields (·.setIfInBounds 1 (rawInt ((i:Int)+1))))}) hit'.typeIs ?_)));show wpAny _ _ (pure es[i].key) _ _ _;exact Qz (Qz ⟨_,rfl,Qz (he ▸ q _ hit' (Zc ..))⟩)
theorem cU(hh:A.handled=none)(hit:s.heap.IsKeyIter it d i es.size ep)(hm:V6 s.heap d es ep)(hge:es.size≤i)
  (q:∀h',Heap.ExtBut it s.heap h'->Q none {s with heap:=h'}):wpAny (model prog w) A (pyNext (.ref it)) Q E s:=by
 obtain⟨o,i1,i2,i3⟩:=id hit;obtain⟨od,d1,d2⟩:=hm;have ow:Builtin.Dict_items.ownsTuple "dict_keyiterator"=false:=by decide
 unfold pyNext;refine Qq (Jh (Zk (name:=Str.ofString "__next__") hit.typeIs Jc (Zz Jc hit.typeIs Tj ?_ (Xe _))));refine Qq (Qz (Qq (Qq ?_)))
 first|refine Qq (Uw hit.typeIs (Qz ?_))|refine Qq (Vp hit.typeIs (Qz ?_))
 refine Qq (Ub i1 i3 ?_);simp only[ow,Zq,Zo];show wpAny _ _ (if(Value.ref d==Value.none)=true then _ else _) _ _ s;rw[Qb (show ¬ ((Value.ref d==Value.none)=true)from Qa)];refine Qq (Qz (Qq (Jv d1 d2 ?_)));rw[Qb (by simp)];refine Qq (Qz (Qq (Jl d1 d2 ?_)));rw[Qb (by simp)];refine Qz ?_;simp only[show ¬ ((i:Int)<0)from by omega,Zo,Yj,Yv hge];refine Qq ?_
 first|refine Qq (Uw hit.typeIs (Qz ?_))|refine Qq (Vp hit.typeIs (Qz ?_))
 show wpAny _ _ (setField (.ref it) 0 .none>>=_) _ _ s;refine Qq (Jn i1 i3 (by simp) ?_);show wpAny _ _ (newExc (.type "StopIteration") []>>=_) _ _ _;refine Qq ?_;simp only[newExc,newTuple];refine Qq (Qi ?_ (by size_fits));refine Qq (m:=firstArgMember _ _) (Vt (a:=Value.none) (by first|rfl|(simp only[firstArgMember];rfl)) ?_);refine Qi ?_ (by size_fits);simp only[raiseNew];refine Qq (Ta ?_);rw[show A.in1.handled=none from hh];refine Qq (Qz (Rk ?_));refine Qq (Vw (T:="StopIteration") (b:=true) ⟨_,Qw _ rfl,rfl⟩ Tz ?_);exact Qz (q _ (((Zc ..).extBut.push _).push _))
theorem cV(d:ah)(hd:(d==sysModules)=false):MeetsIn prog w (Builtin.«dict.items» ⟨[.ref d],[]⟩) (fun _ R s=>s.TypeIs (.ref d) "dict"/\R (.ok (.ret (.ref s.heap.objs.size))) {s with heap:=s.heap.push {cls:=.type "dict_items",data:=.fields #[.ref d]}}):=
 .of_wp fun A R s ⟨hT,h⟩=>by
  refine Qq ?_;unfold Builtin.Dict.noArgs;refine Qq (Pu hT (Qz ?_));show wpAny _ _ (Builtin.Dict.showsAll d>>=_) _ _ s;unfold Builtin.Dict.showsAll;rw[Qb (by rw[hd];exact Qa)];exact Qq (Qz (Qq (Qi (Qz ⟨_,rfl,h⟩))))
theorem cW{v:ah}{Q:OU}(hv:s.heap.IsItemsView v d)(hm:V6 s.heap d es ep)
  (q:Q (.ref s.heap.objs.size) {s with heap:=s.heap.push {cls:=.type "dict_itemiterator",data:=.fields #[.none,.bool false,.ref d,.int 0 0,.int es.size 0,.int ep 0,.none,.none]}}):wpAny (model prog w) A (pyIter (.ref v)) Q E s:=by
 obtain⟨ov,v1,v2,v3⟩:=id hv;obtain⟨o,d1,d2⟩:=hm;refine Uo hv.typeIs Rx (Zz Rx hv.typeIs PySem.F.entry_dict_items_iter ?_ (PySem.F.args_dict_items_iter_1 _));refine Qq (Qz (Qq ?_));unfold Builtin.Dict_items.dictOf;refine Qq (Zt v1 v3 (x:=.ref d) rfl (Qz (Qq ?_)));unfold Builtin.Dict_items.newIterator;refine Qq (Jv d1 d2 (Qq (Jl d1 d2 ?_)));have ow:Builtin.Dict_items.ownsTuple "dict_itemiterator"=true:=by decide
 simp only[ow,Yw];refine Qi (Qz ⟨_,rfl,"dict_itemiterator",_,⟨_,Qw _ rfl,rfl⟩,Yh.lookup,?_⟩) (by simp only[sizeOk,Builtin.Dict_items.ownedTupleFields,Qh,Zx,Zd,Uq,Jr];omega);simpa [rawInt,Builtin.Dict_items.ownedTupleFields]using q
theorem cX{e:ae}{ok ov:aj}(hit:IsItemIter s.heap it d i es.size ep ok ov)(hm:V6 s.heap d es ep)(hx:es[i]? =some e)
  (q:∀h',IsItemIterOut h' it d (i+1) es.size ep e.key e.val s.heap.objs.size->h'.get? s.heap.objs.size=some {cls:=.type "tuple",data:=.seq #[e.key,e.val]}->(∀b o,b≠it->s.heap.get? b=some o->h'.get? b=some o)->Q (some (.ref s.heap.objs.size)) {s with heap:=h'}):
  wpAny (model prog w) A (pyNext (.ref it)) Q E s:=by
 obtain⟨hp,g,dr,tk,os⟩:=s;obtain⟨od,d1,d2⟩:=hm;obtain⟨hlt,he⟩:=Array.getElem?_eq_some_iff.mp hx;have hT:Shared.TypeIs ⟨hp,g,dr,tk,os⟩ (.ref it) "dict_itemiterator":=⟨_,hit,rfl⟩;have ow:Builtin.Dict_items.ownsTuple "dict_itemiterator"=true:=by decide
 unfold pyNext;refine Qq (Jh (Zk (name:=Str.ofString "__next__") hT Yh (Zz Yh hT Xo ?_ (Xl _))));refine Qq (Qz (Qq (Qq ?_)))
 first|refine Qq (Ux hT (Qz ?_))|refine Qq (Vj hT (Qz ?_))
 refine Qq (Ub hit rfl ?_);simp only[ow,Yw];show wpAny _ _ (if(Value.ref d==Value.none)=true then _ else _) _ _ _;rw[Qb (show ¬ ((Value.ref d==Value.none)=true)from Qa)];refine Qq (Qz (Qq (Jv d1 d2 ?_)));rw[Qb (by simp)];refine Qq (Qz (Qq (Jl d1 d2 ?_)));rw[Qb (by simp)];refine Qz ?_;simp only[show ¬ ((i:Int)<0)from by omega,Zo,Yj,Qt hlt,he];refine Qq ?_
 first|refine Qq (Ux hT (Qz ?_))|refine Qq (Vj hT (Qz ?_))
 refine Qq (Tt hT ?_);show wpAny _ _ (setField (.ref it) 3 (rawInt ((i:Int)+1))>>=_) _ _ ⟨hp,g,dr,tk,os⟩;refine Qq (Yn hit (by simp) fun h1 e1 s1=>?_)
 replace s1:Heap.SameBut it hp h1:=s1
 replace e1:IsItemIter h1 it d (i+1) es.size ep ok ov:=by
  have z:((i+1:Nat):Int)=(i:Int)+1:=by omega
  unfold IsItemIter;rw[z];simpa [rawInt]using e1
 have t1:Shared.TypeIs ⟨h1,g,dr,tk,os⟩ (.ref it) "dict_itemiterator":=⟨_,e1,rfl⟩;refine Qq (Ze (Qq (Tt t1 (Qq (Tt t1 ?_)))));show wpAny _ _ (Builtin.Dict_items.pairFromOwner (.ref it) 6 e.key e.val) _ _ ⟨h1,g,dr,tk,os⟩;unfold Builtin.Dict_items.pairFromOwner;refine Qq (Rz ?_);have e2:IsItemIter (h1.push {cls:=.type "tuple",data:=.seq #[e.key,e.val]}) it d (i+1) es.size ep ok ov:=Qx _ e1;generalize hh:h1.push {cls:=.type "tuple",data:=.seq #[e.key,e.val]}=h2 at e2;have z1:h1.objs.size=hp.objs.size:=s1.1;have il:it<hp.objs.size:=Qu hit;have k2:h2.get? hp.objs.size=some {cls:=.type "tuple",data:=.seq #[e.key,e.val]}:=by rw[←hh,←z1];exact Qw _ rfl
 have k3:∀b o,b≠it->hp.get? b=some o->h2.get? b=some o:=fun b o hb z=>by rw[←hh];exact Qx _ (s1.extBut b o hb z)
 show wpAny _ _ (Builtin.Dict_items.ownedTupleIsFree (.ref it)>>=_) _ _ ⟨h2,g,dr,tk,os⟩;rw[z1];clear hh e1 s1 t1 z1 h1;refine Qq ?_;unfold Builtin.Dict_items.ownedTupleIsFree;refine Qq (Zt e2 rfl (x:=.none) rfl (Qz ?_));simp only[Yw];refine Qq (Zt e2 rfl (x:=ok) rfl (Qq (Zt e2 rfl (x:=ov) rfl ?_)));refine Qq (Yn e2 (by simp) fun h3 (e3:IsItemIter h3 it d (i+1) es.size ep e.key ov) (s3:Heap.SameBut it h2 h3)=>?_);refine Qq (Yn e3 (by simp) fun h4 (e4:IsItemIter h4 it d (i+1) es.size ep e.key e.val) (s4:Heap.SameBut it h3 h4)=>?_);refine Qq (Yn e4 (by simp) fun h5 (e5:IsItemIterOut h5 it d (i+1) es.size ep e.key e.val hp.objs.size) (s5:Heap.SameBut it h4 h5)=>?_);refine Qq (Yn e5 (by simp) fun h6 (e6:IsItemIterOut h6 it d (i+1) es.size ep e.key e.val hp.objs.size) (s6:Heap.SameBut it h5 h6)=>?_);have kk:∀b o,b≠it->h2.get? b=some o->h6.get? b=some o:=fun b o hb z=>s6.extBut b o hb (s5.extBut b o hb (s4.extBut b o hb (s3.extBut b o hb z)));exact Qq (wpAny_letGo (Qz (Qz ⟨_,rfl,Qz (q h6 e6 (kk _ _ (Pp il) k2) fun b o hb z=>kk b o hb (k3 b o hb z))⟩)))
theorem cY{ok ov:aj}(hh:A.handled=none)(hit:IsItemIter s.heap it d i es.size ep ok ov)(hm:V6 s.heap d es ep)(hge:es.size≤i)
  (q:∀h',Heap.ExtBut it s.heap h'->Q none {s with heap:=h'}):wpAny (model prog w) A (pyNext (.ref it)) Q E s:=by
 obtain⟨od,d1,d2⟩:=hm;have hT:s.TypeIs (.ref it) "dict_itemiterator":=⟨_,hit,rfl⟩;have ow:Builtin.Dict_items.ownsTuple "dict_itemiterator"=true:=by decide
 unfold pyNext;refine Qq (Jh (Zk (name:=Str.ofString "__next__") hT Yh (Zz Yh hT Xo ?_ (Xl _))));refine Qq (Qz (Qq (Qq ?_)))
 first|refine Qq (Ux hT (Qz ?_))|refine Qq (Vj hT (Qz ?_))
 refine Qq (Ub hit rfl ?_);simp only[ow,Yw];show wpAny _ _ (if(Value.ref d==Value.none)=true then _ else _) _ _ s;rw[Qb (show ¬ ((Value.ref d==Value.none)=true)from Qa)];refine Qq (Qz (Qq (Jv d1 d2 ?_)));rw[Qb (by simp)];refine Qq (Qz (Qq (Jl d1 d2 ?_)));rw[Qb (by simp)];refine Qz ?_;simp only[show ¬ ((i:Int)<0)from by omega,Zo,Yj,Yv hge];refine Qq ?_
 first|refine Qq (Ux hT (Qz ?_))|refine Qq (Vj hT (Qz ?_))
 show wpAny _ _ (setField (.ref it) 2 .none>>=_) _ _ s;refine Qq (Jn hit rfl (by simp) ?_);show wpAny _ _ (newExc (.type "StopIteration") []>>=_) _ _ _;refine Qq ?_;simp only[newExc,newTuple];refine Qq (Qi ?_ (by size_fits));refine Qq (m:=firstArgMember _ _) (Vt (a:=Value.none) (by first|rfl|(simp only[firstArgMember];rfl)) ?_);refine Qi ?_ (by size_fits);simp only[raiseNew];refine Qq (Ta ?_);rw[show A.in1.handled=none from hh];refine Qq (Qz (Rk ?_));refine Qq (Vw (T:="StopIteration") (b:=true) ⟨_,Qw _ rfl,rfl⟩ Tz ?_);exact Qz (q _ (((Zc ..).extBut.push _).push _))
end
theorem cZ:entryFor table "dict_itemiterator.__iter__"=some Builtin.«dict_keyiterator.__iter__»:=
 entryFor_alias (id':="dict_keyiterator.__iter__") (by kernel_rfl) rfl (by rfl') (by kernel_rfl)
def KX.toD:KX->D
 |.t ns=>.tup (ns.map D.int)
def tF:aj->V
 |.ref a=>.ref a
 |_=>.non
theorem O4.rel{k:KX}(h:O4 K G v k):D1 (tF v) v/\b0 K G (tF v) k.toD:=by
 cases k with
 |t ns=>
  obtain⟨b,rfl,q⟩:=h;exact⟨rfl,by simp only[KX.toD,b0];exact⟨b,_,rfl,q,DW ns⟩⟩
theorem oD.len{es:List ae}(h:oD K G es ks xs):es.length=ks.length/\xs.length=ks.length:=by
 induction h with
 |nil=>exact⟨rfl,rfl⟩
 |cons _ _ _ _ ih=>exact⟨by simp[ih.1],by simp[ih.2]⟩
theorem oD.get{es:List ae}(h:oD K G es ks xs):∀{i:Nat}{e:ae},es[i]? =some e->∃k x,ks[i]? =some k/\xs[i]? =some x/\O4 K G e.key k/\D1 x e.val:=by
 induction h with
 |nil=>intro i e z;simp at z
 |cons h1 h2 h3 _ ih=>
  intro i e z;cases i with
  |zero=>cases z;exact⟨_,_,rfl,rfl,h2,h3⟩
  |succ i=>exact ih (by simpa using z)
structure v8(es:Array ae)(xs:ba):Prop where
 key:∀(i:Nat) (e:ae),es[i]? =some e->D1 (tF e.key) e.key
 val:∀(i:Nat) (e:ae),es[i]? =some e->∃x,xs[i]? =some x/\D1 x e.val
theorem oD.tE{es:Array ae}(h:oD K G es.toList ks xs):v8 es xs where
 key:=fun i e z=>let ⟨_,_,_,_,h3,_⟩:=h.get (i:=i) (e:=e) (by simpa using z);h3.rel.1
 val:=fun i e z=>let ⟨_,x,_,h2,_,h4⟩:=h.get (i:=i) (e:=e) (by simpa using z);⟨x,h2,h4⟩
theorem W4{σ:St}{a:ah}{es:Array ae}(I:Inv X pins σ H s)(e:H a=some (.dX es ep)):es.size≤sizeLine/\(a==sysModules)=false/\s.TypeIs (.ref a) "dict"/\V6 s.heap a es ep:=by
 obtain⟨z,y,o,h1,h2,h3⟩:=(show F3 X.prog X.w H s.heap a (.dX es ep)from I.hok a _ e);exact⟨z,y,⟨o,h1,h2.1⟩,o,h1,h3⟩
def yJ(d:ah)(es:Array ae)(ep:Nat):It:=⟨fun i H=>i<es.size/\H d=some (.dX es ep),fun i H x H'=>H'=H/\∃e,es[i]? =some e/\x=tF e.key,fun i H=>es.size≤i/\H d=some (.dX es ep)⟩
theorem dA(it d:ah)(es:Array ae)(ep:Nat)(xs:ba)(ht:v8 es xs):Turn P w K tg (yJ d es ep) [it] it (fun i h=>h.IsKeyIter it d i es.size ep)where
 mem:=by simp
 obj:=fun i h st b hb=>by
  have e:b=it:=by simpa using hb
  subst e;obtain⟨o,e,c,d⟩:=st;exact⟨o,e,fun v z=>by rw[d]at z;cases z⟩
 keep:=fun i h h' st k=>by
  obtain⟨o,e,c,d⟩:=st;exact⟨o,k it (by simp) _ e,c,d⟩
 item:=by
  intro X hP hw hK hc i pins s σ H E I hf st hg;subst hP hw hK;obtain⟨f0,f1,f2,f3,f4,f5⟩:=hf it (by simp);obtain⟨hi,hd⟩:=hg;obtain⟨_,_,_,ea⟩:=W4 I hd;have hx:es[i]? =some es[i]:=Qt hi;refine cT st ea hx fun h' st' hs'=>?_;have I1:Inv X pins σ H {s with heap:=h',toks:=s.toks}:=I.turned (fun b o hb e=>hs'.extBut b o hb e) f0 f1 f3 f4 f5;obtain⟨o,e,oc,od⟩:=id st';exact⟨_,rfl,Eo (s:={s with heap:=h'}) (n:="dict_keyiterator") e oc od (by decide) ⟨tF es[i].key,H,I1,ht.key i _ hx,⟨rfl,_,hx,rfl⟩,st',fun b hb=>(hf b hb).1⟩⟩
 done:=by
  intro X hP hw hK hc i pins s σ H E I hf st hg;subst hP hw hK;obtain⟨f0,f1,f2,f3,f4,f5⟩:=hf it (by simp);obtain⟨hi,hd⟩:=hg;obtain⟨_,_,_,ea⟩:=W4 I hd;exact cU (I.ok.hd hc) st ea hi fun h' hs'=>⟨rfl,I.turned (t':=s.toks) (fun b o hb e=>hs' b o hb e) f0 f1 f3 f4 f5⟩
 self:=fun A i s Q E st h=>wpAny_pyIter_keyiter st h
def yK(d:ah)(es:Array ae)(ep:Nat)(xs:ba):It:=⟨fun i H=>i<es.size/\H d=some (.dX es ep),fun i H x H'=>∃p e y,H p=none/\x=.ref p/\H'=upd H p (.tup [tF e.key,y])/\es[i]? =some e/\xs[i]? =some y,fun i H=>es.size≤i/\H d=some (.dX es ep)⟩
theorem dB(it d:ah)(es:Array ae)(ep:Nat)(xs:ba)(ht:v8 es xs):
  Turn P w K (.Tuple elts kk tp) (yK d es ep xs) [it] it (fun i h=>∃ok ov,IsItemIter h it d i es.size ep ok ov)where
 mem:=by simp
 obj:=fun i h st b hb=>by
  have e:b=it:=by simpa using hb
  subst e;obtain⟨ok,ov,e⟩:=st;exact⟨_,e,fun v z=>by cases z⟩
 keep:=fun i h h' st k=>by
  obtain⟨ok,ov,e⟩:=st;exact⟨ok,ov,k it (by simp) _ e⟩
 item:=by
  intro X hP hw hK hc i pins s σ H E I hf st hg;subst hP hw hK;obtain⟨hi,hd⟩:=hg;obtain⟨ok,ov,hit⟩:=st;obtain⟨_,_,_,ea⟩:=W4 I hd;have hx:es[i]? =some es[i]:=Qt hi;obtain⟨y,hy,ry⟩:=ht.val i _ hx;refine cX hit ea hx fun h' a1 a2 a3=>?_;have hn:H s.heap.objs.size=none:=I.fresh;have I1:Inv X pins σ (upd H s.heap.objs.size (.tup [tF es[i].key,y])) {s with heap:=h',toks:=s.toks}:=Lp (ch:=[it]) (t':=s.toks) I
   (fun b o hb e=>a3 b o (fun z=>hb (by simp[z])) e) hf (Qy _) ⟨by show 2≤sizeLine;decide,[es[i].key,es[i].val],.cons (ht.key i _ hx) (.cons ry .nil),_,a2,rfl,rfl,0,rfl⟩
  have lt:it≠s.heap.objs.size:=Qd (Qu hit);have hf2:∀b∈[it],P7 X pins (upd H s.heap.objs.size (.tup [tF es[i].key,y])) b:=fun b hb=>by
   have e:b=it:=by simpa using hb
   subst e;exact⟨by rw[C6 lt];exact(hf b hb).1,(hf b hb).2⟩
  refine⟨.ref s.heap.objs.size,rfl,wpAny_letOwnedTupleGo_items (s:={s with heap:=h'}) a1 fun h2 b1 b2=>?_⟩;have I2:Inv X pins σ (upd H s.heap.objs.size (.tup [tF es[i].key,y])) {s with heap:=h2,toks:=s.toks}:=Hf (s:={s with heap:=h',toks:=s.toks}) (ch:=[it]) (t':=s.toks) I1
   (fun b o hb e=>b2.extBut _ _ (fun z=>hb (by simp[z])) e) hf2
  exact⟨.ref s.heap.objs.size,_,I2,rfl,⟨_,_,_,hn,rfl,rfl,hx,hy⟩,⟨_,_,b1⟩,fun b hb=>(hf2 b hb).1⟩
 done:=by
  intro X hP hw hK hc i pins s σ H E I hf st hg;subst hP hw hK;obtain⟨f0,f1,f2,f3,f4,f5⟩:=hf it (by simp);obtain⟨hi,hd⟩:=hg;obtain⟨ok,ov,hit⟩:=st;obtain⟨_,_,_,ea⟩:=W4 I hd;exact cY (I.ok.hd hc) hit ea hi fun h' hs'=>⟨rfl,I.turned (t':=s.toks) (fun b o hb e=>hs' b o hb e) f0 f1 f3 f4 f5⟩
 self:=fun A i s Q E st h=>by
  obtain⟨ok,ov,e⟩:=st;exact Uo (s:=s) ⟨_,e,rfl⟩ Tx (Zz Tx ⟨_,e,rfl⟩ cZ (Qz ⟨_,rfl,"dict_itemiterator",_,⟨_,e,rfl⟩,Yh.lookup,h⟩) (PySem.F.args_dict_itemiterator_iter_1 _))
section
variable{d:ah}{es:Array ae}{vs:bb}
theorem dC(hd:G d=some (.dX es ep))(h:oD K G es.toList ks xs):tO K (yJ d es ep) G (ks.map KX.toD)where
 go:=fun i H l hi=>⟨by have:=h.len.1;simp at this hi;omega,l _ _ hd⟩
 stop:=fun i H l hi=>⟨by have:=h.len.1;simp at this hi;omega,l _ _ hd⟩
 yld:=fun i H x H' d l y e=>by
  obtain⟨rfl,en,h1,rfl⟩:=y;obtain⟨k,x,h2,h3,h4,h5⟩:=h.get (i:=i) (e:=en) (by simpa using h1);rw[Zw,h2]at e;cases e;exact .inl ⟨rfl,h4.rel.2⟩
def BI(ks:List KX)(vs:bb):bb:=List.zipWith (fun k v=>.tup [k.toD,v]) ks vs
theorem dD(hd:G d=some (.dX es ep))(h:oD K G es.toList ks xs)(hv:B4 K G xs vs):tO K (yK d es ep xs) G (BI ks vs)where
 go:=fun i H l hi=>⟨by have:=h.len.1;simp[BI]at this hi;omega,l _ _ hd⟩
 stop:=fun i H l hi=>⟨by have:=h.len.1;have:=h.len.2;have:=hv.length;simp[BI]at *;omega,l _ _ hd⟩
 yld:=fun i H x H' dd l y e=>by
  obtain⟨p,en,z,h0,rfl,rfl,h1,hz⟩:=y;obtain⟨k,x,h2,h3,h4,h5⟩:=h.get (i:=i) (e:=en) (by simpa using h1);rw[hz]at h3;cases h3;obtain⟨dv,q1,q2⟩:=hv.get' hz;unfold BI at e;rw[Ja,h2,q1]at e;cases e;have gp:G p=none:=by
   cases g:G p with
   |none=>rfl
   |some o=>rw[l _ _ g]at h0;cases h0
  refine .inr ⟨p,_,rW,h0,rfl,?_⟩;exact Aj D7 (f6 (b0.mono (Le.upd gp) _ h4.rel.2) (f6 (b0.mono (Le.upd gp) _ q2) f7))
end
def Dp(m:Mo D):Mo bb:=fun env=>(m env).bind fun p=>match p.1 with
 |.dcx ks _=>some (ks.map KX.toD,p.2)
 |_=>none
def NX(m:Mo D):Mo bb:=fun env=>(m env).bind fun p=>match p.1 with
 |.dcx ks vs=>some (BI ks vs,p.2)
 |_=>none
theorem IZ(h:ED X B e ma):EI X B tg e (Dp ma):=by
 intro pins s σ H R I q;obtain⟨G,env,ds,env',rl,em,k⟩:=q;obtain⟨⟨d,a8⟩,e1,e2⟩:=B9 em;dsimp only at e2;split at e2
 case h_2=>cases e2
 rename_i ks vs;cases e2;refine i6 (h pins s σ H (fun v H1=>∃G1,Ev X.K B G σ env H G1 σ env' H1/\b0 X.K G1 v (.dcx ks vs)) I ⟨G,env,_,env',rl,e1,fun v G1 H1 ev r=>⟨G1,ev,r⟩⟩) fun u s1 ⟨y,H1,I1,ry,G1,ev,r⟩=>?_;simp only[b0]at r;obtain⟨a,es,ep,xs,rfl,g,ek,ok,rv⟩:=r;cases ry;obtain⟨z1,z2,z3,z4⟩:=W4 I1 (ev.rel.sub _ _ g);refine cS z3 z2 z4 ?_;refine⟨s1.heap.objs.size,[s1.heap.objs.size],_,_,H1,rfl,I1.kept (t':=s1.toks) fun b o e=>Qx _ e,dA _ a es ep xs ek.tE,⟨_,Qw _ rfl,rfl,rfl⟩,fun b hb=>?_,k _ G1 H1 ev (dC g ek)⟩;have e:b=s1.heap.objs.size:=by simpa using hb
 subst e;exact I1.fpOk (Qy _) (I1.hok.fresh (Qy _))
def dE:V->ba->Hp->VK->Prop:=fun x vs H Q=>∃(a:ah) (es:Array ae) (ep:Nat),x=.ref a/\vs=[]/\H a=some (.dX es ep)/\∀l,H l=none->l≠a->Q (.ref l) (upd H l (.ext fun h=>h.IsItemsView l a))
theorem dF:uD X "dict.items" dE:=by
 intro pins s σ H x vs v us Q I rx rv h;obtain⟨a,es,ep,rfl,rfl,ea,q⟩:=h;cases rx;cases rv;obtain⟨z1,hd,hT,z4⟩:=W4 I ea;refine call_meetsIn PySem.F.slot_dict_items hT PySem.F.entry_dict_items (PySem.F.args_dict_items_1 _) (cV a hd) ⟨hT,?_⟩;have hf:H s.heap.objs.size=none:=I.hok.fresh (Qy _);have ne:s.heap.objs.size≠a:=fun z=>by rw[z,ea]at hf;cases hf
 refine⟨.ref s.heap.objs.size,_,I.laid (a:=s.heap.objs.size) (o:=.ext fun h=>h.IsItemsView s.heap.objs.size a) (t':=s.toks) (fun _ _ q=>Qx _ q) (Qy _) ⟨⟨_,Qw _ rfl,rfl,rfl⟩,⟨_,Qw _ rfl⟩,fun h1 h2 ⟨o,e,r⟩ k=>⟨o,k o e,r⟩⟩,rfl,q _ hf ne⟩
theorem NY(h:ED X B e ma)
  (hbase:attributeBase e "items" X.env (eval e X.env)=eval e X.env:=by rfl)(hline:(apos.endLine==cpos.line)=true:=by rfl):EI X B (.Tuple elts kk tp) (.Call (.Attribute e "items" apos) [] [] cpos) (NX ma):=by
 have hv:=LJ (X:=X) (apos:=apos) (cpos:=cpos) Tw PySem.F.slot_dict_items PySem.F.type_dict_items dF h hbase hline;intro pins s σ H R I q;obtain⟨G,env,ds,env',rl,em,k⟩:=q;obtain⟨⟨d,a8⟩,e1,e2⟩:=B9 em;dsimp only at e2;split at e2
 case h_2=>cases e2
 rename_i ks vs;cases e2;refine i6 (hv pins s σ H (fun v H1=>∃G1 l a es ep xs,v=.ref l/\H1 l=some (.ext fun h=>h.IsItemsView l a)/\Ev X.K B G σ env H G1 σ env' H1/\G1 a=some (.dX es ep)/\oD X.K G1 es.toList ks xs/\B4 X.K G1 xs vs) I ⟨G,env,_,env',rl,e1,fun v G1 H1 ev r=>?_⟩) fun u s1 hh=>?_
 ·simp only[b0]at r;obtain⟨a,es,ep,xs,rfl,g,ek,ok,rv⟩:=r;have ha:=ev.rel.sub _ _ g;exact⟨.inr (.inr (.inr (.inr ⟨rfl,_,_,ha⟩))),a,es,ep,rfl,rfl,ha,fun l hl ne=>⟨G1,l,a,es,ep,xs,rfl,D7,ev.trans (ev.rel.allocM hl),g,ek,rv⟩⟩
 ·obtain⟨y,H1,I1,ry,G1,l,a,es,ep,xs,hy,hl,ev,g,ek,rv⟩:=hh;subst hy;cases ry;have ha:=ev.rel.sub _ _ g;obtain⟨z1,z2,z3,z4⟩:=W4 I1 ha;have hview:s1.heap.IsItemsView l a:=(show F3 X.prog X.w H1 s1.heap l (.ext _)from I1.hok l _ hl).1;refine cW hview z4 ?_;refine⟨s1.heap.objs.size,[s1.heap.objs.size],_,_,H1,rfl,I1.kept (t':=s1.toks) fun b o e=>Qx _ e,dB _ a es ep xs ek.tE,⟨.none,.none,Qw _ rfl⟩,fun b hb=>?_,k _ G1 H1 ev (dD g ek rv)⟩;have e:b=s1.heap.objs.size:=by simpa using hb
  subst e;exact I1.fpOk (Qy _) (I1.hok.fresh (Qy _))
def yL(P:af)(w:ag)(h:Heap)(a:ah):KX->Prop
 |.t ns=>IsTupleKey (L5 P w) h (K2 ns) a
def NZ:KX->Nat
 |.t ns=>ns.length+1
theorem Na{P:af}{w:ag}:∀ns:aq,(K2 ns).map (L5 P w).hash=ns.map hashInt
 |[]=>rfl
 |n::ns=>by
  show hashInt n::(K2 ns).map (L5 P w).hash=_;rw[Na ns];rfl
theorem dG(ns:aq):tupleKeyHash (L5 P w) (K2 ns)=Gy ns:=by
 unfold tupleKeyHash Gy;rw[Na]
def Dq(P:af)(w:ag)(b:Bool):HeapKind P w KX where
 is:=fun h k a=>k.kind=b/\yL P w h a k
 hash:=Gz
 draws:=NZ
 room:=fun A=>A.units+1<cLine
 inj:=fun{h a x y} hx hy=>by
  obtain⟨h1,h2⟩:=hx;obtain⟨h3,h4⟩:=hy;cases x with
  |t ns=>
   cases y with
   |t ms=>rw[IH (IsTupleKey.inj (show IsTupleKey (L5 P w) h (K2 ns) a from h2) h4)]
 keeps:=fun{h h' k a d o es ep} x ho hd hs=>by
  obtain⟨h1,h2⟩:=x;refine⟨h1,?_⟩;cases k with
  |t ns=>exact IsTupleKey.keeps (show IsTupleKey (L5 P w) h (K2 ns) a from h2) ho hd hs
 pyHash:=fun{A E s k a Q} hu hk h=>by
  obtain⟨h1,h2⟩:=hk;cases k with
  |t ns=>exact wpAny_pyHash_tuple (by omega) (show IsTupleKey (L5 P w) s.heap (K2 ns) a from h2) (by rw[dG];rw[show(K2 ns).length=ns.length from Qv ..];exact h)
 eqBool:=fun{A E s x y a b' Q} hu hx hy h=>by
  obtain⟨h1,h2⟩:=hx;obtain⟨h3,h4⟩:=hy;cases x with
  |t ns=>
   cases y with
   |t ms=>
    refine wpAny_eqBool_tuple (by omega) (show IsTupleKey (L5 P w) s.heap (K2 ns) a from h2) h4 ?_;have e:decide (K2 ns=K2 ms)=decide (KX.t ns=KX.t ms):=by
     by_cases z:ns=ms
     ·subst z;simp
     ·rw[Zg (fun q=>z (IH q)),Zg (fun q=>z (by injection q))]
    rw[e];exact h
 quiet:=fun{A E s k a Q} hk h=>by
  obtain⟨h1,h2⟩:=hk;cases k with
  |t ns=>exact wpAny_eqIsQuiet_tuple (show IsTupleKey (L5 P w) s.heap (K2 ns) a from h2) h
def Y6:D->Option KX
 |.tup ds=>(i9 ds).map .t
 |_=>none
def qA:List KX->bb->KX->Option D
 |k'::ks,v::vs,k=>if k'=k then some v else qA ks vs k
 |_,_,_=>none
def rL:List KX->bb->KX->D->bb
 |k'::ks,v::vs,k,d=>if k'=k then d::rL ks vs k d else v::rL ks vs k d
 |_,vs,_,_=>vs
def Q4:List KX->KX->Bool
 |k'::ks,k=>if k'=k then true else Q4 ks k
 |[],_=>false
def Y7(ks:List KX)(k:KX):List KX:=if Q4 ks k then ks else ks++[k]
def BJ(ks:List KX)(vs:bb)(k:KX)(d:D):bb:=if Q4 ks k then rL ks vs k d else vs++[d]
def qW:List KX->KX->Bool
 |k'::_,k=>k'.kind==k.kind
 |[],_=>true
theorem Fm{v:V}{k:KX}(r:b0 K G v d)(h:Y6 d=some k):∃b,v=.ref b/\O4 K G (.ref b) k:=by
 unfold Y6 at h;split at h
 ·rename_i ds;obtain⟨ns,e1,e2⟩:=D9 h;subst e2;simp only[b0]at r;obtain⟨a,xs,rfl,q,t⟩:=r;have hx:=AZ t e1;subst hx;exact⟨a,rfl,a,rfl,q⟩
 ·cases h
inductive AL (K:Qj) (G:Hp):List (KX×Addr×Value)->List KX->List V->List D->Prop
 |nil:AL K G [] [] [] []
 |cons {y:KX×Addr×Value}{ys:List (KX×Addr×Value)}{ks:List KX}{x:V}{xs:List V}{d:D}{ds:List D}(h1:O4 K G (.ref y.2.1) y.1) (h2:D1 x y.2.2) (h3:b0 K G x d) (t:AL K G ys ks xs ds):AL K G (y::ys) (y.1::ks) (x::xs) (d::ds)
def Fo(y:KX×ah×aj):ae:=⟨Gz y.1,.ref y.2.1,y.2.2⟩
theorem dH{k:KX}(h:O4 K G v k):∃b,v=.ref b:=by
 cases k with
 |t ns=>obtain⟨b,e,_⟩:=h;exact⟨b,e⟩
theorem oD.al{es:List ae}(h:oD K G es ks xs):∀{ds:bb},B4 K G xs ds->∃ys,es=ys.map Fo/\AL K G ys ks xs ds:=by
 induction h with
 |nil=>intro ds r;have:=r.length;cases ds with
  |nil=>exact⟨[],rfl,.nil⟩
  |cons _ _=>simp at this
 |@cons e es k ks x xs h1 h2 h3 t ih=>
  intro ds r;cases ds with
  |nil=>simp only[B4]at r;cases r
  |cons d ds=>
   simp only[B4]at r;obtain⟨x',r',e',q,u⟩:=r;cases e';obtain⟨ys,e1,e2⟩:=ih u;obtain⟨b,hb⟩:=dH h2;refine⟨(k,b,e.val)::ys,?_,.cons (y:=(k,b,e.val)) (hb ▸ h2) h3 q e2⟩;rw[Qm,e1];obtain⟨eh,ek,ev⟩:=e;dsimp only at h1 hb;rw[h1,hb];rfl
theorem AL.aE(h:AL K G ys ks xs ds):oD K G (ys.map Fo) ks xs/\B4 K G xs ds/\ys.map (·.1)=ks:=by
 induction h with
 |nil=>exact⟨.nil,f7,rfl⟩
 |cons h1 h2 h3 _ ih=>exact⟨.cons rfl h1 h2 ih.1,f6 h3 ih.2.1,by rw[Qm,ih.2.2]⟩
theorem AL.keys(h:AL K G ys ks xs ds):∀y∈ys,O4 K G (.ref y.2.1) y.1/\y.1∈ks:=by
 induction h with
 |nil=>intro y hy;cases hy
 |cons h1 _ _ _ ih=>
  intro y hy;rcases Qp.mp hy with rfl|hy
  ·exact⟨h1,Zv ..⟩
  ·exact⟨(ih y hy).1,Qo _ (ih y hy).2⟩
theorem AL.len(h:AL K G ys ks xs ds):ys.length=ks.length:=by
 rw[←h.aE.2.2,Qv]
theorem AL.look(h:AL K G ys ks xs ds)(k:KX):(∀d,qA ks ds k=some d->∃p x,atKey ys k=some p/\D1 x p.2/\b0 K G x d)/\(qA ks ds k=none->atKey ys k=none)/\(atKey ys k).isSome=Q4 ks k:=by
 induction h with
 |nil=>exact⟨fun d e=>(by cases e),⟨fun _=>rfl,rfl⟩⟩
 |@cons y ys ks x xs d ds h1 h2 h3 t ih=>
  by_cases hk:y.1=k
  ·have e:atKey (y::ys) k=some y.2:=by
    unfold atKey;rw[List.find?_cons_of_pos (by simpa using hk)];rfl
   simp only[qA,Q4,Qg hk,e];exact⟨fun d' e'=>(by cases e';exact⟨_,x,rfl,h2,h3⟩),⟨fun z=>(by cases z),rfl⟩⟩
  ·have e:atKey (y::ys) k=atKey ys k:=by
    unfold atKey;rw[List.find?_cons_of_neg (by simpa using hk)]
   simp only[qA,Q4,Qb hk,e];exact ih
theorem AL.re(h:AL K G ys ks xs ds){k:KX}{x:V}(rv:D1 x v)(rd:b0 K G x d):∃xs',AL K G (ys.map (putAt k v)) ks xs' (rL ks ds k d):=by
 induction h with
 |nil=>exact⟨[],.nil⟩
 |@cons y ys ks x0 xs d0 ds h1 h2 h3 t ih=>
  obtain⟨xs',q⟩:=ih
  by_cases hk:y.1=k
  ·refine⟨x::xs',?_⟩;simp only[Qm,putAt,Qg hk,rL];exact .cons (y:=(y.1,y.2.1,v)) h1 rv rd q
  ·refine⟨x0::xs',?_⟩;simp only[Qm,putAt,Qb hk,rL];exact .cons h1 h2 h3 q
theorem AL.app(h:AL K G ys ks xs ds){k:KX}{b:ah}{x:V}(kb:O4 K G (.ref b) k)(rv:D1 x v)(rd:b0 K G x d):AL K G (ys++[(k,b,v)]) (ks++[k]) (xs++[x]) (ds++[d]):=by
 induction h with
 |nil=>exact .cons (y:=(k,b,v)) kb rv rd .nil
 |cons h1 h2 h3 _ ih=>exact .cons h1 h2 h3 ih
theorem AL.put(h:AL K G ys ks xs ds){k:KX}{b:ah}{x:V}(kb:O4 K G (.ref b) k)(rv:D1 x v)(rd:b0 K G x d):∃xs',AL K G (storedH ys k b v) (Y7 ks k) xs' (BJ ks ds k d):=by
 have hs:=(h.look k).2.2;unfold storedH Y7 BJ;rw[hs];cases Q4 ks k with
 |true=>exact h.re rv rd
 |false=>exact⟨_,h.app kb rv rd⟩
theorem Nb:∀{ks:List KX}{k:KX},Q4 ks k=true↔k∈ks
 |[],k=>by simp[Q4]
 |k'::ks,k=>by
  by_cases e:k'=k
  ·subst e;simp[Q4]
  ·simp only[Q4,Qb e,Qp,Nb (ks:=ks)];exact⟨.inr,fun z=>z.elim (fun q=>absurd q.symm e) id⟩
theorem T4.kind{k:KX}(h:T4 ks)(ok:qW ks k=true):∀k'∈ks,k'.kind=k.kind:=by
 obtain⟨⟨n,h1⟩,_⟩:=h;cases ks with
 |nil=>intro k' hk;cases hk
 |cons k0 ks=>
  have e:k0.kind=k.kind:=by simpa [qW]using ok
  intro k' hk;rw[h1 k' hk,←e,h1 k0 (Zv ..)]
theorem T4.put{k:KX}(h:T4 ks)(ok:qW ks k=true):T4 (Y7 ks k):=by
 unfold Y7;split
 ·exact h
 ·rename_i hn;refine⟨⟨k.kind,fun k' hk=>?_⟩,?_⟩
  ·rcases Xf.mp hk with q|q
   ·exact h.kind ok k' q
   ·rw[Jg.mp q]
  ·rw[List.nodup_append];refine⟨h.2,by simp,fun a ha b hb=>?_⟩;rw[Jg.mp hb];intro z;exact hn (Nb.mpr (z ▸ ha))
section
variable{σ:St}{a b:ah}{es:Array ae}{k:KX}{vs:bb}
theorem Dr(I:Inv X pins σ H s)(l:Le G H)(h:O4 X.K G (.ref b) k):yL X.prog X.w s.heap b k:=by
 have one:∀{c:ah}{ns:aq},qT X.K G c (ns.map V.int)->IsTupleKey (L5 X.prog X.w) s.heap (K2 ns) c:=fun{c ns} q=>by
  refine bH (K:=X.K) (k:=K2 ns) I.hok I.kIn ?_;rw[IG];rcases l.sqU q with z|z
  ·exact .inl z
  ·exact .inr (.inr (by rw[IG];exact z))
 cases k with
 |t ns=>
  obtain⟨c,e,q⟩:=h;cases e;exact one q
theorem Fp(I:Inv X pins σ H s)(l:Le G H)(e:H a=some (.dX es ep))(ek:oD X.K G es.toList ks xs)(o:T4 ks)(rv:B4 X.K G xs vs){b:Bool}(hb:∀k∈ks,k.kind=b):∃ys,s.heap.DictOfH (Dq X.prog X.w b) a ys/\AL X.K G ys ks xs vs:=by
 obtain⟨z,y,ob,h1,h2,h3⟩:=(show F3 X.prog X.w H s.heap a (.dX es ep)from I.hok a _ e);obtain⟨ys,e1,al⟩:=ek.al rv;exact⟨ys,⟨ob,es,ep,h1,h2,h3,e1,fun y hy=>⟨hb _ (al.keys y hy).2,Dr I l (al.keys y hy).1⟩,by rw[al.aE.2.2];exact o.2⟩,al⟩
theorem dI{Q:OU}(hu:A.units+2<cLine)(I:Inv X pins σ H s)(l:Le G H)(e:H a=some (.dX es ep))(ek:oD X.K G es.toList ks xs)(o:T4 ks)(rv:B4 X.K G xs vs)(kb:O4 X.K G (.ref b) k)(ok:qW ks k=true)(hl:qA ks vs k=some d)
  (h:∀v w' s',Inv X pins σ H s'->D1 v w'->b0 X.K G v d->Q w' s'):wpAny (model X.prog X.w) A (getItem (.ref a) (.ref b)) Q E s:=by
 obtain⟨ys,dd,al⟩:=Fp I l e ek o rv (o.kind ok);obtain⟨p,x,h1,h2,h3⟩:=(al.look k).1 d hl;exact wpAny_getItem_heap (knd:=Dq X.prog X.w k.kind) (show A.in1.units+1<cLine from hu) ⟨rfl,Dr I l kb⟩ dd h1 (h x _ _ (I.tok _) h2 h3)
theorem dJ{v:V}{r:aj}{Q:Unit->ak->Prop}(hu:A.units+2<cLine)(I:Inv X pins σ H s)(l:Le G H)(e:H a=some (.dX es ep))(ek:oD X.K G es.toList ks xs)(o:T4 ks)(rv:B4 X.K G xs vs)(kb:O4 X.K G (.ref b) k)(ok:qW ks k=true)(hz:ks.length<sizeLine)(rr:D1 v r)(rd:b0 X.K G v d)
  (h:∀s' es' ep' xs',Inv X pins σ (upd H a (.dX es' ep')) s'->oD X.K G es'.toList (Y7 ks k) xs'->B4 X.K G xs' (BJ ks vs k d)->Q () s'):wpAny (model X.prog X.w) A (setItem (.ref a) (.ref b) r) Q E s:=by
 obtain⟨_,hd,_,_⟩:=W4 I e;obtain⟨ys,dd,al⟩:=Fp I l e ek o rv (o.kind ok);have hy:=al.len;refine wpAny_setItem_heap (knd:=Dq X.prog X.w k.kind) (hsz:=by omega) (show A.in1.units+1<cLine from hu) ⟨rfl,Dr I l kb⟩ dd fun h' dd' hs=>?_;obtain⟨q,es',ep',hq,h2,h3,h4,_,h5⟩:=dd';obtain⟨xs',al'⟩:=al.put (k:=k) kb rr rd;have h4':es'.toList=(storedH ys k b r).map Fo:=h4;have hsz:es'.size≤sizeLine:=by
  rw[←Yq,h4',Qv,al'.len];unfold Y7;split
  ·omega
  ·rw[Zx];simp;omega
 refine h _ es' ep' xs' (LN I (by rw[e];exact True.intro) hs ⟨q,hq⟩ ⟨hsz,hd,q,hq,h2,h3⟩) ?_ al'.aE.2.1;rw[h4'];exact al'.aE.1
end
section
variable{e2:Expr}
theorem Nc(h:Heap)(hb:sysModules<h.objs.size):F3 P w H (h.push {cls:=.type "dict",data:=.dict #[]}) h.objs.size (.dX #[] 0):=
 ⟨Yt _,Pa.mpr (Za (Qd hb)),_,Qw _ rfl,⟨rfl,rfl,rfl⟩,rfl⟩
theorem dO:PE X (.Dict [] [] pos) (fun _ H Q=>∀p,H p=none->Q (.ref p) (upd H p (.dX #[] 0))):=fun pins s σ H Q I h=>
 wpAny_Dict_empty ⟨.ref s.heap.objs.size,_,I.laid (a:=s.heap.objs.size) (o:=.dX #[] 0) (t':=s.toks) (fun _ _ q=>Qx _ q) (Qy _) (Nc s.heap I.big),rfl,h _ (I.hok.fresh (Qy _))⟩
def Fq(i:Nat):Mo Fl:=fun env=>some (.nx,env.set i (.ownX [] []))
theorem Nf:T4 []:=⟨⟨false,fun k hk=>nomatch hk⟩,Rj⟩
theorem Ia{pos' dpos:Pos}(hN:X.N.Nodup)(hi:X.N[i]? =some x)(hx:Loc X.env.scope x)(hs:swapsWith (.Dict [] [] dpos) (some (.Name x pos')) pos.line X.env=pure false:=by rfl)(hf:X.fn x=true\/X.env.scope.names.lookup x=some .local:=by first|exact .inl rfl|exact .inr rfl|assumption):
  ES X B (.Assign [.Name x pos'] (.Dict [] [] dpos) pos) (Fq i):=by
 refine j8 (DC hN hi hx dO hs hf) ?_;rintro D σ H ⟨G,env,fl,env',rl,e,k⟩;cases e;intro p hp;have ev:=rl.allocM (o:=.dX #[] 0) hp;exact k _ _ _ (ev.setOwnM (m:=.x [] []) (fun z=>rl.old p z hp) hp (rl.unowned hp) D7 (rl.gnone hp) ⟨#[],0,[],rfl,.nil,Nf,f7⟩ rfl rfl)
def CZ(ma mb:Mo D):Mo D:=fun env=>(ma env).bind fun p=>(mb p.2).bind fun q=>(Y6 p.1).map fun k=>(.dcx [k] [q.1],q.2)
theorem Fs(hu:X.A.units+64<cLine)(ha:ED X B a ma)(hb:ED X B b mb):ED X B (.Dict [some a] [b] pos) (CZ ma mb):=by
 intro pins s σ H Q I h;obtain⟨G,env,d,env',rl,e,k⟩:=h;obtain⟨⟨d1,a8⟩,e1,e2⟩:=B9 e;obtain⟨⟨d2,g0⟩,e3,e4⟩:=B9 e2;obtain⟨key,e5,e6⟩:=D9 e4;cases e6;have hp:H s.heap.objs.size=none:=I.hok.fresh (Qy _);have I0:Inv X pins σ (upd H s.heap.objs.size (.dX #[] 0)) {s with heap:=s.heap.push {cls:=.type "dict",data:=.dict #[]}}:=I.laid (a:=s.heap.objs.size) (o:=.dX #[] 0) (t':=s.toks) (fun _ _ q=>Qx _ q) (Qy _) (Nc s.heap I.big);have yM:=rl.allocM (o:=.dX #[] 0) hp;refine wpAny_Dict_any rfl rfl (by simp) (by simp) (pairTrees_cons_walk ?_);refine i6 (ha pins _ σ _ (fun v H1=>∃G1,Ev X.K B G σ env (upd H s.heap.objs.size (.dX #[] 0)) G1 σ a8 H1/\b0 X.K G1 v d1) I0 ⟨G,env,d1,a8,yM.rel,e1,fun v G1 H1 ev r=>⟨G1,ev,r⟩⟩) fun u1 s1 ⟨y1,H1,I1,r1,G1,j3,p1⟩=>?_;refine i6 (hb pins s1 σ H1 (fun v H2=>∃G2,Ev X.K B G1 σ a8 H1 G2 σ g0 H2/\b0 X.K G2 v d2) I1 ⟨G1,a8,d2,g0,j3.rel,e3,fun v G2 H2 ev r=>⟨G2,ev,r⟩⟩) fun u2 s2 ⟨y2,H2,I2,r2,G2,f9,p2⟩=>?_;refine pairTrees_nil_walk ?_;have tG:=j3.trans f9;have hpS:(upd H s.heap.objs.size (.dX #[] 0)) s.heap.objs.size=some (.dX #[] 0):=D7;have no:¬ d9 σ env s.heap.objs.size:=rl.unowned hp;have ndx:∀{es ep},NT (.dX es ep):=fun _ z=>by cases z
 have h2:H2 s.heap.objs.size=some (.dX #[] 0):=tG.keep _ _ no ndx hpS;have g2:G2 s.heap.objs.size=none:=tG.stay _ (by rw[hpS];simp) no (rl.gnone hp);have no2:¬ d9 σ g0 s.heap.objs.size:=fun z=>(tG.sub _ z).elim no fun q=>by rw[hpS]at q;cases q
 obtain⟨b',rfl,kb⟩:=Fm (b0.mono f9.same _ p1) e5;cases r1;obtain⟨_,hd,_,_⟩:=W4 I2 h2;obtain⟨ys,dd,al⟩:=Fp (b:=key.kind) (ks:=[]) (vs:=[]) I2 f9.rel.sub h2 .nil Nf f7 (fun k hk=>nomatch hk);cases al;unfold storeAll;rw[Sz];refine Qq (Qq (wpAny_dictSet_heap (knd:=Dq X.prog X.w key.kind) (show X.A.units+1<cLine by omega) ⟨rfl,Dr I2 f9.rel.sub kb⟩ dd fun h' dd' hs=>Qz ?_));dsimp only;rw[Rq];refine Qz ?_;obtain⟨q,es',ep',hq,q2,q3,q4,_,q5⟩:=dd';have q4':es'.toList=[Fo (key,b',u2)]:=q4;have hz:es'.size≤sizeLine:=by rw[←Yq,q4'];exact(by decide:(1:Nat)≤sizeLine)
 have I3:=LN (t':=s2.toks+NZ key) (ob:=.dX es' ep') I2 (by rw[h2];exact True.intro) hs ⟨q,hq⟩ ⟨hz,hd,q,hq,q2,q3⟩;have evA:=(yM.trans tG).layO (o:=.dX es' ep') (o0:=.dX #[] 0) hp no2 h2 (fun _ z=>by cases z) ndx g2;refine⟨.ref s.heap.objs.size,_,I3,rfl,k _ _ _ evA ?_⟩;simp only[b0];refine⟨_,es',ep',[y2],rfl,D7,?_,⟨⟨key.kind,fun k' hk=>by rw[Jg.mp hk]⟩,by simp⟩,f6 (b0.mono (Le.upd g2) _ p2) f7⟩;rw[q4'];exact .cons rfl (kb.mono (Le.upd g2)) r2 .nil
def Ag:D->D->Option D:=fun a b=>match a with
 |.dcx ks vs=>(Y6 b).bind fun k=>if qW ks k then qA ks vs k else none
 |_=>none
theorem Ib(hu:X.A.units+64<cLine)(ha:ED X B a ma)(hb:ED X B b mb)(hs:Eu b):ED X B (.Subscript a b pos) (B5 Ag ma mb):=by
 intro pins s σ H Q I h;obtain⟨G,env,d,env',rl,e,k⟩:=h;obtain⟨⟨d0,pL⟩,e0,e⟩:=B9 e;obtain⟨⟨d1,a8⟩,e1,e2⟩:=B9 e;obtain⟨d2,e3,e4⟩:=D9 e2;cases e4;unfold Ag at e3;dsimp only at e3;split at e3
 case h_2=>cases e3
 rename_i ks vs;obtain⟨key,e7,e8⟩:=B9 e3;split at e8
 case isFalse=>cases e8
 rename_i hk;refine WC PySem.F.slot_dict_getitem.lookup hs (i6 (ha pins s σ H (fun v H1=>∃G1,Ev X.K B G σ env H G1 σ pL H1/\b0 X.K G1 v (.dcx ks vs)) I ⟨G,env,_,pL,rl,e0,fun v G1 H1 ev r=>⟨G1,ev,r⟩⟩) fun u s1 ⟨x,H1,I1,rx,G1,j3,r1⟩=>?_);simp only[b0]at r1;obtain⟨q,es,ep,xs,rfl,g,ek,ok,rv⟩:=r1;cases rx;refine i6 (hb pins s1 σ H1 (fun v H2=>∃G2,Ev X.K B G1 σ pL H1 G2 σ a8 H2/\b0 X.K G2 v d1) I1 ⟨G1,pL,d1,a8,j3.rel,e1,fun v G2 H2 ev r=>⟨G2,ev,r⟩⟩) fun iv s2 ⟨y,H2,I2,ry,G2,f9,r⟩=>?_;obtain⟨b',rfl,kb⟩:=Fm r e7;cases ry;have hq:H2 q=some (.dX es ep):=f9.rel.sub _ _ (f9.same _ _ g);obtain⟨_,_,hT,_⟩:=W4 I2 hq;exact⟨hT,dI (by omega) I2 f9.rel.sub hq (ek.mono f9.same) ok (B4.mono f9.same _ rv) kb hk e8 fun v w' s3 I3 rw' rd=>⟨v,H2,I3,rw',k v G2 H2 (j3.trans f9) rd⟩⟩
def dP(K:Qj):V->ba->Hp->VK->Prop:=fun x as H Q=>∃(a b:ah) (es:Array ae) (ep:Nat) (G:Hp) (ks:List KX) (xs:ba) (vs:bb) (k:KX) (df:V),x=.ref a/\as=[.ref b,df]/\H a=some (.dX es ep)/\Le G H/\oD K G es.toList ks xs/\T4 ks/\B4 K G xs vs/\O4 K G (.ref b) k/\qW ks k=true/\
 (∀d,qA ks vs k=some d->∀v,b0 K G v d->Q v H)/\(qA ks vs k=none->Q df H)
theorem dQ(hu:X.A.units+64<cLine):uD X "dict.get" (dP X.K):=by
 intro pins s σ H x as v us Q I rx rv h;obtain⟨a,b,es,ep,G,ks,xs,vs,k,df,rfl,rfl,ea,l,ek,o,rp,kb,ok,q1,q2⟩:=h;cases rx;obtain⟨u,u2,rfl,ru,ru2⟩:=rv.two;cases ru;obtain⟨_,hd,hT,_⟩:=W4 I ea;obtain⟨ys,dd,al⟩:=Fp I l ea ek o rp (o.kind ok);refine call_meetsIn PySem.F.slot_dict_get hT PySem.F.entry_dict_get (PySem.F.args_dict_get_3 _ _ _) (meetsH_dict_get_default (Dq X.prog X.w k.kind) a b hd u2) ⟨(show X.A.in1.units+1<cLine by show X.A.units+1+1<cLine;omega),k,ys,⟨rfl,Dr I l kb⟩,dd,?_⟩;obtain⟨l1,l2,l3⟩:=al.look k;cases hv:qA ks vs k with
 |none=>
  rw[l2 hv];exact⟨df,H,I.tok _,ru2,q2 hv⟩
 |some d=>
  obtain⟨p,y,h1,h2,h3⟩:=l1 d hv;rw[h1];exact⟨y,H,I.tok _,h2,q1 d hv y h3⟩
def AD(i:Nat)(ma mb:Mo D):Mo D:=fun env=>((env[i]?).bind W.mutX).bind fun _=>(ma env).bind fun p=>(mb p.2).bind fun r=>((r.2[i]?).bind W.mutX).bind fun q=>(Y6 p.1).bind fun k=>if qW q.1 k then some ((qA q.1 q.2 k).getD r.1,r.2)else none
theorem Ic(hu:X.A.units+64<cLine)(ho:PE X (.Name x p) (T0 i))(ha:pN X B [e,e2] (B0 ma (B0 mb B6)))
  (hbase:attributeBase (.Name x p) "get" X.env (eval (.Name x p) X.env)=eval (.Name x p) X.env:=by rfl)
  (hfew:((backTo cpos (starEach [e,e2] X.env)).all (fun x=>!x.1)&&(backToKw cpos (keywordEach [] X.env)).all (fun x=>x.1.isSome)
   &&decide ([e,e2].length+([]:List Keyword).length+(if([]:List Keyword).isEmpty then 0 else 1)<30))=true:=by rfl)
  (hline:(apos.endLine==cpos.line)=true:=by rfl)(hs:starEach [e,e2] X.env=(false,eval e X.env)::starEach [e2] X.env:=by rfl)(hplain:(backTo cpos (starEach [e2] X.env)).any (·.1)=false:=by rfl):
  ED X B (.Call (.Attribute (.Name x p) "get" apos) [e,e2] [] cpos) (AD i ma mb):=by
 refine c9 (DF Tw PySem.F.slot_dict_get PySem.F.type_dict_get (dQ hu) ho ha hbase hfew hline hs hplain) ?_;rintro σ H Q ⟨G,env,d,env',rl,e,k⟩;obtain⟨⟨ks0,vs0⟩,e0,e⟩:=B9 e;obtain⟨w0,e00,em0⟩:=B9 e0;obtain⟨⟨d1,a8⟩,e1,e2⟩:=B9 e;obtain⟨⟨d2,g0⟩,e3,e4⟩:=B9 e2;obtain⟨⟨ks,vs⟩,e5,e6⟩:=B9 e4;obtain⟨w,e7,e8⟩:=B9 e5;obtain⟨key,e9,e10⟩:=B9 e6;dsimp only at e10 e7;split at e10
 case isFalse=>cases e10
 rename_i hk;cases e10;obtain⟨q,es0,ep0,xs0,h1,h2,_⟩:=rl.ownX i w0 ks0 vs0 e00 em0;refine⟨_,h1,.inr (.inr (.inr (.inr ⟨rfl,_,_,h2⟩))),G,env,[d1,d2],env',rl,?_,fun us G1 H1 ev r1=>?_⟩
 ·show(ma env).bind _=_;rw[e1,Qk];show((B0 mb B6) a8).map _=_;show((mb a8).bind _).map _=_;rw[e3];rfl
 ·simp only[B4]at r1;obtain⟨y1,t1,rfl,s1,y2,t2,rfl,s2,rfl⟩:=r1;obtain⟨b,rfl,kb⟩:=Fm s1 e9;obtain⟨q',es,ep,xs,g1,g2,g3,g4,g5,g6⟩:=ev.rel.ownX i w ks vs e7 e8;rw[h1]at g1;cases g1;refine⟨q,b,es,ep,G1,ks,xs,vs,key,y2,rfl,rfl,g2,ev.rel.sub,g3,g4,g5,kb,hk,fun d hd v rd=>?_,fun hn=>?_⟩
  ·exact k _ G1 H1 ev (by rw[hd];exact rd)
  ·exact k _ G1 H1 ev (by rw[hn];exact s2)
def dU(K:Qj):En:=fun o i v H Q=>∃(a b:ah) (es:Array ae) (ep:Nat) (G:Hp) (ks:List KX) (xs:ba) (vs:bb) (k:KX) (d:D),o=.ref a/\i=.ref b/\H a=some (.dX es ep)/\Le G H/\oD K G es.toList ks xs/\T4 ks/\B4 K G xs vs/\O4 K G (.ref b) k/\qW ks k=true/\ks.length<sizeLine/\b0 K G v d/\
 ∀es' ep' xs',oD K G es'.toList (Y7 ks k) xs'->B4 K G xs' (BJ ks vs k d)->Q (upd H a (.dX es' ep'))
theorem dW(hu:X.A.units+64<cLine):Gg X (dU X.K):=by
 intro pins s σ H o i v ov iv u Q I ro ri rv h;obtain⟨a,b,es,ep,G,ks,xs,vs,k,d,rfl,rfl,ea,l,ek,oo,rp,kb,ok,hz,rd,q⟩:=h;cases ro;cases ri;exact dJ (by omega) I l ea ek oo rp kb ok hz rv rd fun s' es' ep' xs' I' h1 h2=>⟨_,I',q es' ep' xs' h1 h2⟩
def sS(s:Nat)(mi:Mo D):OX:=fun d env=>((env[s]?).bind W.mutX).bind fun _=>(mi env).bind fun p=>(p.2[s]?).bind fun w=>w.mutX.bind fun q=>(Y6 p.1).bind fun k=>
 if qW q.1 k&&decide (q.1.length<100000)then some (p.2.set s (w.putM (.x (Y7 q.1 k) (BJ q.1 q.2 k d))))else none
theorem Ie{s:Nat}(hu:X.A.units+64<cLine)(ho:PE X (.Name x p) (T0 s))(hi:ED X B b mb)
  (ha:∀v,assign (.Subscript (.Name x p) b pos) X.env v=(do
   let ov←holding [v] (eval (.Name x p) X.env)
   let iv←holding [v,ov] (eval b X.env)
   standAt pos
   holding [v,ov,iv] (setItem ov iv v)
   release [v,ov,iv] []):=by intro _;rfl):EG X B n (.Subscript (.Name x p) b pos) (sS s mb):=by
 refine FI (Kg ho hi (dW hu) ha) ?_;rintro v σ H Q ⟨G,env,d,env',rl,r,e,k⟩;obtain⟨⟨ks0,vs0⟩,e0,e⟩:=B9 e;obtain⟨w0,e00,em0⟩:=B9 e0;obtain⟨⟨d1,a8⟩,e1,e2⟩:=B9 e;obtain⟨w,e3,e4⟩:=B9 e2;obtain⟨⟨ks,vs⟩,e5,e6⟩:=B9 e4;obtain⟨key,e7,e8⟩:=B9 e6;dsimp only at e8 e3;split at e8
 case isFalse=>cases e8
 rename_i hl;cases e8;simp only[Qr,Yk]at hl;obtain⟨q,es0,ep0,xs0,h1,_⟩:=rl.ownX s w0 ks0 vs0 e00 em0;refine⟨_,h1,.bind rl e1 fun iv G1 H1 ev r1=>?_⟩;obtain⟨q',es,ep,xs,g1,g2,g3,g4,g5,g6⟩:=ev.rel.ownX s w ks vs e3 e5;rw[h1]at g1;cases g1;obtain⟨b',rfl,kb⟩:=Fm r1 e7;exact⟨q,b',es,ep,G1,ks,xs,vs,key,d,rfl,rfl,g2,ev.rel.sub,g3,g4,g5,kb,hl.1,Vk hl.2 (by decide),b0.mono ev.same _ r,fun es' ep' xs' z1 z2=>k _ G1 _ (ev.writeM e3 (W.mutX_of e5) h1 ⟨_,_,_,rfl,z1,g4.put hl.1,z2⟩) fun _ _=>rfl⟩
end
end L2.Mir
namespace L2
open PySem PySem.Spec PyProof.Rows
section
variable{κ:Type}[DecidableEq κ]
end
end L2
namespace L2.Mir
open PySem PySem.Spec PyProof.Rows
section
variable{X:Cx}{B:OE}{pos p:Pos}{a tg:Expr}{ms:Mo bb}
end
inductive qO (K:Qj) (G:Hp):List V->List (Key×Key)->Prop
 |nil:qO K G [] []
 |cons {q:Addr}{k v:Key}{xs:List V}{ps:List (Key×Key)}:qT K G q [kV k,kV v]->qO K G xs ps->qO K G (.ref q::xs) ((k,v)::ps)
section
variable{X:Cx}{pins:OA}{σ:St}{A:Around}{R:Result->ak->Prop}{l it d:ah}{xs:ba}{G:Hp}
end
section
variable{X:Cx}{B:OE}
end
section
variable{prog:af}{w:ag}{A:Around}{R:Result->ak->Prop}{s:ak}
end
section
variable{X:Cx}{N':ar}{scope:Scope}{keep:ay}{more:Nat}{tg iter kx vx:Expr}{ifs:au}{g:TG}{tt:TT}{act:ah->X8}{pos:Pos}
end
section
variable{K:Qj}{B:OE}{n:Nat}
end
section
variable{X:Cx}{B:OE}{N':ar}{scope:Scope}{keep:ay}{more:Nat}{tg iter kx vx:Expr}{ifs:au}{g:OX}{t:Mo Bool}{mk mv:Mo D}{mi:Mo bb}{pos:Pos}
end
section
variable{X:Cx}{B:OE}{pos:Pos}{e:Expr}{ma:Mo D}
def dY:V->ba->Hp->VK->Prop:=fun x vs H Q=>∃(a:ah) (es:Array ae) (ep:Nat),x=.ref a/\vs=[]/\H a=some (.dX es ep)/\∀l,H l=none->l≠a->Q (.ref l) (upd H l (.ext fun h=>h.IsValuesView l a))
theorem dZ:uD X "dict.values" dY:=by
 intro pins s σ H x vs v us Q I rx rv h;obtain⟨a,es,ep,rfl,rfl,ea,q⟩:=h;cases rx;cases rv;obtain⟨z1,hd,hT,z4⟩:=W4 I ea;refine call_meetsIn PySem.F.slot_dict_values hT PySem.F.entry_dict_values (PySem.F.args_dict_values_1 _) (cR a hd) ⟨hT,?_⟩;have hf:H s.heap.objs.size=none:=I.hok.fresh (Qy _);have ne:s.heap.objs.size≠a:=fun z=>by rw[z,ea]at hf;cases hf
 refine⟨.ref s.heap.objs.size,_,I.laid (a:=s.heap.objs.size) (o:=.ext fun h=>h.IsValuesView s.heap.objs.size a) (t':=s.toks) (fun _ _ q=>Qx _ q) (Qy _) ⟨⟨_,Qw _ rfl,rfl,rfl⟩,⟨_,Qw _ rfl⟩,fun h1 h2 ⟨o,e,r⟩ k=>⟨o,k o e,r⟩⟩,rfl,q _ hf ne⟩
def eA:ba->Hp->VK->Prop:=fun xs H Q=>∃(v a:ah) (es:Array ae) (ep:Nat) (ns:aq),xs=[.ref v]/\v≠a/\H v=some (.ext fun h=>h.IsValuesView v a)/\H a=some (.dX es ep)/\v8 es (ns.map V.int)/\ns.length=es.size/\Q (.int ns.sum) H
theorem eC(hc:X.calm=true):J3 X (.builtin "sum") eA:=by
 intro pins s σ H xs us Q I r h;obtain⟨v,a,es,ep,ns,rfl,nva,hv,ha,ht,hsz,q⟩:=h;obtain⟨u,rfl,rx⟩:=Q5 r;cases rx;have hh:X.A.handled=none:=I.ok.hd hc;have hview:s.heap.IsValuesView v a:=(show F3 X.prog X.w H s.heap v (.ext _)from I.hok v _ hv).1;obtain⟨_,hd,hT,hes⟩:=W4 I ha;have hlt:a<s.heap.objs.size:=by obtain⟨o,d1,_⟩:=hes;exact Qu d1
 have key:∀(i:Nat) (x:aj),(∃e:ae,es[i]? =some e/\x=e.val)->∃t,x=Value.int (ns.getD i 0) t:=fun i x ⟨e,he,hx⟩=>by
  subst hx;obtain⟨y,h1,h2⟩:=ht.val i e he;rw[Zw]at h1;cases hm:ns[i]? with
  |none=>rw[hm]at h1;cases h1
  |some n=>
   rw[hm]at h1;cases h1;obtain⟨t,ht⟩:=h2;exact⟨t,by rw[Zl,hm];exact ht⟩
 refine call_sum_walkG (cN hview hes ?_);refine⟨s.heap.objs.size,[s.heap.objs.size,a],[s.heap.objs.size],es.size,_,_,fun i=>ns.getD i 0,rfl,cQ (A:=X.A.in1) hh _ (Qd hlt),⟨⟨_,Qw _ rfl,rfl,rfl⟩,hes.keep fun o e=>Qx _ e⟩,fun b hb=>?_,key,fun h' tk t' hk'=>?_⟩
 ·have hs:=Qu (Qw s.heap (o:={cls:=.type "dict_valueiterator",data:=.fields #[.ref a,.int 0 0,.int es.size 0,.int ep 0]}) rfl);rcases Qp.mp hb with rfl|hb
  ·exact hs
  ·rcases Qp.mp hb with rfl|hb
   ·exact Vk hlt hs
   ·cases hb
 ·rw[←hsz,Xi,Js (Qy _)];exact⟨.int ns.sum,H,I.kept (t':=tk) (LSm.kept_iter hk'),⟨t',rfl⟩,q⟩
def Ng(m:Mo D):Mo D:=fun env=>(m env).bind fun p=>match p.1 with
 |.dcx _ vs=>(i9 vs).map fun ns=>(.int ns.sum,p.2)
 |_=>none
theorem Nh{p1 apos cpos:Pos}(hc:X.calm=true)(h:ED X B e ma)(hg:Gl X "sum")(hm:X.mg "sum"=none)
  (hbase:attributeBase e "values" X.env (eval e X.env)=eval e X.env:=by rfl)(hline:(apos.endLine==cpos.line)=true:=by rfl)
  (he:starEach [.Call (.Attribute e "values" apos) [] [] cpos] X.env=[(false,eval (.Call (.Attribute e "values" apos) [] [] cpos) X.env)]:=by rfl):
  ED X B (.Call (.Name "sum" p1) [.Call (.Attribute e "values" apos) [] [] cpos] [] pos) (Ng ma):=by
 have hv:=LJ (X:=X) (apos:=apos) (cpos:=cpos) Tw PySem.F.slot_dict_values PySem.F.type_dict_values dZ h hbase hline;refine c9 (AO (eC hc) hg hm MR (M3 hv Q6 he)) ?_;rintro σ H Q ⟨G,env,d,env',rl,e,k⟩;obtain⟨⟨d0,a8⟩,e1,e2⟩:=B9 e;dsimp only at e2;split at e2
 case h_2=>cases e2
 rename_i ks vs;obtain⟨ns,e3,e4⟩:=D9 e2;cases e4;refine⟨G,env,_,_,rl,e1,fun v G1 H1 ev r=>?_⟩;simp only[b0]at r;obtain⟨a,es,ep,xs,rfl,g,ek,ok,rv⟩:=r;have ha:=ev.rel.sub _ _ g;have hx:=AZ rv e3;subst hx;refine⟨.inr (.inr (.inr (.inr ⟨rfl,_,_,ha⟩))),a,es,ep,rfl,rfl,ha,fun l hl ne=>?_⟩;refine⟨l,a,es,ep,ns,rfl,ne,D7,by rw[C6 (Za ne)];exact ha,ek.tE,?_,k _ G1 _ (ev.trans (ev.rel.allocM hl)) (by simp only[b0])⟩;have h1:=ek.len;simp at h1;omega
end
section
variable{X:Cx}{B:OE}{pos:Pos}{o e:Expr}{ma mb:Mo D}
end
section
variable{P:af}{w:ag}
end
section
variable{X:Cx}{B:OE}{pins:OA}{σ:St}{G H:Hp}{s:ak}
end
theorem eD{t:aa}{es:Array (Int×aj)}{L:List (Nat×Int×aj)}(T:Tb t es L)(hM:Dm t L.length)(h:Int):∃m,road t h m∉L.map (·.1)/\(∀n,n<m->road t h n∈L.map (·.1))/\t.freeSlot h=some (road t h m,false):=by
 obtain⟨hc,hL,hm2⟩:=hM.cov;obtain⟨m,hm,hout,hin⟩:=T.ends hc hL h;refine⟨m,hout,hin,?_⟩;have hp:SetTable.probe t (fun _=>h+1) h (t.probeStart h)=some (.empty (road t h m) none):=by
  unfold SetTable.probe;rcases NO (t:=t) (hashAt:=fun _=>h+1) (h:=h) T.ris T.du m (10 * SetTable.turns t.mask) (t.probeStart h) hm rfl (fun n hn=>T.mem.mpr (hin n hn)) (fun q hq e=>hout (T.mem.mp ⟨q,hq,e⟩))with⟨n,q,_,_,_,z,_⟩|⟨_,z⟩
  ·exact absurd z (by omega)
  ·exact z
 unfold SetTable.freeSlot;rw[hp];rfl
theorem eE{t:aa}{es:Array (Int×aj)}{L:List (Nat×Int×aj)}(T:Tb t es L)(hM:Dm t L.length)(h:Int)(x:aj):
  ∃t1 es1 L1,layNew t es h x=(es1,t1,false,false)/\Tb t1 es1 L1/\(L1.map (·.2)).Perm ((h,x)::L.map (·.2))/\L1.length=L.length+1/\t1.mask=t.mask/\t1.led=t.led/\t1.plain=t.plain:=by
 obtain⟨hc,hL,hm2⟩:=hM.cov;obtain⟨m,hout,hin,hf⟩:=eD T hM h;obtain⟨L1,T1,P1⟩:=T.put (x:=x) hout rfl hin;have hl1:L1.length=L.length+1:=by rw[P1.length_eq];rfl
 have hle:L1.length≤(t.put (road t h m)).1.mask:=by
  show L1.length≤t.mask;rw[hl1];rcases hM with⟨e,z⟩|⟨e,z⟩<;>rw[e]<;>omega
 have hfit:=T1.fits hle;refine⟨(t.put (road t h m)).1,_,L1,?_,T1,P1.map (·.2),hl1,rfl,rfl,rfl⟩;unfold layNew;rw[hf];dsimp only;unfold SetTable.orStandIn;rw[hfit];rfl
theorem eF{t:aa}{es:Array (Int×aj)}{L:List (Nat×Int×aj)}(T:Tb t es L)(hl:L.length=5):
  ∃t1 es1 L1,relayAll t es (SetTable.grown es.size)=(es1,t1,false)/\Tb t1 es1 L1/\(L1.map (·.2)).Perm (L.map (·.2))/\L1.length=5/\t1.mask=31/\t1.led=t.led/\t1.plain=t.plain:=by
 have hz:es.size=5:=by rw[T.esz,hl]
 obtain⟨t3,od,L3,h1,h2,h3,h4,T3,P3,O3⟩:=cL (mask:=31) (fi:=t.finger) (mv:=t.movedTo 31) (led:=t.led) (plain:=t.plain) (es:=es) NN (by rw[hz];omega);have hsa:SetTable.sizeAbove 20=32:=by decide
 have hrl:t.relaid (es.map (·.1)) (SetTable.grown es.size)=some (t3,od):=by
  have:SetTable.grown es.size=20:=by rw[hz];rfl
  unfold SetTable.relaid;rw[this,hsa];exact h1
 have hl3:L3.length=5:=by
  have:=P3.length_eq;rw[Qv]at this;exact this.trans (Array.length_toList.trans hz)
 refine⟨t3,od.filterMap (es[·]?),L3,?_,T3,?_,hl3,h2,h3,h4⟩
 ·unfold relayAll;rw[hrl];dsimp only;have c1:coversAll od es.size=true:=by
   unfold coversAll;exact List.isPerm_iff.mpr O3
  rw[c1,T3.fits (by rw[h2,hl3];omega)];rfl
 ·rw[←T.en];exact P3
section
variable{prog:af}{w:ag}{A:Around}{E:OU}{s:ak}
abbrev uU(prog:af)(w:ag)(p:Int×Tok):Int×aj:=((intKind prog w).hash p.1,Value.int p.1 p.2)
def V7(prog:af)(w:ag)(h:Heap)(S:ah)(led:Bool)(ns:aq):Prop:=
 ∃(o:Obj) (es:Array (Int×aj)) (ep:Nat) (t:aa) (L:List (Nat×Int×aj)) (ps:List (Int×Tok)),h.get? S=some o/\o.ExactSet/\o.data=.set es ep t/\Tb t es L/\Dm t L.length/\t.led=led/\t.plain=true/\(L.map (·.2)).Perm (ps.map (uU prog w))/\ps.map (·.1)=ns/\ns.Nodup
theorem eG{es:Array (Int×aj)}{L:List (Nat×Int×aj)}{t:aa}{ps:List (Int×Tok)}(T:Tb t es L)(hP:(L.map (·.2)).Perm (ps.map (uU prog w))):ElemsOf (intKind prog w) es.toList:=fun e he=>by
 rw[T.en]at he;obtain⟨p,_,rfl⟩:=Zm.mp (hP.mem_iff.mp he);exact⟨⟨p.1,Rc _ _ _ _,rfl⟩,rfl⟩
theorem eI{es:Array (Int×aj)}{L:List (Nat×Int×aj)}{t:aa}{ps:List (Int×Tok)}(T:Tb t es L)(hP:(L.map (·.2)).Perm (ps.map (uU prog w)))(n:Int):(∃e∈es.toList,(intKind prog w).is n e.2=true)↔n∈ps.map (·.1):=by
 rw[T.en]
 constructor
 ·rintro⟨e,he,hi⟩;obtain⟨p,hp,rfl⟩:=Zm.mp (hP.mem_iff.mp he);have:n=p.1:=(intKind prog w).inj _ _ _ hi (Rc _ _ _ _);exact this ▸ Zm.mpr ⟨p,hp,rfl⟩
 ·intro h;obtain⟨p,hp,rfl⟩:=Zm.mp h;exact⟨uU prog w p,hP.mem_iff.mpr (Zm.mpr ⟨p,hp,rfl⟩),Rc _ _ _ _⟩
theorem eJ{S:ah}{led:Bool}{ns:aq}{n:Int}{tk:Tok}{Q:Bool->ak->Prop}(hS:V7 prog w s.heap S led ns)(hn:ns.length+1≤18)
  (h:∀b h',Heap.SameBut S s.heap h'->V7 prog w h' S led (step_dedup ns n)->Q b {s with heap:=h'}):wpAny (model prog w) A (setAddHashed S (.int n tk) ((intKind prog w).hash n)) Q E s:=by
 obtain⟨o,es,ep,t,L,ps,ho,hex,hd,T,hM,hled,hpl,hP,hps,hnd⟩:=id hS;obtain⟨hc,hL,hm2⟩:=hM.cov;have hlen:L.length=ns.length:=by
  have:=hP.length_eq;rw[Qv,Qv]at this;rw[this,←hps,Qv]
 have hfit:=T.fits hL;have hel:=eG T hP;have hmem:=eI T hP n;rw[hps]at hmem;have hsz:es.size=L.length:=T.esz;unfold setAddHashed setAddHashedIn;refine Ze (Qq (Vo ho hd hfit ?_));dsimp only;rw[byScan_of rfl (by rw[hsz];show L.length<4096;omega) hel];simp only[↓reduceIte];unfold setAddByScan;refine Qq ?_;refine Qq (Xv ?_);refine Qq (wpAny_setScan_of (Rc _ _ _ _) ho hd hfit hel ?_);cases hr:List.findIdx? (fun e=>(intKind prog w).is n e.2) es.toList with
 |some j=>
  dsimp only;obtain⟨hj,hpj,_⟩:=Ts.mp hr;have hin:n∈ns:=hmem.mp ⟨es.toList[j],Px hj,hpj⟩;refine Qz (Qz ?_);have e:s={s with heap:=s.heap}:=by cases s;rfl
  rw[e];refine h _ s.heap (Heap.SameBut.refl S s.heap) ?_;have:step_dedup ns n=ns:=by
   unfold step_dedup;rw[Qg (show(ns.any fun x=>x==n)=true from List.any_eq_true.mpr ⟨n,hin,Pj n⟩)]
  rw[this];exact hS
 |none=>
  dsimp only;have hni:n∉ns:=fun hi=>by
   obtain⟨e,he,hp⟩:=hmem.mpr hi;have:=List.findIdx?_eq_none_iff.mp hr e he;rw[hp]at this;exact Bool.noConfusion this
  have hsd:step_dedup ns n=ns++[n]:=by
   unfold step_dedup;rw[Qb];intro z;obtain⟨y,hy,e⟩:=List.any_eq_true.mp z;exact hni (Pk e ▸ hy)
  rw[hsd]at h;obtain⟨t1,es1,L1,e1,T1,P1,l1,m1,d1,p1⟩:=eE T hM ((intKind prog w).hash n) (.int n tk);rw[e1];dsimp only;refine Qq (Qz ?_);have hP1:(L1.map (·.2)).Perm ((ps++[(n,tk)]).map (uU prog w)):=by
   refine P1.trans ?_;rw[Ju];exact(List.Perm.cons _ hP).trans (List.perm_append_comm (l₁:=[_]))
  have hps1:(ps++[(n,tk)]).map (·.1)=ns++[n]:=by rw[Ju,hps];rfl
  have hnd1:(ns++[n]).Nodup:=Xq.mpr ⟨hnd,by simp,fun a ha b hb e=>by
   rw[Jg]at hb;subst hb;subst e;exact hni ha⟩
  rw[Qg (p1.trans hpl)];refine Qq ?_;rw[hashByValue_scannable 8 rfl];refine Qz ?_;have hpk:plainKind (Value.int n tk)=true:=rfl;simp only[hpk,Yw];have z1:es1.size=L.length+1:=by rw[T1.esz,l1]
  refine Qq (wpAny_storeSet_of ho hd ?_ (Dn (by rw[z1];omega)));have g1:=NW ho hd es1 t1;have sb1:=Zc s.heap S (Obj.putSet es1 t1);have hfill:t1.fill=L.length+1:=by
   unfold SetTable.fill;rw[T1.du,T1.size,l1];rfl
  have htf:t1.tooFull=decide ((L.length+1) * 5 ≥ t.mask * 3):=by
   unfold SetTable.tooFull;rw[hfill,m1]
  by_cases hfull:(L.length+1) * 5 ≥ t.mask * 3
  ·rw[htf,Yb hfull];simp only[Bool.not_false,Bool.and_self,Yw];have hm7:t.mask=7/\L.length=4:=by
    rcases hM with⟨e,z⟩|⟨e,z⟩
    ·rw[e]at hfull;exact⟨e,by omega⟩
    ·rw[e]at hfull;omega
   obtain⟨t2,es2,L2,e2,T2,P2,l2,m2,d2,p2⟩:=eF T1 (by rw[l1,hm7.2]);rw[e2];dsimp only;refine Qq (Qz ?_);have z2:es2.size=5:=by rw[T2.esz,l2]
   refine Qq (wpAny_storeSet_of g1 rfl ?_ (Dn (by rw[z2];omega)));have g2:=NW g1 rfl es2 t2;have sb2:=sb1.trans (Zc _ S (Obj.putSet es2 t2));refine Qz (Qz (h _ _ sb2 ?_));exact⟨_,es2,_,t2,L2,ps++[(n,tk)],g2,hex,rfl,T2,.inr ⟨m2,by rw[l2];omega⟩,d2.trans (d1.trans hled),p2.trans (p1.trans hpl),P2.trans hP1,hps1,hnd1⟩
  ·rw[htf,Zg hfull];simp only[Bool.not_false,Bool.and_false,Zq,Zo];refine Qz (Qz (h _ _ sb1 ?_));refine⟨_,es1,_,t1,L1,ps++[(n,tk)],g1,hex,rfl,T1,?_,d1.trans hled,p1.trans hpl,hP1,hps1,hnd1⟩;rw[l1];rcases hM with⟨e,z⟩|⟨e,z⟩
   ·rw[e]at hfull;exact .inl ⟨m1.trans e,by omega⟩
   ·exact .inr ⟨m1.trans e,by omega⟩
end
theorem V7.at'{prog:af}{w:ag}{h h':Heap}{S:ah}{led:Bool}{ns:aq}(x:V7 prog w h S led ns)(k:∀o,h.get? S=some o->h'.get? S=some o):V7 prog w h' S led ns:=by
 obtain⟨o,es,ep,t,L,ps,ho,r⟩:=x;exact⟨o,es,ep,t,L,ps,k o ho,r⟩
section
variable{prog:af}{w:ag}{A:Around}{R:Result->ak->Prop}{I:ah}{fp wr:List ah}{G:Array GenState->Array GenState->Prop}{n:Nat}{P:Nat->aj->Prop}{St:Nat->ak->Prop}
theorem eK(W:WalksS prog w A.in1 I fp wr G n P St)(S:ah)(led:Bool)(hSf:S∉fp)(val:Nat->Int)(hval:∀i v,P i v->∃t,v=.int (val i) t)(hb:n≤17):
  ∀(k i:Nat) (s:ak),n-i=k->i≤n->St i s->V7 prog w s.heap S led (firstMet val i)->
   (∀s',Moved (S::wr) G s s'->V7 prog w s'.heap S led (firstMet val n)->R (.ok (.ret .none)) s')->
   codeAny (model prog w) A (.builtin "set.update.loop" ⟨[.ref S,.ref I],[]⟩) R s:=by
 have hSw:S∉wr:=fun h=>hSf (W.sub _ h);have hsub:∀b∈wr,b∈S::wr:=fun b hb=>Qo _ hb;intro k
 induction k with
 |zero=>
  intro i s hk hi hst hS hR;have hin:i=n:=by omega
  subst hin;refine Uz Tq ?_;rw[Uj Uc _];show wpAny _ A.in1 (pyNext (.ref I)>>=_) _ _ s;refine Qq (W.done s _ _ hst fun s' hm=>?_);show wpAny _ A.in1 (ret Value.none) _ _ s';exact Qz (hR s' (hm.mono hsub) (hS.at' fun o e=>hm.heap S _ hSw e))
 |succ k ih=>
  intro i s hk hi hst hS hR;have hlt:i<n:=by omega
  refine Uz Tq ?_;rw[Uj Uc _];show wpAny _ A.in1 (pyNext (.ref I)>>=_) _ _ s;refine Qq (W.item i s _ _ hlt hst fun v s' hP hst' hm=>?_);obtain⟨t,rfl⟩:=hval i v hP;have hS':V7 prog w s'.heap S led (firstMet val i):=hS.at' fun o e=>hm.heap S _ hSw e;show wpAny _ A.in1 (holding [Value.int (val i) t] (setAdd S (.int (val i) t))>>=_) _ _ s';refine Qq (Ze ?_);unfold setAdd;refine Ze ?_;refine Qq ((intKind prog w).pyHash (k:=val i) (Rc _ _ _ _) ?_);have hroom:(firstMet val i).length+1≤18:=by have:=firstMet_length_le val i;omega
  refine eJ (s:={s' with toks:=s'.toks+1}) hS' hroom fun b h' hsb hS2=>?_;rw[←firstMet_succ]at hS2;refine Qz ⟨Rp Uc _,ih (i+1) _ (by omega) hlt (W.frame _ s' _ _ hst' (Xu _) fun b hb o e=>?_) hS2 fun s'' hm'' hS''=>?_⟩
  ·rw[hsb.2 b (fun h:b=S=>hSf (by rw[←h];exact hb))];exact e
  ·refine hR s'' (Moved.trans W.gtrans ((hm.mono hsub).then_heap (Xu _) fun b o hb e=>?_) hm'') hS'';rw[hsb.2 b (fun h:b=S=>hb (by rw[h];exact Zv))];exact e
end
section
variable{prog:af}{w:ag}{A:Around}{E:OU}{s:ak}
theorem eL(a:aj){Q₁:OU}
  (h:Q₁ (.ref s.heap.objs.size) {s with heap:=s.heap.push {cls:=.type "set",dict:=none,data:=.set #[] 0 (.fresh 0 0 (!w.params.followText "set-order"))}}):
  codeAny (model prog w) A (.call (.builtin "set.__new__") ⟨[.type "set",a],[]⟩) (wants Q₁ E) s:=by
 refine Pc ?_;show wpAny _ A.in1 (do checkBuiltinCall "set.__new__" ⟨[.type "set",a],[]⟩;again (.builtin "set.__new__" ⟨[.type "set",a],[]⟩)) _ _ s;refine Qq (Vt (PySem.F.newCall_set_1 a) (Qz ⟨Rp PySem.F.plain_set_new _,Uz PySem.F.entry_set_new ?_⟩));rw[Uj PySem.F.plain_set_new _];unfold Builtin.«set.__new__» Builtin.Frozenset.newClass;have hsub:=sub_set_self;obtain⟨hp,g,d,tk,os⟩:=s;dsimp only
 wp_walk
 refine Vy (Qz ?_);dsimp only;simp only[newObj];refine Qq (wpAny_alloc (Qz ?_));exact Qz h
theorem eM{l:ah}{items:az}{val:Nat->Int}{Q:OU}(hh:A.handled=none)(hl:s.heap.IsTuple l items)
  (hval:∀(i:Nat) (v:aj),items[i]? =some v->∃t,v=.int (val i) t)(hn:items.size≤17)
  (h:∀h' tk,(∀b o,s.heap.get? b=some o->h'.get? b=some o)->s.toks≤tk->V7 prog w h' s.heap.objs.size (!w.params.followText "set-order") (firstMet val items.size)->Q (.ref s.heap.objs.size) {s with heap:=h',toks:=tk}):
  wpAny (model prog w) A (call (.type "set") [.ref l]) Q E s:=by
 obtain⟨c,tl,hmro⟩:=PySem.F.called_set.mro;have hmade:=PySem.F.called_set.made;have hsub:=PySem.F.called_set.sub;refine wpAny_call (Pc ?_);show wpAny _ _ (callAny (.type "set") _) _ _ _;refine Qz ⟨Code.quiet_builtin _ (by rfl'),Uz PySem.F.entry_type_call ?_⟩;rw[Around.under_plain (weight_type_call_type "set" [.ref l] []) rfl];have h1:=PySem.F.called_set.notType;have h2:=PySem.F.called_set.canCreate;have hct:=PySem.F.typeCall_set_1 (.ref l)
 repeat (any_goals (first|assumption|wp_step))
 generalize hled:(!w.params.followText "set-order")=led at h;refine Vx (eL (.ref l) (E:=E) (Q₁:=fun obj s₁=>obj=.ref s.heap.objs.size/\s₁={s with heap:=s.heap.push {cls:=.type "set",dict:=none,data:=.set #[] 0 (.fresh 0 0 led)}}) ⟨rfl,by rw[hled]⟩) fun r s₁ hr=>?_;cases r with
 |error e=>exact hr
 |ok fl=>
  cases fl with
  |ret obj=>
   obtain⟨rfl,rfl⟩:=hr;have hS:(s.heap.push {cls:=.type "set",dict:=none,data:=.set #[] 0 (.fresh 0 0 led)}).get? s.heap.objs.size=some {cls:=.type "set",dict:=none,data:=.set #[] 0 (.fresh 0 0 led)}:=Qw _ rfl;have hT:Shared.TypeIs {s with heap:=s.heap.push {cls:=.type "set",dict:=none,data:=.set #[] 0 (.fresh 0 0 led)}} (.ref s.heap.objs.size) "set":=⟨_,hS,rfl⟩;have hli:=PySem.F.called_set.init.lookup;have hbi:=PySem.F.called_set.init.bind (.ref s.heap.objs.size)
   repeat (any_goals (first|assumption|wp_step))
   refine Vx (Pn (R:=wants (fun r s₂=>r=.none/\∃h' tk,s₂={s with heap:=h',toks:=tk}/\(∀b o,s.heap.get? b=some o->h'.get? b=some o)/\s.toks≤tk/\V7 prog w h' s.heap.objs.size led (firstMet val items.size)) E) PySem.F.called_set.init.plain PySem.F.entry_set_init (check_set_init_1 hT ?_)) fun r₂ s₂ hr₂=>?_
   ·obtain⟨ol,hol,hcl,nl,hdl⟩:=id hl;obtain⟨ocls,odict,odata,oslots⟩:=ol;simp only at hcl hdl;subst hcl;subst hdl;have hol':(s.heap.push {cls:=.type "set",dict:=none,data:=.set #[] 0 (.fresh 0 0 led)}).get? l=some {cls:=.type "tuple",dict:=odict,data:=.seq items nl,slots:=oslots}:=Qx _ hol;have hsls:=PySem.F.sub_tuple_set;have hslf:=PySem.F.sub_tuple_frozenset;have hne:(Value.type "tuple"==Value.type "dict")=false:=by decide
    have hl1:(s.heap.push {cls:=.type "set",dict:=none,data:=.set #[] 0 (.fresh 0 0 led)}).IsTuple l items:=⟨_,hol',rfl,nl,rfl⟩;unfold Builtin.«set.__init__» noKeywords Builtin.Frozenset.updateFrom;generalize hPI:pyIter=PI
    wp_walk
    subst hPI;refine Xr hl1 ?_;refine Qq (wpAny_runValue ?_);have hss:(s.heap.push {cls:=.type "set",dict:=none,data:=.set #[] 0 (.fresh 0 0 led)}).objs.size=s.heap.objs.size+1:=Jj ..;have hlt:l<s.heap.objs.size:=Qu hol;have fr0:V7 prog w ((s.heap.push {cls:=.type "set",dict:=none,data:=.set #[] 0 (.fresh 0 0 led)}).push {cls:=.type "tuple_iterator",data:=.fields #[.ref l,.int 0 0]}) s.heap.objs.size led []:=
     ⟨_,#[],0,.fresh 0 0 led,[],[],Qx _ hS,⟨rfl,rfl,rfl⟩,rfl,⟨rfl,rfl,List.Pairwise.nil,(fun x hx=>nomatch hx),rfl,(fun x hx=>nomatch hx)⟩,.inl ⟨rfl,by simp⟩,rfl,rfl,List.Perm.nil,rfl,Rj⟩
    refine eK (A:=A.in1.in1) (Walks.tuple (prog:=prog) (w:=w) (A:=A.in1.in1.in1) (by simp[hh]) (s.heap.push {cls:=.type "set",dict:=none,data:=.set #[] 0 (.fresh 0 0 led)}).objs.size l (by rw[hss];exact Qd (Jz hlt)) items).toS s.heap.objs.size led (by
     rw[hss];intro z;rcases Qp.mp z with z|z
     ·exact Nat.succ_ne_self _ z.symm
     ·rw[Jg]at z;exact Qd hlt z.symm) val hval hn items.size 0 _ (by omega) (Yt _) ⟨⟨_,Qw _ rfl,rfl,rfl⟩,⟨_,Qx _ hol',rfl,nl,rfl⟩⟩ fr0 fun s' hm hS'=>?_
    show wpAny _ _ _ _ _ _;refine Qz ?_;show wpAny _ _ (ret Value.none) _ _ _;refine Qz ⟨rfl,s'.heap,s'.toks,?_,fun b o hb=>?_,hm.toks,hS'⟩
    ·obtain⟨a1,a2,a3,a4,a5⟩:=s';have e1:=hm.gens;have e2:=hm.drawn;have e3:=hm.os;simp only at e1 e2 e3;subst e1 e2 e3;rfl
    ·have hbl:=Qu hb;exact hm.heap b o (by
      rw[hss];intro z;rcases Qp.mp z with z|z
      ·exact Qd hbl z
      ·rw[Jg]at z;exact Qd (Jz hbl) z) (Qx _ (Qx _ hb))
   ·cases r₂ with
    |error e=>exact hr₂
    |ok fl₂=>
     cases fl₂ with
     |ret r=>
      obtain⟨rfl,h',tk,rfl,kp,htk,hS'⟩:=hr₂
      repeat (any_goals (first|assumption|wp_step))
      exact h _ _ kp htk hS'
     |_=>exact hr₂.elim
  |_=>exact hr.elim
end
namespace FS
theorem qB:Manifest.owners.lookup (String.ofList ['r','o','t','a','r','e','t','i','_','t','e','s'].reverse)=some Manifest.sig_set_iterator:=by kernel_rfl
theorem k7:Slot "set_iterator" "__next__" "set_iterator.__next__":=
 .of (owner:="set_iterator") (n:="__next__") (by rw[typeLookup_type,builtinLookup_eq_fast];kernel_rfl) (by rfl') (by rfl') (by rfl')
  (by first|exact .inl (by rfl')|exact .inr (by rfl')) (by rw[isSubtype_type];kernel_rfl)
theorem o3:entryFor table "set_iterator.__next__"=some Builtin.«set_iterator.__next__»:=entryFor_of_tree (by kernel_rfl)
theorem pI(a:aj):argsOk "set_iterator.__next__" ⟨[a],[]⟩:=by
 unfold argsOk;rw[signature?_of (id:="set_iterator.__next__") (n:=['_','_','t','x','e','n','_','_']) (o:=['r','o','t','a','r','e','t','i','_','t','e','s']) (by kernel_rfl) qB];kernel_rfl
theorem pJ:Slot "set_iterator" "__iter__" "set_iterator.__iter__":=
 .of (owner:="set_iterator") (n:="__iter__") (by rw[typeLookup_type,builtinLookup_eq_fast];kernel_rfl) (by rfl') (by rfl') (by rfl')
  (by first|exact .inl (by rfl')|exact .inr (by rfl')) (by rw[isSubtype_type];kernel_rfl)
theorem qP:entryFor table "set.__iter__"=some Builtin.«frozenset.__iter__»:=entryFor_alias (id':="frozenset.__iter__") (by kernel_rfl) rfl (by rfl') (by kernel_rfl)
end FS
theorem Ds{α:Type}:∀(l:List α) (i:Nat) (h:i<l.length),(l[i]::l.eraseIdx i).Perm l
 |a::l,0,_=>by simp
 |a::l,i+1,h=>by
  rw[List.getElem_cons_succ,Uy];exact(List.Perm.swap a _ _).trans (List.Perm.cons a (Ds l i (by simpa using h)))
theorem Ni{α:Type}(next:Nat->Nat):∀(f k:Nat) (left:List α) (out:Array α),left.length=f->(pickOrder.go next f k left out).toList.Perm (out.toList++left)
 |0,k,left,out,h=>by
  have:left=[]:=List.eq_nil_of_length_eq_zero h;subst this;unfold pickOrder.go;simp
 |f+1,k,left,out,h=>by
  have hlt:next k%left.length<left.length:=Pd _ (by omega);unfold pickOrder.go;rw[Qe hlt];dsimp only;refine(Ni next f (k+1) _ _ (by rw[List.length_eraseIdx,Qg hlt];omega)).trans ?_;rw[Rn,Ue];refine List.Perm.append_left _ ?_;exact Ds _ _ hlt
theorem eO{α:Type}(next:Nat->Nat)(xs:Array α):(pickOrder next xs).toList.Perm xs.toList:=by
 have:=Ni next xs.size 0 xs.toList #[] (by simp);simpa [pickOrder]using this
def Ca(h:Heap)(it S:ah)(slot i n ep:Nat):Prop:=∃o,h.get? it=some o/\o.cls=.type "set_iterator"/\o.data=.fields #[.int slot 0,.int i 0,.ref S,.int n 0,.int ep 0]
def AE(h:Heap)(S:ah)(es:Array (Int×aj))(ep:Nat)(t:aa):Prop:=∃o,h.get? S=some o/\o.cls=.type "set"/\o.data=.set es ep t
def P6(b:Bool)(t:aa)(i:Nat):Nat:=if b then 0 else if i=0 then 0 else t.place.getD (i-1) 0+1
theorem eP{t:aa}(hs:tD t.place){i:Nat}(hi:i≤t.place.size):SetTable.below t.place (P6 false t i)=i:=by
 obtain⟨b1,b2,b3⟩:=IP hs (P6 false t i);generalize hb:SetTable.below t.place (P6 false t i)=b at *;unfold P6 at b2 b3;simp only[Zq,Zo]at b2 b3
 by_cases h0:i=0
 ·subst h0;simp only[Yw]at b2 b3;rcases Nat.eq_zero_or_pos b with z|z
  ·exact z
  ·have:=b2 0 z;omega
 ·rw[Qb h0]at b2 b3;rcases Nat.lt_trichotomy b i with z|z|z
  ·have h1:=b3 b (Qy _) (by omega);have h2:=IL hs (a:=b) (b:=i-1) (by omega) (by omega);omega
  ·exact z
  ·have h1:=b2 i z;have h2:=hs (i-1) i (by omega) (by omega);omega
section
variable{prog:af}{w:ag}{A:Around}{E:OU}{s:ak}{it S:ah}{es:Array (Int×aj)}{i ep:Nat}{t:aa}{L:List (Nat×Int×aj)}
def R7(w:ag)(S:ah)(ep:Nat)(es:Array (Int×aj)):Array (Int×aj):=if w.params.followText "set-order" then pickOrder (w.params.setOrder S ep) es else es
theorem Nj:(R7 w S ep es).toList.Perm es.toList:=by
 unfold R7;split
 ·exact eO _ _
 ·exact List.Perm.refl _
theorem Dt:(R7 w S ep es).size=es.size:=by
 have:=(Nj (w:=w) (S:=S) (ep:=ep) (es:=es)).length_eq;simpa using this
theorem Ca.typeIs{slot n:Nat}(h:Ca s.heap it S slot i n ep):s.TypeIs (.ref it) "set_iterator":=by
 obtain⟨o,a,b,_⟩:=h;exact⟨o,a,b⟩
theorem eQ{Q:OU}(hS:AE s.heap S es ep t)(hf:t.fits es.size=true)(hp:t.plain=true)
  (q:Q (.ref s.heap.objs.size) {s with heap:=s.heap.push {cls:=.type "set_iterator",data:=.fields #[.int 0 0,.int 0 0,.ref S,.int es.size 0,.int ep 0]}}):wpAny (model prog w) A (pyIter (.ref S)) Q E s:=by
 obtain⟨o,h1,h2,h3⟩:=hS;have hT:s.TypeIs (.ref S) "set":=⟨o,h1,h2⟩;refine Uo hT PySem.F.slot_set_iter (Zz PySem.F.slot_set_iter hT FS.qP ?_ (PySem.F.args_set_iter_1 _));unfold Builtin.«frozenset.__iter__» Builtin.Frozenset.slot0 slotArgs;simp only[List.isEmpty_nil,Bool.not_true,Zq,↓reduceIte,bind_assoc,Uq,Rh];unfold Builtin.Frozenset.addrOf Builtin.Frozenset.sizeOf;refine Qq (Qz ?_)
 try dsimp only
 refine Qq (Qz ?_);refine Qq (Qq (Pe h1 h3 hf (Qz ?_)));unfold setDrawn setsByText;refine Qq (Qq (Vo h1 h3 hf ?_));dsimp only;refine Qq (Qq (Vy (Qz (Qz ?_))));have hd:(!w.params.followText "set-order"&&(!t.plain&&decide (es.size>1)))=false:=by rw[hp];simp
 show wpAny _ _ (if(!w.params.followText "set-order"&&(!t.plain&&decide (es.size>1)))=true then _ else _) _ _ _;rw[hd];simp only[Zq,Zo];refine Qq (Qz ?_);unfold setEpoch;refine Qq (Qq (Vo h1 h3 hf (Qz ?_)));refine Qq (Qi (Qz ⟨_,rfl,"set_iterator",_,⟨_,Qw _ rfl,rfl⟩,FS.k7.lookup,?_⟩));simpa [rawInt]using q
end
section
variable{prog:af}{w:ag}{A:Around}{E:OU}{s:ak}{it S:ah}{es:Array (Int×aj)}{i ep:Nat}{t:aa}{L:List (Nat×Int×aj)}
abbrev pE(w:ag):Bool:=w.params.followText "set-order"
theorem Nk{Q:Option (aj×Nat)->ak->Prop}(hS:AE s.heap S es ep t)(T:Tb t es L)(hL:L.length≤t.mask)(hp:t.plain=true)(hl:t.led=!pE w)(hi:i≤es.size)
  (q1:∀e,(R7 w S ep es)[i]? =some e->Q (some (e.2,P6 (pE w) t (i+1))) s)(q2:es.size≤i->Q none s):wpAny (model prog w) A (setNext S (P6 (pE w) t i) i ep) Q E s:=by
 obtain⟨o,h1,h2,h3⟩:=hS;have hf:=T.fits hL;unfold setNext setsByText;refine Qq (Vo h1 h3 hf ?_);dsimp only;refine Qq (Qq (Vy (Qz ?_)));show wpAny _ _ (if pE w=true then _ else _) _ _ _;cases hb:pE w with
 |true=>
  rw[Qg rfl];rw[Qb (by simp)];refine Qq ?_;unfold setWalk setsByText;refine Qq (Vo h1 h3 hf ?_);dsimp only;refine Qq (Qq (Vy (Qz ?_)));show wpAny _ _ (if pE w=true then _ else _) _ _ _;rw[hb,Qg rfl];refine Qq (Vy (Qz ?_));have ho:R7 w S ep es=pickOrder (w.params.setOrder S ep) es:=by
   unfold R7;rw[show w.params.followText "set-order"=true from hb,Qg rfl]
  rw[ho]at q1;rw[hb]at q1;refine Qz ?_;show Q (((pickOrder (w.params.setOrder S ep) es)[i]?).map fun e=>(e.2,P6 true t i)) s;cases he:(pickOrder (w.params.setOrder S ep) es)[i]? with
  |some e=>
   exact q1 e he
  |none=>
   refine q2 ?_;have hsz:(pickOrder (w.params.setOrder S ep) es).size=es.size:=by rw[←ho];exact Dt
   rcases Jx i es.size with z|z
   ·rw[Qt (by rw[hsz];exact z)]at he;cases he
   ·exact z
 |false=>
  rw[Qb Qa];rw[hb]at hl q1;have hd:(!t.plain&&decide (es.size>1))=false:=by rw[hp];rfl
  show wpAny _ _ (if(!t.plain&&decide (es.size>1))=true then _ else _) _ _ _;rw[hd,Qb Qa];refine Qq ?_;show wpAny _ _ (if(!t.led&&!es.isEmpty)=true then _ else pure ()) _ _ _;have hl2:(!t.led&&!es.isEmpty)=false:=by rw[hl];rfl
  rw[hl2,Qb Qa];refine Qz ?_;have hsz:t.place.size=es.size:=by rw[T.size,T.esz]
  have hbl:=eP T.ris (i:=i) (by rw[hsz];exact hi);have ho:R7 w S ep es=es:=by
   unfold R7;rw[show w.params.followText "set-order"=false from hb];rfl
  rw[ho]at q1;rw[hbl];refine Qz ?_;rcases Jx i es.size with z|z
  ·have e1:es[i]? =some es[i]:=Qt z;have e2:t.place[i]? =some (t.place.getD i 0):=IQ (by rw[hsz];exact z);rw[e1,e2];have:=q1 _ e1;unfold P6 at this;simpa using this
  ·have e1:es[i]? =none:=Yv z;rw[e1];exact q2 z
theorem eR{e:Int×aj}{Q:Option aj->ak->Prop}(hit:Ca s.heap it S (P6 (pE w) t i) i es.size ep)(hS:AE s.heap S es ep t)(T:Tb t es L)(hL:L.length≤t.mask)(hp:t.plain=true)(hl:t.led=!pE w)(hx:(R7 w S ep es)[i]? =some e)
  (q:∀h',Ca h' it S (P6 (pE w) t (i+1)) (i+1) es.size ep->Heap.SameBut it s.heap h'->Q (some e.2) {s with heap:=h'}):wpAny (model prog w) A (pyNext (.ref it)) Q E s:=by
 obtain⟨o,i1,i2,i3⟩:=id hit;obtain⟨os,d1,d2,d3⟩:=id hS;have hlt:i<es.size:=by
  rcases Jx i (R7 w S ep es).size with h|h
  ·rw[Dt]at h;exact h
  ·rw[Yv h]at hx;cases hx
 unfold pyNext;refine Qq (Jh (Zk (name:=Str.ofString "__next__") hit.typeIs FS.k7 (Zz FS.k7 hit.typeIs FS.o3 ?_ (FS.pI _))));unfold Builtin.«set_iterator.__next__»;refine Qq (Qz ?_);dsimp only;refine Qq (Ub i1 i3 ?_);dsimp only;refine Qq (Pe d1 d3 (T.fits hL) ?_);rw[Qb (by simp)];simp only[Yj];refine Qq (Nk hS T hL hp hl (Zy hlt) (fun e' he'=>?_) fun z=>absurd hlt (Pm.mpr z));rw[hx]at he';cases he';dsimp only;refine Qq (Jn i1 i3 (by simp) ?_);have g1:=Jp (Obj.mapFields (·.setIfInBounds 0 (rawInt ((P6 (pE w) t (i+1):Nat):Int)))) i1 (Ur (Ye i3 _));have f1:((o.mapFields (·.setIfInBounds 0 (rawInt ((P6 (pE w) t (i+1):Nat):Int))))).data=.fields (#[.int (P6 (pE w) t i) 0,.int i 0,.ref S,.int es.size 0,.int ep 0].setIfInBounds 0 (rawInt ((P6 (pE w) t (i+1):Nat):Int))):=Ye i3 _;refine Qq (Jn g1 f1 (by simp) ?_);refine Qz ⟨_,rfl,Qz (q _ ?_ ((Zc ..).trans (Zc ..)))⟩;refine⟨_,Jp _ g1 (Ur (Ye f1 _)),(Va ..).trans ((Va ..).trans i2),?_⟩;rw[Ye f1];simp[rawInt]
theorem eT{Q:Option aj->ak->Prop}(hh:A.handled=none)(hit:Ca s.heap it S (P6 (pE w) t i) i es.size ep)(hS:AE s.heap S es ep t)(T:Tb t es L)(hL:L.length≤t.mask)(hp:t.plain=true)(hl:t.led=!pE w)(hge:i=es.size)
  (q:∀h',Heap.ExtBut it s.heap h'->Q none {s with heap:=h'}):wpAny (model prog w) A (pyNext (.ref it)) Q E s:=by
 obtain⟨o,i1,i2,i3⟩:=id hit;obtain⟨os,d1,d2,d3⟩:=id hS;unfold pyNext;refine Qq (Jh (Zk (name:=Str.ofString "__next__") hit.typeIs FS.k7 (Zz FS.k7 hit.typeIs FS.o3 ?_ (FS.pI _))));unfold Builtin.«set_iterator.__next__»;refine Qq (Qz ?_);dsimp only;refine Qq (Ub i1 i3 ?_);dsimp only;refine Qq (Pe d1 d3 (T.fits hL) ?_);rw[Qb (by simp)];simp only[Yj];refine Qq (Nk hS T hL hp hl (Vv hge) (fun e' he'=>?_) fun _=>?_)
 ·rw[Yv (by rw[Dt];exact Vv hge.symm)]at he';cases he'
 dsimp only;refine Qq (Jn i1 i3 (by simp) ?_);refine Qq ?_;simp only[newExc,newTuple];refine Qq (Qi ?_ (by size_fits));refine Qq (m:=firstArgMember _ _) (Vt (a:=Value.none) (by first|rfl|(simp only[firstArgMember];rfl)) ?_);refine Qi ?_ (by size_fits);simp only[raiseNew];refine Qq (Ta ?_);rw[show A.in1.handled=none from hh];refine Qq (Qz (Rk ?_));refine Qq (Vw (T:="StopIteration") (b:=true) ⟨_,Qw _ rfl,rfl⟩ Tz ?_);exact Qz (q _ (((Zc ..).extBut.push _).push _))
end
namespace FS
theorem sG:entryFor table "set_iterator.__iter__"=some Builtin.«dict_keyiterator.__iter__»:=entryFor_alias (id':="dict_keyiterator.__iter__") (by kernel_rfl) rfl (by rfl') (by kernel_rfl)
theorem tH(a:aj):argsOk "set_iterator.__iter__" ⟨[a],[]⟩:=by
 unfold argsOk;rw[signature?_of (id:="set_iterator.__iter__") (n:=['_','_','r','e','t','i','_','_']) (o:=['r','o','t','a','r','e','t','i','_','t','e','s']) (by kernel_rfl) qB];kernel_rfl
end FS
section
variable{prog:af}{w:ag}{A:Around}{E:OU}{s:ak}{it S:ah}{es:Array (Int×aj)}{i ep:Nat}{t:aa}{L:List (Nat×Int×aj)}
theorem AE.at'{h h':Heap}(x:AE h S es ep t)(k:∀o,h.get? S=some o->h'.get? S=some o):AE h' S es ep t:=by
 obtain⟨o,a,r⟩:=x;exact⟨o,k o a,r⟩
theorem eU(hh:A.handled=none)(I:ah)(hne:S≠I)(T:Tb t es L)(hL:L.length≤t.mask)(hp:t.plain=true)(hl:t.led=!pE w):
  Walks prog w A I [I,S] [I] es.size (fun i v=>∃e,(R7 w S ep es)[i]? =some e/\v=e.2) (fun i h=>Ca h I S (P6 (pE w) t i) i es.size ep/\AE h S es ep t)where
 sub:=fun b hb=>by simp at hb;simp[hb]
 frame:=fun _ _ _ st hk=>⟨let ⟨o,a,r⟩:=st.1;⟨o,hk I (by simp) o a,r⟩,st.2.at' fun o e=>hk S (by simp) o e⟩
 item:=fun i s Q E hi st hQ=>by
  have hi':i<(R7 w S ep es).size:=by rw[Dt];exact hi
  refine eR st.1 st.2 T hL hp hl (Qt hi') fun h' hit' hs'=>?_;exact hQ _ h' s.toks ⟨_,Qt hi',rfl⟩ ⟨hit',st.2.at' fun o e=>hs'.extBut S o hne e⟩ fun b o hb e=>hs'.extBut b o (fun h=>hb (by simp[h])) e
 done:=fun s Q E st hQ=>eT hh st.1 st.2 T hL hp hl rfl fun h' he'=>hQ h' s.toks fun b o hb e=>he' b o (fun h=>hb (by simp[h])) e
 self:=fun _ _ _ _ st hQ=>by
  refine Uo st.1.typeIs FS.pJ (Zz FS.pJ st.1.typeIs FS.sG ?_ (FS.tH _));show wpAny _ _ (ret (.ref I)) _ _ _;exact Qz ⟨_,rfl,"set_iterator",_,st.1.typeIs,FS.k7.lookup,hQ⟩
theorem eV{Q:Bool->ak->Prop}(hT:s.TypeIs (.ref S) "set")(h:Q false s):wpAny (model prog w) A (Builtin.List.listLengthHint (.ref S)) Q E s:=by
 unfold Builtin.List.listLengthHint;refine Qq (wpAny_specialOf hT PySem.F.slot_set_len.lookup ?_);generalize hid:("set.__len__":String)=id0
 wp_delta
 rw[show splitId id0=some ("set","__len__")from by subst hid;rfl'];subst hid;refine Qq (Vw (T:="set") (b:=true) hT (by rw[isSubtype_type];kernel_rfl) ?_);refine wpAny_ite_split (fun hab=>absurd hab (by decide)) (fun _=>?_);refine wpAny_ite_split (fun _=>?_) (fun hab=>absurd (by rfl') hab);refine Qq (Xd hT ?_);exact Qz h
theorem eW(T:Tb t es L)(hL:L.length≤t.mask)(hp:t.plain=true)(hl:t.led=!pE w):PySem.W.KdlSrc prog w "set" S S es.size (fun i v=>∃e,(R7 w S ep es)[i]? =some e/\v=e.2) (fun h=>AE h S es ep t)where
 type:=fun _ ⟨o,a,b,_⟩=>⟨o,a,b⟩
 there:=fun _ ⟨o,a,_⟩=>⟨Qu a,Qu a⟩
 keep:=fun _ _ hm hk=>hm.at' fun o e=>hk S (.inl rfl) o e
 notList:=by decide
 notTuple:=by decide
 hint:=fun _ _ _ _ ⟨o,a,b,_⟩ hq=>eV ⟨o,a,b⟩ hq
 iter:=fun _ s hh hm=>⟨{cls:=.type "set_iterator",data:=.fields #[.int 0 0,.int 0 0,.ref S,.int es.size 0,.int ep 0]},_,(fun _ _ hq=>eQ hm (T.fits hL) hp hq),eU hh _ (by obtain⟨o,a,_⟩:=hm;exact Qd (Qu a)) T hL hp hl,⟨⟨_,Qw _ rfl,rfl,by unfold P6;simp⟩,hm.at' fun o e=>Qx _ e⟩⟩
theorem eX{α β:Type}{f:α->β}:∀{l:List β}{ps:List α},l.Perm (ps.map f)->∃ps':List α,l=ps'.map f/\ps'.Perm ps:=by
 intro l ps h;generalize hm:ps.map f=m at h
 induction h generalizing ps with
 |nil=>exact⟨[],rfl,by rw[List.map_eq_nil_iff.mp hm]⟩
 |cons x _ ih=>
  cases ps with
  |nil=>cases hm
  |cons p ps=>
   rw[Qm]at hm;injection hm with e1 e2
   obtain⟨ps',e3,e4⟩:=ih e2;exact⟨p::ps',by rw[e3,Qm,e1],e4.cons p⟩
 |swap x y l=>
  match ps,hm with
  |p::q::ps,hm=>
   simp only[Qm,Sq]at hm;obtain⟨e1,e2,e3⟩:=hm;exact⟨q::p::ps,by rw[Qm,Qm,e1,e2,e3],List.Perm.swap _ _ _⟩
 |trans _ _ ih1 ih2=>
  obtain⟨ps2,e1,e2⟩:=ih2 hm;obtain⟨ps3,e3,e4⟩:=ih1 e1.symm;exact⟨ps3,e3,e4.trans e2⟩
theorem eY{ns:aq}{Q:OU}(hh:A.handled=none)(hS:V7 prog w s.heap S (!pE w) ns)(h64:ns.length<64)
  (h:∀(D:ah) (h':Heap) (tk c:Nat) (out:az) (ns':aq),(∀b o,s.heap.get? b=some o->h'.get? b=some o)->(∀b o,s.heap.get? b=some o->b≠D)->h'.get? D=some (seqObj "list" out c)->IntsAre out.toList ns'->ns'.Perm ns->ns'.Pairwise (· ≤ ·)->Q (.ref D) {s with heap:=h',toks:=tk}):
  wpAny (model prog w) A (call (.builtin "sorted") [.ref S]) Q E s:=by
 obtain⟨o,es,ep,t,L,ps,ho,hex,hd,T,hM,hled,hpl,hP,hps,hnd⟩:=hS;obtain⟨hc,hL,_⟩:=hM.cov;have hAt:AE s.heap S es ep t:=⟨o,ho,hex.1,hd⟩;have hsz:es.size=ns.length:=by
  have:=hP.length_eq;rw[Qv,Qv]at this;rw[T.esz,this,←hps,Qv]
 refine Xn kind_sorted plain_sorted entry_sorted (args_sorted1 _) ?_;unfold Builtin.«sorted»;refine Qq (m:=checkCount "sorted" 1 1 _) (Qz ?_);refine Qq (PySem.W.kdu_collect (A:=A.in1) (eW T hL hpl hled) hh hAt (Dn (by omega)) fun h1 tk acc hk hacc=>?_);have hlen:acc.toList.length=es.size:=by rw[Yq];exact hacc.1
 have hvals:acc.toList=(R7 w S ep es).toList.map (·.2):=by
  apply Rm;intro j;rw[Zw,Jt,Jt];rcases Jx j es.size with z|z
  ·have hz:j<acc.size:=by rw[hacc.1];exact z
   obtain⟨e,e1,e2⟩:=hacc.2 j acc[j] (Qt hz);rw[e1,Qt hz,e2];rfl
  ·rw[Yv (by rw[hacc.1];exact z),Yv (by rw[Dt];exact z)];rfl
 obtain⟨ns1,hI,hp1⟩:∃ns1,IntsAre acc.toList ns1/\ns1.Perm ns:=by
  have hperm:(R7 w S ep es).toList.Perm (ps.map (uU prog w)):=Nj.trans (by rw[T.en];exact hP);obtain⟨ps1,hq1,hq2⟩:=eX hperm;refine⟨ps1.map (·.1),?_,?_⟩
  ·rw[hvals,hq1,Ys];clear hq1 hq2
   induction ps1 with
   |nil=>exact .nil
   |cons p l ih=>exact .cons _ _ ih
  ·rw[←hps];exact hq2.map _
 refine Qq (To ?_ (by rw[hlen];exact Dn (by omega)));have hoL:(h1.push (seqObj "list" acc.toList.toArray 0)).get? h1.objs.size=some (seqObj "list" acc.toList.toArray 0):=Qw _ rfl;refine Qq (Ze (Zz slot_list_sort ⟨_,hoL,rfl⟩ entry_list_sort (list_sort_tree hoL hI (by rw[hlen,hsz];exact h64) fun out ns' a1 a2 a3=>⟨_,rfl,?_⟩) (args_list_sort _)));obtain⟨c,hc'⟩:=sortedHeap_at (out:=out) hoL;refine Qz ⟨_,rfl,h h1.objs.size _ tk c out ns' (fun b o' hb=>?_) (fun b o' hb z=>?_) hc' a1 (a2.trans hp1) a3⟩
 ·have hb1:=hk b o' hb;have hlt:=Qu hb1;rw[sortedHeap_old (Qd hlt) (by rw[size_push'];exact Jz hlt)];exact Qx _ hb1
 ·have:=Qu (hk b o' hb);rw[z]at this;exact Jf _ this
end
theorem Nl{l m:aq}(hp:l.Perm m)(hs:l.Pairwise (· ≤ ·)):l=K9 m:=
 (hp.trans (Ac m).symm).eq_of_pairwise (fun a b _ _ h1 h2=>Int.le_antisymm h1 h2) hs (DZ m)
def R8(ns:aq):aq:=firstMet (fun i=>ns.getD i 0) ns.length
theorem Nm:∀{us:ao}{ns:aq},IntsAre us ns->C7 (ns.map V.int) us
 |_,_,.nil=>.nil
 |_,_,.cons n t h=>.cons ⟨t,rfl⟩ (Nm h)
section
variable{X:Cx}{B:OE}
def Ft(X:Cx)(p:ah)(ns:aq):HO:=.ext fun h=>V7 X.prog X.w h p (!pE X.w) ns
def eZ(X:Cx):ba->Hp->VK->Prop:=fun xs H Q=>∃(a:ah) (G:Hp) (ns:aq),xs=[.ref a]/\Le G H/\qT X.K G a (ns.map V.int)/\ns.length≤17/\∀p,H p=none->Q (.ref p) (upd H p (Ft X p (R8 ns)))
theorem Nn:∀{ns:aq}{us:ao}{i:Nat}{v:aj},C7 (ns.map V.int) us->us[i]? =some v->∃t,v=.int (ns.getD i 0) t
 |[],_,i,v,h,e=>by cases h;simp at e
 |n::ns,_,i,v,h,e=>by
  rw[Qm]at h;cases h with
  |cons r h=>
   cases i with
   |zero=>
    simp only[List.getElem?_cons_zero,Yx]at e;subst e;obtain⟨t,rfl⟩:=r;exact⟨t,rfl⟩
   |succ i=>exact Nn (i:=i) h (by simpa using e)
theorem fA(hc:X.calm=true):J3 X (.type "set") (eZ X):=by
 intro pins s σ H xs us Q I rv h;obtain⟨a,G,ns,rfl,le,hq,hn,k⟩:=h;obtain⟨u,rfl,rx⟩:=Q5 rv;cases rx;have hh:X.A.handled=none:=I.ok.hd hc;obtain⟨its,rvs,p1,_⟩:=I.tuple (le.sqT hq);have hlen:its.length=ns.length:=by have:=rvs.length;rw[Qv]at this;omega
 refine eM (items:=its.toArray) (val:=fun i=>ns.getD i 0) hh (show s.heap.IsTuple a its.toArray from p1) (fun i v hv=>Nn rvs (by simpa using hv)) (by simp;omega) fun h' tk kp htk hS=>?_;have hsz:its.toArray.size=ns.length:=by simpa using hlen
 rw[hsz]at hS;obtain⟨o,es,ep,t,L,ps,ho,r⟩:=id hS;exact⟨.ref s.heap.objs.size,_,I.laid (a:=s.heap.objs.size) (o:=Ft X s.heap.objs.size (R8 ns)) (t':=tk) kp (Qy _) ⟨hS,⟨_,ho⟩,fun h1 h2 z k=>by obtain⟨o,es,ep,t,L,ps,e,r⟩:=z;exact⟨o,es,ep,t,L,ps,k o e,r⟩⟩,rfl,k _ (I.hok.fresh (Qy _))⟩
def fB(X:Cx):ba->Hp->VK->Prop:=fun xs H Q=>∃(p:ah) (ns:aq),xs=[.ref p]/\ns.length≤17/\H p=some (Ft X p ns)/\∀l,H l=none->Q (.ref l) (upd H l (.lst ((K9 ns).map V.int)))
theorem fC(hc:X.calm=true):J3 X (.builtin "sorted") (fB X):=by
 intro pins s σ H xs us Q I r h;obtain⟨p,ns,rfl,hn,hp,q⟩:=h;obtain⟨u,rfl,rx⟩:=Q5 r;cases rx;have hh:X.A.handled=none:=I.ok.hd hc;have hS:V7 X.prog X.w s.heap p (!pE X.w) ns:=(show F3 X.prog X.w H s.heap p (.ext _)from I.hok p _ hp).1;refine eY hh hS (by omega) fun D h' tk c out ns' kp hD ho hI hpm hsr=>?_;obtain⟨m,F⟩:=I.fr;have hm:s.heap.Ns X.env.locals m:=F.ns;have hm':h'.Ns X.env.locals m:=by
  obtain⟨o1,es1,ep1,h1,rest⟩:=hm;exact⟨o1,es1,ep1,kp _ _ h1,rest⟩
 have e:=Nl hpm hsr;subst e;have hl:((K9 ns).map V.int).length≤sizeLine:=by
  rw[Qv,(Ac ns).length_eq];exact Dn (by omega)
 exact⟨.ref D,_,Lx (t':=tk) I hm hm' (fun b o _ e=>kp b o e) hD (its:=out.toList) (Nm hI) hl (by rw[Array.toArray_toList];exact ho),rfl,q D (Hh I hD)⟩
def Fu(ms:Mo bb):Mo bb:=fun env=>(ms env).bind fun p=>match p.1 with
 |[.tup ds]=>(i9 ds).bind fun ns=>if ns.length≤17 then some ((K9 (R8 ns)).map D.int,p.2)else none
 |_=>none
theorem fD(ns:aq):(R8 ns).length≤ns.length:=firstMet_length_le _ _
theorem Np{e:Expr}{ms:Mo bb}{p p1 pos pos1:Pos}(hc:X.calm=true)(hg:Gl X "sorted")(hm:X.mg "sorted"=none)(hg1:Gl X "set")(hm1:X.mg "set"=none)(ha:pN X B [e] ms)
  (he:starEach [e] X.env=(false,eval e X.env)::starEach [] X.env:=by rfl)(hpl:(backTo pos1 (starEach [] X.env)).any (·.1)=false:=by rfl)
  (he1:starEach [.Call (.Name "set" p1) [e] [] pos1] X.env=[(false,eval (.Call (.Name "set" p1) [e] [] pos1) X.env)]:=by rfl):
  EL X B (.Call (.Name "sorted" p) [.Call (.Name "set" p1) [e] [] pos1] [] pos) (Fu ms):=by
 have hv:=BR (pos:=pos1) (p:=p1) (fA hc) hg1 hm1 (show bootBuiltins "set"=some (.type "set") by rfl') ha (by decide) (by decide) he hpl;refine c9 (AO (fC hc) hg hm ME (M3 hv Q6 he1)) ?_;rintro σ H Q ⟨G,env,d,env',rl,e,k⟩;obtain⟨⟨ds,a8⟩,e1,e2⟩:=B9 e;dsimp only at e2;split at e2
 case h_2=>cases e2
 rename_i ds';obtain⟨ns,e3,e4⟩:=B9 e2;split at e4
 case isFalse=>cases e4
 rename_i hn;cases e4;refine⟨G,env,_,_,rl,e1,fun vs G1 H1 ev r1=>?_⟩;obtain⟨x,rfl,q⟩:=U0 r1;simp only[b0]at q;obtain⟨a,ys,rfl,h1,h2⟩:=q;have hy:=AZ h2 e3;subst hy;refine⟨a,G1,ns,rfl,ev.rel.sub,h1,hn,fun p hp=>?_⟩;refine⟨p,R8 ns,rfl,Qn (fD ns) hn,D7,fun l hl=>?_⟩;have hlp:l≠p:=fun z=>by rw[z,D7]at hl;cases hl
 have j3:=ev.trans (ev.rel.allocM (o:=Ft X p (R8 ns)) hp);exact DM j3 hl (DW _) k
end
end L2.Mir
namespace L2.Mir
open PySem PySem.Spec PyProof.Rows PySem.W
variable{B:OE}{N base bc c hi hint i ia ib j k k2 key l lo m mg most n na nb q sa sb w x y z:Nat}{X:Cx}{arr p:Array Nat}{at_:Nat->Nat}{left:Bool}{s:ak}{vs:ao}
structure PS where
 a:Array Nat
 pd:Array (Nat×Nat×Nat)
 mg:Nat
variable{S0 S1:PS}{bey:Nat->PS->Option (Bool×PS)}
def Ig:Bool->Keyed->Array Keyed->Nat->Nat->Nat->StateT SortSt Sem (Option Nat):=sortPriv%PySem.Builtin.gallop
def mgX:Nat->StateT SortSt Sem Unit:=sortPriv%PySem.Builtin.setMinGallop
def loX:Array Keyed->Array Keyed->StateT SortSt Sem (Array Keyed):=sortPriv%PySem.Builtin.mergeLo
def hiX:Array Keyed->Array Keyed->StateT SortSt Sem (Array Keyed):=sortPriv%PySem.Builtin.mergeHi
structure Lt where
 N:Nat
 lt:Nat->Nat->Bool
structure Sx where
 prog:af
 w:ag
 A:Around
 E:OU
 s:ak
 κ:SortKind
 it:Nat->Keyed
 L:Lt
 ok:∀i j (C:Bool->ak->Prop),i<L.N->j<L.N->C (L.lt i j) s->wpAny (model prog w) A (keyLt' κ (it i).1 (it j).1) C (fun _ _=>False) s
variable{Y:Sx}{α β γ δ:Type}
abbrev Sx.st(Y:Sx)(S:PS):SortSt:=SortSt.mk' Y.κ (S.a.map Y.it) S.pd S.mg none
def At(Y:Sx)(enc:β->α)(m:StateT SortSt Sem α)(S:PS)(o:Option (β×PS)):Prop:=
 ∀r S',o=some (r,S')->∀Q:α->SortSt->ak->Prop,Q (enc r) (Y.st S') Y.s->kasC (model Y.prog Y.w) Y.A Y.E m Q (Y.st S) Y.s
theorem BK{enc:β->α}{m:StateT SortSt Sem α}{S:PS}:At Y enc m S none:=fun _ _ h=>nomatch h
theorem C9{enc:β->α}{v:α}{b:β}{S:PS}(h:v=enc b):At Y enc (pure v) S (some (b,S)):=by
 intro r S' e Q q;cases e;rw[h];exact kasC_pure q
theorem D0{e1:β->α}{e2:δ->γ}{m:StateT SortSt Sem α}{k:α->StateT SortSt Sem γ}{S:PS}{o:Option (β×PS)}{g:β×PS->Option (δ×PS)}(h:At Y e1 m S o)(hk:∀b S',At Y e2 (k (e1 b)) S' (g (b,S'))):
  At Y e2 (m>>=k) S (o.bind g):=by
 intro r S' e Q q;obtain⟨⟨b,S1⟩,h1,h2⟩:=B9 e;exact Vd (h b S1 h1 _ (hk b S1 r S' h2 Q q))
theorem E4{enc:β->α}{c:Prop}[Decidable c]{m n:StateT SortSt Sem α}{S:PS}{o p:Option (β×PS)}(h1:c->At Y enc m S o)(h2:¬ c->At Y enc n S p):At Y enc (if c then m else n) S (if c then o else p):=by
 by_cases h:c
 ·rw[Qg h,Qg h];exact h1 h
 ·rw[Qb h,Qb h];exact h2 h
theorem Nq{a:Array Nat}{S:PS}:At Y Y.it (elem' (a.map Y.it) i) S (a[i]?.map fun x=>(x,S)):=by
 intro r S' e Q q;obtain⟨x,h1,h2⟩:=D9 e;cases h2;rw[elem'_eq,Ry,h1];exact kasC_pure q
theorem Du{S:PS}:At Y some (lt' (Y.it i) (Y.it j)) S (if i<Y.L.N/\j<Y.L.N then some (Y.L.lt i j,S)else none):=by
 intro r S' e Q q;split at e
 ·rename_i h;cases e;rw[lt'_eq];refine Vd (kasC_get ?_);refine Vd (kasC_lift (Jh (Zj (Y.ok i j (fun b s'=>b=Y.L.lt i j/\s'=Y.s) h.1 h.2 ⟨rfl,rfl⟩) (fun c s' hc=>?_) fun _ _ hF=>hF.elim)));obtain⟨rfl,rfl⟩:=hc;exact kasC_pure q
 ·cases e
def tV(Y:Lt)(i j:Nat)(S:PS):Option (Bool×PS):=if i<Y.N/\j<Y.N then some (Y.lt i j,S)else none
def BL(Y:Lt)(i j:Nat)(S:PS):Option (Bool×PS):=S.a[i]?.bind fun x=>S.a[j]?.bind fun y=>tV Y x y S
theorem Dv{S:PS}:At Y some (ltAt' i j) S (BL Y.L i j S):=by
 intro r S' e Q q;obtain⟨x,h1,e⟩:=B9 e;obtain⟨y,h2,e⟩:=B9 e;rw[ltAt'_eq];refine Vd (kasC_get ?_);show kasC _ _ _ (do let x←elem' (S.a.map Y.it) i;let y←elem' (S.a.map Y.it) j;lt' x y) Q _ _;rw[elem'_eq,elem'_eq,Ry,Ry,h1,h2];exact Vd (kasC_pure (Vd (kasC_pure (Du r S' e Q q))))
theorem Bk{enc:β->α}{x:String}{k:Unit->StateT SortSt Sem α}{S:PS}{o:Option (β×PS)}(h:At Y enc (k ()) S o):At Y enc ((liftM (rule x):StateT SortSt Sem Unit)>>=k) S o:=by
 intro r S' e Q q;exact Vd (kasC_lift (Xv (h r S' e Q q)))
theorem Y8{enc:β->α}{k:SortSt->StateT SortSt Sem α}{S:PS}{o:Option (β×PS)}(h:At Y enc (k (Y.st S)) S o):At Y enc (get>>=k) S o:=by
 intro r S' e Q q;exact Vd (kasC_get (h r S' e Q q))
theorem BM{enc:β->α}{f:SortSt->SortSt}{k:PUnit->StateT SortSt Sem α}{S:PS}{o:Option (β×PS)}(hf:f (Y.st S)=Y.st S1)(h:At Y enc (k ⟨⟩) S1 o):At Y enc (modify f>>=k) S o:=by
 intro r S' e Q q;refine Vd (kasC_modify ?_);rw[hf];exact h r S' e Q q
def O2(g:β->PS->Option (ForInStep β×PS)):Nat->β->PS->Option (β×PS)
 |0,b,S=>some (b,S)
 |n+1,b,S=>(g b S).bind fun p=>match p.1 with
  |.done b'=>some (b',p.2)
  |.yield b'=>O2 g n b' p.2
def J0(enc:β->α):ForInStep β->ForInStep α
 |.done b=>.done (enc b)
 |.yield b=>.yield (enc b)
theorem Cb{enc:β->α}{f:Nat->α->StateT SortSt Sem (ForInStep α)}{g:β->PS->Option (ForInStep β×PS)}(h:∀x b S,At Y (J0 enc) (f x (enc b)) S (g b S)){a:Nat}{b:β}{S:PS}:
  At Y enc (forIn [a:c] (enc b) f) S (O2 g (c-a) b S):=by
 have go:∀(l:List Nat) (b:β) (S:PS),At Y enc (forIn l (enc b) f) S (O2 g l.length b S):=by
  intro l
  induction l with
  |nil=>
   intro b S r S' e Q q;cases e;exact kasC_nil q
  |cons x l ih=>
   intro b S r S' e Q q;obtain⟨⟨st,S1⟩,h1,h2⟩:=B9 e;refine kasC_cons (h x b S st S1 h1 _ ?_);cases st with
   |done b'=>
    cases h2;exact q
   |yield b'=>exact ih b' S1 r S' h2 Q q
 intro r S' e Q q;refine kasC_range (go _ b S r S' ?_ Q q);rw[List.length_range'];exact e
abbrev Mz:=StateT SortSt Sem
variable{bx:Nat->Mz (Option Bool)}
variable{Y:Sx}{α β γ δ:Type}
def bX(left:Bool)(key:Keyed)(arr:Array Keyed)(base i:Nat):Mz (Option Bool):=do
 let x←elem' arr (base+i)
 if left=true then lt' x key else do
  let r←lt' key x
  pure (r.map fun b=>!b)
def Cc(bey:Nat->Mz (Option Bool))(n lo hi:Nat):Mz (Option Nat):=do
 let t←forIn [0:n] ((none,lo,hi):Option (Option Nat)×Nat×Nat) fun _ t=>if t.2.1 ≥ t.2.2 then pure (.done (none,t.2.1,t.2.2))else do
  let y←bey (t.2.1+(t.2.2-t.2.1)/2)
  match y with
  |some b=>if b=true then pure (.yield (none,t.2.1+(t.2.2-t.2.1)/2+1,t.2.2))else pure (.yield (none,t.2.1,t.2.1+(t.2.2-t.2.1)/2))
  |_=>pure (.done (some none,t.2.1,t.2.2))
 match t.1 with
 |some r=>pure r
 |none=>pure (some t.2.2)
def Cd(bey:Nat->Mz (Option Bool))(at_:Nat->Nat)(stp:Bool->Bool)(n most:Nat)(k:Nat->Nat->Mz (Option Nat)):Mz (Option Nat):=do
 let t←forIn [0:n] ((none,0,1):Option (Option Nat)×Nat×Nat) fun _ t=>if t.2.2 ≥ most then pure (.done (none,t.2.1,t.2.2))else do
  let y←bey (at_ t.2.2)
  match y with
  |some b=>if stp b=true then pure (.done (none,t.2.1,t.2.2))else pure (.yield (none,t.2.2,2 * t.2.2+1))
  |_=>pure (.done (some none,t.2.1,t.2.2))
 match t.1 with
 |some r=>pure r
 |none=>k t.2.1 t.2.2
theorem fE(left:Bool)(key:Keyed)(arr:Array Keyed)(base n hint:Nat):Ig left key arr base n hint=(do
  let y←bX left key arr base hint
  match y with
  |some b=>if b=true then Cd (bX left key arr base) (fun o=>hint+o) (fun b=>!b) n (n-hint) (fun l o=>Cc (bX left key arr base) n (hint+l+1) (hint+min o (n-hint)))else Cd (bX left key arr base) (fun o=>hint-o) (fun b=>b) n (hint+1) (fun l o=>Cc (bX left key arr base) n (hint+1-min o (hint+1)) (hint-l))
  |_=>pure none):=by
 refine congr (Yz bind ?_) (funext fun y=>?_)
 ·rfl
 ·cases y with
  |none=>rfl
  |some b=>
   show(if b=true then _ else _)=(if b=true then _ else _)
   congr 1
   ·unfold Cd;refine congr (Yz bind ?_) (funext fun y=>?_)
    ·congr 1
    ·obtain⟨o,l,h⟩:=y;cases o with
     |some o=>rfl
     |none=>
      unfold Cc;refine congr (Yz bind ?_) (funext fun y=>?_)
      ·congr 1
      ·obtain⟨o,_,_⟩:=y;cases o<;>rfl
   ·unfold Cd;refine congr (Yz bind ?_) (funext fun y=>?_)
    ·congr 1
    ·obtain⟨o,l,h⟩:=y;cases o with
     |some o=>rfl
     |none=>
      unfold Cc;refine congr (Yz bind ?_) (funext fun y=>?_)
      ·congr 1
      ·obtain⟨o,_,_⟩:=y;cases o<;>rfl
def bS(Y:Lt)(left:Bool)(key:Nat)(arr:Array Nat)(base i:Nat)(S:PS):Option (Bool×PS):=(arr[base+i]?.map fun x=>(x,S)).bind fun p=>if left=true then tV Y p.1 key p.2 else(tV Y key p.1 p.2).bind fun q=>some (!q.1,q.2)
theorem Dw{S:PS}:At Y some (bX left (Y.it key) (arr.map Y.it) base i) S (bS Y.L left key arr base i S):=by
 unfold bX bS;refine D0 Nq fun x S'=>?_;exact E4 (fun _=>Du) fun _=>D0 (e1:=some) Du fun b S2=>C9 rfl
def Ce(bey:Nat->PS->Option (Bool×PS))(n lo hi:Nat)(S:PS):Option (Nat×PS):=
 (O2 (fun(b:Nat×Nat) S=>if b.1 ≥ b.2 then some (.done b,S)else(bey (b.1+(b.2-b.1)/2) S).bind fun p=>if p.1=true then some (.yield (b.1+(b.2-b.1)/2+1,b.2),p.2)else some (.yield (b.1,b.1+(b.2-b.1)/2),p.2)) (n-0) (lo,hi) S).bind fun p=>some (p.1.2,p.2)
abbrev e2(b:Nat×Nat):Option (Option Nat)×Nat×Nat:=(none,b.1,b.2)
theorem Nr{bs:Nat->PS->Option (Bool×PS)}(hb:∀i S,At Y some (bx i) S (bs i S)){S:PS}:At Y some (Cc bx n lo hi) S (Ce bs n lo hi S):=by
 unfold Cc Ce;refine D0 (Cb (enc:=e2) (b:=(lo,hi)) fun x b S=>?_) fun b S'=>C9 rfl;exact E4 (fun _=>C9 rfl) fun _=>D0 (hb _ _) fun c S2=>E4 (fun _=>C9 rfl) fun _=>C9 rfl
def Cf(bey:Nat->PS->Option (Bool×PS))(at_:Nat->Nat)(stp:Bool->Bool)(n most:Nat)(k:Nat->Nat->PS->Option (Nat×PS))(S:PS):Option (Nat×PS):=
 (O2 (fun(b:Nat×Nat) S=>if b.2 ≥ most then some (.done b,S)else(bey (at_ b.2) S).bind fun p=>if stp p.1=true then some (.done b,p.2)else some (.yield (b.2,2 * b.2+1),p.2)) (n-0) (0,1) S).bind fun p=>k p.1.1 p.1.2 p.2
theorem Nt{bs:Nat->PS->Option (Bool×PS)}(hb:∀i S,At Y some (bx i) S (bs i S)){stp:Bool->Bool}{kx:Nat->Nat->Mz (Option Nat)}{ks:Nat->Nat->PS->Option (Nat×PS)}(hk:∀i j S,At Y some (kx i j) S (ks i j S)){S:PS}:At Y some (Cd bx at_ stp n most kx) S (Cf bs at_ stp n most ks S):=by
 unfold Cd Cf;refine D0 (Cb (enc:=e2) (b:=(0,1)) fun x b S=>?_) fun b S'=>hk _ _ _;exact E4 (fun _=>C9 rfl) fun _=>D0 (hb _ _) fun c S2=>E4 (fun _=>C9 rfl) fun _=>C9 rfl
def Y9(Y:Lt)(left:Bool)(key:Nat)(arr:Array Nat)(base n hint:Nat)(S:PS):Option (Nat×PS):=
 (bS Y left key arr base hint S).bind fun p=>if p.1=true then Cf (bS Y left key arr base) (fun o=>hint+o) (fun b=>!b) n (n-hint) (fun l o=>Ce (bS Y left key arr base) n (hint+l+1) (hint+min o (n-hint))) p.2
  else Cf (bS Y left key arr base) (fun o=>hint-o) (fun b=>b) n (hint+1) (fun l o=>Ce (bS Y left key arr base) n (hint+1-min o (hint+1)) (hint-l)) p.2
theorem Ih{S:PS}:At Y some (Ig left (Y.it key) (arr.map Y.it) base n hint) S (Y9 Y.L left key arr base n hint S):=by
 rw[fE];unfold Y9;refine D0 Dw fun b S'=>?_;exact E4 (fun _=>Nt (fun _ _=>Dw) fun _ _ _=>Nr fun _ _=>Dw) fun _=>Nt (fun _ _=>Dw) fun _ _ _=>Nr fun _ _=>Dw
def Cg(i j:Nat)(S:PS):PS:={S with a:=mirror S.a i j ((j-i)/2)}
def Nu(i j:Nat)(S:PS):PS:={S with a:=bubble S.a i (i-j)}
theorem BN{S:PS}:At Y id (reverseSlice' i j) S (some ((),Cg i j S)):=by
 intro r S' e Q q;cases e;rw[reverseSlice'_eq];refine kasC_modify ?_;have e1:mirror (S.a.map Y.it) i j ((j-i)/2)=(mirror S.a i j ((j-i)/2)).map Y.it:=kas_swaps_map Y.it (fun k=>i+k) (fun k=>j-1-k) _ S.a;show Q () (SortSt.mk' Y.κ (mirror (S.a.map Y.it) i j ((j-i)/2)) S.pd S.mg none) Y.s;rw[e1];exact q
theorem fF{S:PS}:At Y id (moveDown' i j) S (some ((),Nu i j S)):=by
 intro r S' e Q q;cases e;rw[moveDown'_eq];refine kasC_modify ?_;have e1:bubble (S.a.map Y.it) i (i-j)=(bubble S.a i (i-j)).map Y.it:=kas_swaps_map Y.it (fun k=>i-k) (fun k=>i-k-1) _ S.a;show Q () (SortSt.mk' Y.κ (bubble (S.a.map Y.it) i (i-j)) S.pd S.mg none) Y.s;rw[e1];exact q
def yN(lo a m:Nat):Mz (Option (Option Nat)×Nat):=forIn [a:m] ((none,a):Option (Option Nat)×Nat) fun _ t=>do
 let y←ltAt' (lo+t.2) (lo+t.2-1)
 match y with
 |some b=>if b=true then pure (.done (none,t.2))else pure (.yield (none,t.2+1))
 |_=>pure (.done (some none,t.2))
def uV(Y:Lt)(lo a m:Nat)(S:PS):Option (Nat×PS):=O2 (fun(b:Nat) S=>(BL Y (lo+b) (lo+b-1) S).bind fun p=>if p.1=true then some (.done b,p.2)else some (.yield (b+1),p.2)) (m-a) a S
abbrev e1(b:Nat):Option (Option Nat)×Nat:=(none,b)
theorem Dx{a:Nat}{S:PS}:At Y e1 (yN lo a m) S (uV Y.L lo a m S):=by
 unfold yN uV;exact Cb (enc:=e1) (b:=a) fun x b S=>D0 Dv fun c S2=>E4 (fun _=>C9 rfl) fun _=>C9 rfl
def BO(Y:Lt)(lo n m:Nat)(S:PS):Option (Nat×PS):=(some ((),Cg lo (lo+n) S)).bind fun p=>(uV Y lo n m p.2).bind fun q=>some (q.1,q.2)
def yO(lo a m:Nat):Mz (Option (Option Nat)×Nat×Nat):=forIn [a:m] ((none,a,0):Option (Option Nat)×Nat×Nat) fun _ t=>do
 let y←ltAt' (lo+t.2.1) (lo+t.2.1-1)
 match y with
 |some b=>if b=true then(if t.2.2>0 then(reverseSlice' (lo+t.2.1-(t.2.2+1)) (lo+t.2.1)>>=fun _=>pure (.yield (none,t.2.1+1,0)))else pure (.yield (none,t.2.1+1,0)))else do
   let y←ltAt' (lo+t.2.1-1) (lo+t.2.1)
   match y with
   |some c=>if c=true then pure (.done (none,t.2.1,t.2.2))else pure (.yield (none,t.2.1+1,t.2.2+1))
   |_=>pure (.done (some none,t.2.1,t.2.2))
 |_=>pure (.done (some none,t.2.1,t.2.2))
def vF(Y:Lt)(lo a m:Nat)(S:PS):Option ((Nat×Nat)×PS):=O2 (fun(t:Nat×Nat) S=>(BL Y (lo+t.1) (lo+t.1-1) S).bind fun p=>if p.1=true then(if t.2>0 then(some ((),Cg (lo+t.1-(t.2+1)) (lo+t.1) p.2)).bind fun q=>some (.yield (t.1+1,0),q.2)else some (.yield (t.1+1,0),p.2))
  else(BL Y (lo+t.1-1) (lo+t.1) p.2).bind fun q=>if q.1=true then some (.done t,q.2)else some (.yield (t.1+1,t.2+1),q.2)) (m-a) (a,0) S
theorem Nv{a:Nat}{S:PS}:At Y e2 (yO lo a m) S (vF Y.L lo a m S):=by
 unfold yO vF;refine Cb (enc:=e2) (b:=(a,0)) fun x b S=>D0 Dv fun c S2=>?_;refine E4 (fun _=>E4 (fun _=>?_) fun _=>C9 rfl) fun _=>?_
 ·exact D0 BN fun u S3=>C9 rfl
 ·exact D0 Dv fun d S3=>E4 (fun _=>C9 rfl) fun _=>C9 rfl
def uW(Y:Lt)(lo n m:Nat)(S:PS):Option (Nat×PS):=(vF Y lo (n+1) m S).bind fun p=>if p.1.2>0 then(some ((),Cg (lo+p.1.1-(p.1.2+1)) (lo+p.1.1) p.2)).bind fun q=>BO Y lo p.1.1 m q.2 else BO Y lo p.1.1 m p.2
variable{Y:Sx}{α β γ δ:Type}
def Dy(Y:Lt)(lo m:Nat)(S:PS):Option (Nat×PS):=(uV Y lo 1 m S).bind fun p=>if(p.1==m)=true then some (p.1,p.2)else if p.1>1 then(BL Y lo (lo+p.1-1) p.2).bind fun q=>if q.1=true then some (p.1,q.2)else(some ((),Cg lo (lo+p.1) q.2)).bind fun u=>uW Y lo p.1 m u.2
 else uW Y lo p.1 m p.2
theorem fG{S:PS}:At Y some (countRun' lo m) S (Dy Y.L lo m S):=by
 unfold Dy;refine D0 (e1:=e1) (Dx (lo:=lo) (a:=1) (m:=m)) fun b S1=>?_;refine E4 (fun _=>C9 rfl) fun _=>?_;refine E4 (fun _=>?_) fun _=>?_
 ·refine D0 Dv fun c S2=>?_;refine E4 (fun _=>C9 rfl) fun _=>?_;refine D0 BN fun u S3=>?_;unfold uW;refine Bk (D0 (Nv (lo:=lo) (a:=b+1) (m:=m)) fun t S4=>E4 (fun _=>D0 BN fun u S5=>?_) fun _=>?_)
  ·unfold BO;exact D0 BN fun u S6=>D0 Dx fun c S7=>C9 rfl
  ·unfold BO;exact D0 BN fun u S6=>D0 Dx fun c S7=>C9 rfl
 ·unfold uW;refine Bk (D0 (Nv (lo:=lo) (a:=b+1) (m:=m)) fun t S4=>E4 (fun _=>D0 BN fun u S5=>?_) fun _=>?_)
  ·unfold BO;exact D0 BN fun u S6=>D0 Dx fun c S7=>C9 rfl
  ·unfold BO;exact D0 BN fun u S6=>D0 Dx fun c S7=>C9 rfl
def Dz(g:Nat->β->PS->Option (ForInStep β×PS)):Nat->Nat->β->PS->Option (β×PS)
 |0,_,b,S=>some (b,S)
 |n+1,x,b,S=>(g x b S).bind fun p=>match p.1 with
  |.done b'=>some (b',p.2)
  |.yield b'=>Dz g n (x+1) b' p.2
theorem fH{enc:β->α}{f:Nat->α->StateT SortSt Sem (ForInStep α)}{g:Nat->β->PS->Option (ForInStep β×PS)}(h:∀x b S,At Y (J0 enc) (f x (enc b)) S (g x b S)){a:Nat}{b:β}{S:PS}:
  At Y enc (forIn [a:c] (enc b) f) S (Dz g (c-a) a b S):=by
 have go:∀(n a:Nat) (b:β) (S:PS),At Y enc (forIn (List.range' a n) (enc b) f) S (Dz g n a b S):=by
  intro n
  induction n with
  |zero=>
   intro a b S r S' e Q q;cases e;exact kasC_nil q
  |succ n ih=>
   intro a b S r S' e Q q;obtain⟨⟨st,S1⟩,h1,h2⟩:=B9 e;show kasC _ _ _ (forIn (a::List.range' (a+1) n) _ _) _ _ _;refine kasC_cons (h a b S st S1 h1 _ ?_);cases st with
   |done b'=>
    cases h2;exact q
   |yield b'=>exact ih (a+1) b' S1 r S' h2 Q q
 intro r S' e Q q;exact kasC_range (go _ a b S r S' e Q q)
def v9(Y:Lt)(lo k:Nat)(S:PS):Option ((Nat×Nat)×PS):=O2 (fun(b:Nat×Nat) S=>if b.1 ≥ b.2 then some (.done b,S)else(BL Y (lo+k) (lo+(b.1+b.2)/2) S).bind fun p=>if p.1=true then some (.yield (b.1,(b.1+b.2)/2),p.2)else some (.yield ((b.1+b.2)/2+1,b.2),p.2)) (k-0) (0,k) S
def EA(Y:Lt)(lo n ok:Nat)(S:PS):Option (Bool×PS):=(Dz (fun k (_:Unit) S=>(v9 Y lo k S).bind fun p=>(some ((),Nu (lo+k) (lo+p.1.1) p.2)).bind fun q=>some (.yield (),q.2)) (n-max ok 1) (max ok 1) () S).bind fun p=>some (true,p.2)
abbrev e3(b:Nat×Nat):Option Bool×Nat×Nat:=(none,b.1,b.2)
abbrev e0{α:Type}(_:Unit):Option α×Unit:=(none,())
theorem fJ{ok:Nat}{S:PS}:At Y id (binarySort' lo n ok) S (EA Y.L lo n ok S):=by
 unfold EA;refine D0 (e1:=e0) (fH (enc:=e0) (b:=()) fun k b S=>?_) fun b S'=>C9 rfl;unfold v9;refine D0 (Cb (enc:=e3) (b:=(0,k)) fun x b S=>?_) fun b S1=>?_
 ·exact E4 (fun _=>C9 rfl) fun _=>D0 Dv fun c S2=>E4 (fun _=>C9 rfl) fun _=>C9 rfl
 ·exact D0 fF fun u S2=>C9 rfl
theorem K0(a:Array Nat)(it:Nat->Keyed)(i j:Nat):(a.map it).extract i j=(a.extract i j).map it:=by simp
theorem K1(a:Array Nat)(it:Nat->Keyed)(x:Nat):(a.map it).push (it x)=(a.push x).map it:=by simp
theorem M0(a b:Array Nat)(it:Nat->Keyed):a.map it++b.map it=(a++b).map it:=by simp
theorem Z0(a:Array Nat)(it:Nat->Keyed):(a.map it).reverse=(a.reverse).map it:=by simp
theorem N3(a:Array Nat)(it:Nat->Keyed):(a.map it).size=a.size:=by simp
theorem Fv{S:PS}:At Y id (mgX n) S (some ((),{S with mg:=n})):=by
 intro r S' e Q q;cases e;exact kasC_modify q
variable{Y:Sx}{α β γ δ:Type}
theorem X9{enc:β->α}{c d:Prop}[Decidable c][Decidable d]{m n:StateT SortSt Sem α}{S:PS}{o p:Option (β×PS)}(hc:c↔d)(h1:d->At Y enc m S o)(h2:¬ d->At Y enc n S p):At Y enc (if c then m else n) S (if d then o else p):=by
 by_cases h:d
 ·rw[Qg (hc.mpr h),Qg h];exact h1 h
 ·rw[Qb (fun z=>h (hc.mp z)),Qb h];exact h2 h
abbrev An:=Array Nat
variable{a b:An}
def sH(a b out:An)(ia ib:Nat):An:=out++a.extract ia a.size++b.extract ib b.size
def tI(a b out:An)(ia ib:Nat):An:=out++b.extract ib b.size++a.extract ia a.size
abbrev T6:=Option An×An×Nat×Nat×Nat×Nat
abbrev T7:=Option An×An×Nat×Nat×Nat×Nat×Nat
abbrev T5:=Option An×An×Nat×Nat×Nat
abbrev oM(it:Nat->Keyed)(o:Option An):Option (Array Keyed):=o.map fun a=>a.map it
abbrev c5(it:Nat->Keyed)(t:T5):Option (Array Keyed)×Array Keyed×Nat×Nat×Nat:=(oM it t.1,t.2.1.map it,t.2.2.1,t.2.2.2.1,t.2.2.2.2)
abbrev c6(it:Nat->Keyed)(t:T6):Option (Array Keyed)×Array Keyed×Nat×Nat×Nat×Nat:=(oM it t.1,t.2.1.map it,t.2.2.1,t.2.2.2.1,t.2.2.2.2.1,t.2.2.2.2.2)
abbrev c7(it:Nat->Keyed)(t:T7):Option (Array Keyed)×Array Keyed×Nat×Nat×Nat×Nat×Nat:=(oM it t.1,t.2.1.map it,t.2.2.1,t.2.2.2.1,t.2.2.2.2.1,t.2.2.2.2.2.1,t.2.2.2.2.2.2)
def oS(a:An)(i:Nat)(S:PS):Option (Nat×PS):=a[i]?.map fun x=>(x,S)
def lo1(Y:Lt)(a b:An)(mg:Nat)(t:T6)(S:PS):Option (ForInStep T6×PS):=
 (oS b t.2.2.2.1 S).bind fun p=>(oS a t.2.2.1 p.2).bind fun q=>(tV Y p.1 q.1 q.2).bind fun c=>if c.1=true then(oS b t.2.2.2.1 c.2).bind fun x=>
   if(t.2.2.2.1+1==b.size)=true then some (.done (some (sH a b (t.2.1.push x.1) t.2.2.1 (t.2.2.2.1+1)),t.2.1.push x.1,t.2.2.1,t.2.2.2.1+1,0,t.2.2.2.2.2+1),x.2)
   else if t.2.2.2.2.2+1 ≥ mg then some (.done (none,t.2.1.push x.1,t.2.2.1,t.2.2.2.1+1,0,t.2.2.2.2.2+1),x.2)else some (.yield (none,t.2.1.push x.1,t.2.2.1,t.2.2.2.1+1,0,t.2.2.2.2.2+1),x.2)
  else(oS a t.2.2.1 c.2).bind fun x=>
   if(t.2.2.1+1+1==a.size)=true then some (.done (some (tI a b (t.2.1.push x.1) (t.2.2.1+1) t.2.2.2.1),t.2.1.push x.1,t.2.2.1+1,t.2.2.2.1,t.2.2.2.2.1+1,0),x.2)
   else if t.2.2.2.2.1+1 ≥ mg then some (.done (none,t.2.1.push x.1,t.2.2.1+1,t.2.2.2.1,t.2.2.2.2.1+1,0),x.2)else some (.yield (none,t.2.1.push x.1,t.2.2.1+1,t.2.2.2.1,t.2.2.2.2.1+1,0),x.2)
def vG(a b:An)(mg k k2 ia:Nat)(out:An)(ib:Nat)(S:PS):Option (ForInStep T7×PS):=(oS a ia S).bind fun z=>
 if(ia+1+1==a.size)=true then some (.done (some (tI a b (out.push z.1) (ia+1) ib),out.push z.1,ia+1,ib,mg,k,k2),z.2)
 else if(decide (k<7)&&decide (k2<7))=true then some (.done (none,out.push z.1,ia+1,ib,mg,k,k2),z.2)else some (.yield (none,out.push z.1,ia+1,ib,mg,k,k2),z.2)
def vH(Y:Lt)(a b:An)(mg k bc ib:Nat)(out:An)(ia:Nat)(S:PS):Option (ForInStep T7×PS):=(oS b ib S).bind fun x=>
 if(ib+1==b.size)=true then some (.done (some (sH a b (out.push x.1) ia (ib+1)),out.push x.1,ia,ib+1,mg,k,bc),x.2)
 else(oS a ia x.2).bind fun y=>(Y9 Y true y.1 b (ib+1) (b.size-(ib+1)) 0 y.2).bind fun q=>if q.1>0 then
   (if(ib+1+q.1==b.size)=true then some (.done (some (sH a b (out.push x.1++b.extract (ib+1) (ib+1+q.1)) ia (ib+1+q.1)),out.push x.1++b.extract (ib+1) (ib+1+q.1),ia,ib+1+q.1,mg,k,q.1),q.2)
    else vG a b mg k q.1 ia (out.push x.1++b.extract (ib+1) (ib+1+q.1)) (ib+1+q.1) q.2)
  else vG a b mg k q.1 ia (out.push x.1) (ib+1) q.2
def EB(Y:Lt)(a b:An)(t:T7)(mg:Nat)(S:PS):Option (ForInStep T7×PS):=(some ((),{S with mg:=mg})).bind fun u=>(oS b t.2.2.2.1 u.2).bind fun x=>(Y9 Y false x.1 a t.2.2.1 (a.size-t.2.2.1) 0 x.2).bind fun q=>if q.1>0 then
   (if(t.2.2.1+q.1+1==a.size)=true then some (.done (some (tI a b (t.2.1++a.extract t.2.2.1 (t.2.2.1+q.1)) (t.2.2.1+q.1) t.2.2.2.1),t.2.1++a.extract t.2.2.1 (t.2.2.1+q.1),t.2.2.1+q.1,t.2.2.2.1,mg,q.1,t.2.2.2.2.2.2),q.2)
    else if(t.2.2.1+q.1==a.size)=true then some (.done (some (sH a b (t.2.1++a.extract t.2.2.1 (t.2.2.1+q.1)) (t.2.2.1+q.1) t.2.2.2.1),t.2.1++a.extract t.2.2.1 (t.2.2.1+q.1),t.2.2.1+q.1,t.2.2.2.1,mg,q.1,t.2.2.2.2.2.2),q.2)
    else vH Y a b mg q.1 t.2.2.2.2.2.2 t.2.2.2.1 (t.2.1++a.extract t.2.2.1 (t.2.2.1+q.1)) (t.2.2.1+q.1) q.2)
  else vH Y a b mg q.1 t.2.2.2.2.2.2 t.2.2.2.1 t.2.1 t.2.2.1 q.2
def wA(Y:Lt)(a b:An)(t:T7)(S:PS):Option (ForInStep T7×PS):=if t.2.2.2.2.1>1 then EB Y a b t (t.2.2.2.2.1-1) S else EB Y a b t t.2.2.2.2.1 S
def wB(Y:Lt)(a b:An)(t:T5)(S:PS):Option (ForInStep T5×PS):=(O2 (lo1 Y a b t.2.2.2.2) (a.size+b.size-0) (none,t.2.1,t.2.2.1,t.2.2.2.1,0,0) S).bind fun p=>match p.1.1 with
 |some r=>some (.done (some r,p.1.2.1,p.1.2.2.1,p.1.2.2.2.1,t.2.2.2.2),p.2)
 |none=>(O2 (wA Y a b) (a.size+b.size-0) (none,p.1.2.1,p.1.2.2.1,p.1.2.2.2.1,t.2.2.2.2+1,p.1.2.2.2.2.1,p.1.2.2.2.2.2) p.2).bind fun q=>match q.1.1 with
  |some r=>some (.done (some r,q.1.2.1,q.1.2.2.1,q.1.2.2.2.1,q.1.2.2.2.2.1),q.2)
  |none=>(some ((),{q.2 with mg:=q.1.2.2.2.2.1+1})).bind fun u=>some (.yield (none,q.1.2.1,q.1.2.2.1,q.1.2.2.2.1,q.1.2.2.2.2.1+1),u.2)
def vI(Y:Lt)(a b:An)(S:PS):Option (An×PS):=(oS b 0 S).bind fun x=>if(1==b.size)=true then some (sH a b #[x.1] 0 1,x.2)else if(0+1==a.size)=true then some (tI a b #[x.1] 0 1,x.2)
 else(O2 (wB Y a b) (a.size+b.size-0) (none,#[x.1],0,1,x.2.mg) x.2).bind fun p=>match p.1.1 with
  |some r=>some (r,p.2)
  |none=>none
theorem N4{S:PS}:At Y Y.it (elem' (a.map Y.it) i) S (oS a i S):=Nq
theorem Ah:((i==(a.map Y.it).size)=true)↔((i==a.size)=true):=by rw[Array.size_map]
theorem AF{enc:β->α}{f:Nat->α->StateT SortSt Sem (ForInStep α)}{g:β->PS->Option (ForInStep β×PS)}{v:α}{b:β}{d:Nat}{S:PS}(h0:v=enc b)(hc:c=d)(h:∀x b S,At Y (J0 enc) (f x (enc b)) S (g b S)):
  At Y enc (forIn [0:c] v f) S (O2 g (d-0) b S):=by
 subst h0 hc;exact Cb h
theorem Fw{arr:An}{n':Nat}{S:PS}(h:n=n'):At Y some (Ig left (Y.it key) (arr.map Y.it) base n hint) S (Y9 Y.L left key arr base n' hint S):=by
 subst h;exact Ih
theorem uX:(a.map Y.it).size+(b.map Y.it).size=a.size+b.size:=by simp
theorem xD:(a.map Y.it).size-i=a.size-i:=by simp
theorem Fx(it:Nat->Keyed)(x:Nat): #[it x]=(#[x]:An).map it:=by simp
theorem fK{S:PS}:At Y (fun r:An=>r.map Y.it) (loX (a.map Y.it) (b.map Y.it)) S (vI Y.L a b S):=by
 unfold vI;refine Bk (D0 N4 fun x S1=>?_);refine X9 Ah (fun _=>C9 ?_) fun _=>X9 Ah (fun _=>C9 ?_) fun _=>Y8 ?_
 ·rw[Fx];simp only[sH,M0,K0,N3]
 ·rw[Fx];simp only[tI,M0,K0,N3]
 refine D0 (e1:=c5 Y.it) (AF (enc:=c5 Y.it) (b:=(none,#[x],0,1,S1.mg)) (by simp) uX fun _ t S2=>?_) fun t S2=>?_
 ·unfold wB;refine D0 (e1:=c6 Y.it) (AF (enc:=c6 Y.it) (b:=(none,t.2.1,t.2.2.1,t.2.2.2.1,0,0)) (by simp) uX fun _ t S3=>?_) fun u S3=>?_
  ·unfold lo1;refine D0 N4 fun p S1=>D0 N4 fun q S2=>D0 Du fun c S3=>?_;refine E4 (fun _=>D0 N4 fun x S4=>?_) fun _=>D0 N4 fun x S4=>?_
   ·refine X9 Ah (fun _=>C9 ?_) fun _=>E4 (fun _=>C9 ?_) fun _=>C9 ?_
    ·simp only[J0,sH,K1,M0,K0,N3,Zi]<;>rfl
    ·simp only[J0,K1,Yo]<;>rfl
    ·simp only[J0,K1,Yo]<;>rfl
   ·refine X9 Ah (fun _=>C9 ?_) fun _=>E4 (fun _=>C9 ?_) fun _=>C9 ?_
    ·simp only[J0,tI,K1,M0,K0,N3,Zi]<;>rfl
    ·simp only[J0,K1,Yo]<;>rfl
    ·simp only[J0,K1,Yo]<;>rfl
  ·obtain⟨o,out,ia,ib,ac,bc⟩:=u;cases o with
   |some r=>exact C9 rfl
   |none=>
    refine Bk (D0 (e1:=c7 Y.it) (AF (enc:=c7 Y.it) (b:=(none,out,ia,ib,t.2.2.2.2+1,ac,bc)) (by simp) uX fun _ t S4=>?_) fun u S4=>?_)
    ·unfold wA;refine E4 (fun _=>?_) fun _=>?_
     all_goals
      unfold EB;refine D0 Fv fun _ S5=>D0 N4 fun x S6=>D0 (Fw xD) fun k S7=>?_;refine E4 (fun _=>X9 Ah (fun _=>C9 (by simp only[J0,tI,K1,M0,K0,N3,Zi]<;>rfl)) fun _=>X9 Ah (fun _=>C9 (by simp only[J0,sH,K1,M0,K0,N3,Zi]<;>rfl)) fun _=>?_) fun _=>?_
      all_goals
       unfold vH;refine D0 N4 fun y S8=>X9 Ah (fun _=>C9 (by simp only[J0,sH,K1,M0,K0,N3,Zi]<;>rfl)) fun _=>?_;refine D0 N4 fun z S9=>D0 (Fw xD) fun k2 S10=>?_;refine E4 (fun _=>X9 Ah (fun _=>C9 (by simp only[J0,sH,K1,M0,K0,N3,Zi]<;>rfl)) fun _=>?_) fun _=>?_
       all_goals
        unfold vG;refine D0 N4 fun z S11=>X9 Ah (fun _=>C9 (by simp only[J0,tI,K1,M0,K0,N3,Zi]<;>rfl)) fun _=>E4 (fun _=>C9 (by simp only[J0,K1,M0,K0,Yo]<;>rfl)) fun _=>C9 (by simp only[J0,K1,M0,K0,Yo]<;>rfl)
    ·obtain⟨o,out,ia,ib,mg,ac,bc⟩:=u;cases o with
     |some r=>exact C9 rfl
     |none=>exact D0 Fv fun _ S5=>C9 rfl
 ·obtain⟨o,out,ia,ib,mg⟩:=t;cases o with
  |some r=>exact C9 rfl
  |none=>exact BK
def sI(a b out:An)(na nb:Nat):An:=a.extract 0 na++b.extract 0 nb++out.reverse
def tJ(a b out:An)(na nb:Nat):An:=b.extract 0 nb++a.extract 0 na++out.reverse
abbrev U5:=Option An×Nat×Nat×An×Nat
abbrev U6:=Option An×Nat×Nat×An×Nat×Nat
abbrev U7:=Option An×Nat×Nat×An×Nat×Nat×Nat
abbrev d5(it:Nat->Keyed)(t:U5):Option (Array Keyed)×Nat×Nat×Array Keyed×Nat:=(oM it t.1,t.2.1,t.2.2.1,t.2.2.2.1.map it,t.2.2.2.2)
abbrev d6(it:Nat->Keyed)(t:U6):Option (Array Keyed)×Nat×Nat×Array Keyed×Nat×Nat:=(oM it t.1,t.2.1,t.2.2.1,t.2.2.2.1.map it,t.2.2.2.2.1,t.2.2.2.2.2)
abbrev d7(it:Nat->Keyed)(t:U7):Option (Array Keyed)×Nat×Nat×Array Keyed×Nat×Nat×Nat:=(oM it t.1,t.2.1,t.2.2.1,t.2.2.2.1.map it,t.2.2.2.2.1,t.2.2.2.2.2.1,t.2.2.2.2.2.2)
def hi1(Y:Lt)(a b:An)(mg:Nat)(t:U6)(S:PS):Option (ForInStep U6×PS):=
 (oS b (t.2.2.1-1) S).bind fun p=>(oS a (t.2.1-1) p.2).bind fun q=>(tV Y p.1 q.1 q.2).bind fun c=>if c.1=true then(oS a (t.2.1-1) c.2).bind fun x=>
   if(t.2.1-1==0)=true then some (.done (some (sI a b (t.2.2.2.1.push x.1) (t.2.1-1) t.2.2.1),t.2.1-1,t.2.2.1,t.2.2.2.1.push x.1,t.2.2.2.2.1+1,0),x.2)
   else if t.2.2.2.2.1+1 ≥ mg then some (.done (none,t.2.1-1,t.2.2.1,t.2.2.2.1.push x.1,t.2.2.2.2.1+1,0),x.2)else some (.yield (none,t.2.1-1,t.2.2.1,t.2.2.2.1.push x.1,t.2.2.2.2.1+1,0),x.2)
  else(oS b (t.2.2.1-1) c.2).bind fun x=>
   if(t.2.2.1-1==1)=true then some (.done (some (tJ a b (t.2.2.2.1.push x.1) t.2.1 (t.2.2.1-1)),t.2.1,t.2.2.1-1,t.2.2.2.1.push x.1,0,t.2.2.2.2.2+1),x.2)
   else if t.2.2.2.2.2+1 ≥ mg then some (.done (none,t.2.1,t.2.2.1-1,t.2.2.2.1.push x.1,0,t.2.2.2.2.2+1),x.2)else some (.yield (none,t.2.1,t.2.2.1-1,t.2.2.2.1.push x.1,0,t.2.2.2.2.2+1),x.2)
def vJ(a b:An)(mg k k2 na:Nat)(out:An)(nb:Nat)(S:PS):Option (ForInStep U7×PS):=(oS a (na-1) S).bind fun z=>
 if(na-1==0)=true then some (.done (some (sI a b (out.push z.1) (na-1) nb),na-1,nb,out.push z.1,mg,k,k2),z.2)
 else if(decide (k<7)&&decide (k2<7))=true then some (.done (none,na-1,nb,out.push z.1,mg,k,k2),z.2)else some (.yield (none,na-1,nb,out.push z.1,mg,k,k2),z.2)
def vK(Y:Lt)(a b:An)(mg k bc nb:Nat)(out:An)(na:Nat)(S:PS):Option (ForInStep U7×PS):=(oS b (nb-1) S).bind fun x=>
 if(nb-1==1)=true then some (.done (some (tJ a b (out.push x.1) na (nb-1)),na,nb-1,out.push x.1,mg,k,bc),x.2)
 else(oS a (na-1) x.2).bind fun y=>(Y9 Y true y.1 b 0 (nb-1) (nb-1-1) y.2).bind fun q=>if nb-1-q.1>0 then
   (if(q.1==1)=true then some (.done (some (tJ a b (out.push x.1++(b.extract q.1 (nb-1)).reverse) na q.1),na,q.1,out.push x.1++(b.extract q.1 (nb-1)).reverse,mg,k,nb-1-q.1),q.2)
    else if(q.1==0)=true then some (.done (some (sI a b (out.push x.1++(b.extract q.1 (nb-1)).reverse) na q.1),na,q.1,out.push x.1++(b.extract q.1 (nb-1)).reverse,mg,k,nb-1-q.1),q.2)
    else vJ a b mg k (nb-1-q.1) na (out.push x.1++(b.extract q.1 (nb-1)).reverse) q.1 q.2)
  else vJ a b mg k (nb-1-q.1) na (out.push x.1) (nb-1) q.2
def EC(Y:Lt)(a b:An)(t:U7)(mg:Nat)(S:PS):Option (ForInStep U7×PS):=(some ((),{S with mg:=mg})).bind fun u=>(oS b (t.2.2.1-1) u.2).bind fun x=>(Y9 Y false x.1 a 0 t.2.1 (t.2.1-1) x.2).bind fun q=>if t.2.1-q.1>0 then
   (if(q.1==0)=true then some (.done (some (sI a b (t.2.2.2.1++(a.extract q.1 t.2.1).reverse) q.1 t.2.2.1),q.1,t.2.2.1,t.2.2.2.1++(a.extract q.1 t.2.1).reverse,mg,t.2.1-q.1,t.2.2.2.2.2.2),q.2)
    else vK Y a b mg (t.2.1-q.1) t.2.2.2.2.2.2 t.2.2.1 (t.2.2.2.1++(a.extract q.1 t.2.1).reverse) q.1 q.2)
  else vK Y a b mg (t.2.1-q.1) t.2.2.2.2.2.2 t.2.2.1 t.2.2.2.1 t.2.1 q.2
def hi2(Y:Lt)(a b:An)(t:U7)(S:PS):Option (ForInStep U7×PS):=if t.2.2.2.2.1>1 then EC Y a b t (t.2.2.2.2.1-1) S else EC Y a b t t.2.2.2.2.1 S
def hi0(Y:Lt)(a b:An)(t:U5)(S:PS):Option (ForInStep U5×PS):=(O2 (hi1 Y a b t.2.2.2.2) (a.size+b.size-0) (none,t.2.1,t.2.2.1,t.2.2.2.1,0,0) S).bind fun p=>match p.1.1 with
 |some r=>some (.done (some r,p.1.2.1,p.1.2.2.1,p.1.2.2.2.1,t.2.2.2.2),p.2)
 |none=>(O2 (hi2 Y a b) (a.size+b.size-0) (none,p.1.2.1,p.1.2.2.1,p.1.2.2.2.1,t.2.2.2.2+1,p.1.2.2.2.2.1,p.1.2.2.2.2.2) p.2).bind fun q=>match q.1.1 with
  |some r=>some (.done (some r,q.1.2.1,q.1.2.2.1,q.1.2.2.2.1,q.1.2.2.2.2.1),q.2)
  |none=>(some ((),{q.2 with mg:=q.1.2.2.2.2.1+1})).bind fun u=>some (.yield (none,q.1.2.1,q.1.2.2.1,q.1.2.2.2.1,q.1.2.2.2.2.1+1),u.2)
def vL(Y:Lt)(a b:An)(S:PS):Option (An×PS):=(oS a (a.size-1) S).bind fun x=>if(a.size-1==0)=true then some (sI a b #[x.1] (a.size-1) b.size,x.2)else if(b.size==1)=true then some (tJ a b #[x.1] (a.size-1) b.size,x.2)
 else(O2 (hi0 Y a b) (a.size+b.size-0) (none,a.size-1,b.size,#[x.1],x.2.mg) x.2).bind fun p=>match p.1.1 with
  |some r=>some (r,p.2)
  |none=>none
theorem fL{S:PS}(h:i=j):At Y Y.it (elem' (a.map Y.it) i) S (oS a j S):=by
 subst h;exact N4
theorem fM{S:PS}:At Y (fun r:An=>r.map Y.it) (hiX (a.map Y.it) (b.map Y.it)) S (vL Y.L a b S):=by
 unfold vL;refine Bk (D0 (fL xD) fun x S1=>?_);refine X9 (by rw[N3]) (fun _=>C9 ?_) fun _=>X9 (by rw[N3]) (fun _=>C9 ?_) fun _=>Y8 ?_
 ·rw[Fx];simp only[sI,M0,K0,N3,Z0]
 ·rw[Fx];simp only[tJ,M0,K0,N3,Z0]
 refine D0 (e1:=d5 Y.it) (AF (enc:=d5 Y.it) (b:=(none,a.size-1,b.size,#[x],S1.mg)) (by simp) uX fun _ t S2=>?_) fun t S2=>?_
 ·unfold hi0;refine D0 (e1:=d6 Y.it) (AF (enc:=d6 Y.it) (b:=(none,t.2.1,t.2.2.1,t.2.2.2.1,0,0)) (by simp) uX fun _ t S3=>?_) fun u S3=>?_
  ·unfold hi1;refine D0 N4 fun p S1=>D0 N4 fun q S2=>D0 Du fun c S3=>?_;refine E4 (fun _=>D0 N4 fun x S4=>?_) fun _=>D0 N4 fun x S4=>?_
   ·refine E4 (fun _=>C9 ?_) fun _=>E4 (fun _=>C9 ?_) fun _=>C9 ?_
    ·simp only[J0,sI,K1,M0,K0,N3,Z0,Zi]<;>rfl
    ·simp only[J0,K1,Yo]<;>rfl
    ·simp only[J0,K1,Yo]<;>rfl
   ·refine E4 (fun _=>C9 ?_) fun _=>E4 (fun _=>C9 ?_) fun _=>C9 ?_
    ·simp only[J0,tJ,K1,M0,K0,N3,Z0,Zi]<;>rfl
    ·simp only[J0,K1,Yo]<;>rfl
    ·simp only[J0,K1,Yo]<;>rfl
  ·obtain⟨o,na,nb,out,ac,bc⟩:=u;cases o with
   |some r=>exact C9 rfl
   |none=>
    refine Bk (D0 (e1:=d7 Y.it) (AF (enc:=d7 Y.it) (b:=(none,na,nb,out,t.2.2.2.2+1,ac,bc)) (by simp) uX fun _ t S4=>?_) fun u S4=>?_)
    ·unfold hi2;refine E4 (fun _=>?_) fun _=>?_
     all_goals
      unfold EC;refine D0 Fv fun _ S5=>D0 N4 fun x S6=>D0 (Fw rfl) fun k S7=>?_;refine E4 (fun _=>E4 (fun _=>C9 (by simp only[J0,sI,K1,M0,K0,Z0,N3,Zi]<;>rfl)) fun _=>?_) fun _=>?_
      all_goals
       unfold vK;refine D0 N4 fun y S8=>E4 (fun _=>C9 (by simp only[J0,tJ,K1,M0,K0,Z0,N3,Zi]<;>rfl)) fun _=>?_;refine D0 N4 fun z S9=>D0 (Fw rfl) fun k2 S10=>?_;refine E4 (fun _=>E4 (fun _=>C9 (by simp only[J0,tJ,K1,M0,K0,Z0,N3,Zi]<;>rfl)) fun _=>E4 (fun _=>C9 (by simp only[J0,sI,K1,M0,K0,Z0,N3,Zi]<;>rfl)) fun _=>?_) fun _=>?_
       all_goals
        unfold vJ;refine D0 N4 fun z S11=>E4 (fun _=>C9 (by simp only[J0,sI,K1,M0,K0,Z0,N3,Zi]<;>rfl)) fun _=>E4 (fun _=>C9 (by simp only[J0,K1,M0,K0,Z0,Yo]<;>rfl)) fun _=>C9 (by simp only[J0,K1,M0,K0,Z0,Yo]<;>rfl)
    ·obtain⟨o,na,nb,out,mg,ac,bc⟩:=u;cases o with
     |some r=>exact C9 rfl
     |none=>exact D0 Fv fun _ S5=>C9 rfl
 ·obtain⟨o,na,nb,out,mg⟩:=t;cases o with
  |some r=>exact C9 rfl
  |none=>exact BK
variable{Y:Sx}{α β γ δ:Type}
theorem fN{enc:β->α}{st:SortSt}{k:PUnit->StateT SortSt Sem α}{S:PS}{o:Option (β×PS)}(hf:st=Y.st S1)(h:At Y enc (k ⟨⟩) S1 o):At Y enc ((set st:StateT SortSt Sem PUnit)>>=k) S o:=by
 intro r S' e Q q;refine Vd ?_;unfold kasC;rw[StateT.run_set];refine Qz ?_;rw[hf];exact h r S' e Q q
def V8{γ:Type}(sa:Nat)(l:List (γ ×Nat))(a:Array γ):Array γ:=l.foldl (fun a x=>a.setIfInBounds (sa+x.2) x.1) a
theorem Ii(it:Nat->Keyed)(sa:Nat):∀(l:List (Nat×Nat)) (a:An),V8 sa (l.map fun x=>(it x.1,x.2)) (a.map it)=(V8 sa l a).map it
 |[],_=>rfl
 |x::l,a=>by
  show V8 sa (l.map fun x=>(it x.1,x.2)) ((a.map it).setIfInBounds (sa+x.2) (it x.1))=_;rw[show(a.map it).setIfInBounds (sa+x.2) (it x.1)=(a.setIfInBounds (sa+x.2) x.1).map it by simp];exact Ii it sa l _
theorem Nw(it:Nat->Keyed)(r:An):(r.map it).toList.zipIdx=r.toList.zipIdx.map fun x=>(it x.1,x.2):=by
 rw[Ra,List.zipIdx_map];rfl
def Bl(Y:Lt)(i:Nat)(S:PS):Option (Bool×PS):=match S.pd[i]?,S.pd[i+1]? with
 |some (sa,na,pw),some (sb,nb,_)=>(oS S.a sb {S with pd:=(S.pd.setIfInBounds i (sa,na+nb,pw)).eraseIdxIfInBounds (i+1)}).bind fun x=>(Y9 Y false x.1 S.a sa na 0 x.2).bind fun k=>
   if(na-k.1==0)=true then some (true,k.2)else(oS S.a (sa+k.1+(na-k.1)-1) k.2).bind fun y=>(Y9 Y true y.1 S.a sb nb (nb-1) y.2).bind fun q=>
    if(q.1==0)=true then some (true,q.2)else if na-k.1≤q.1 then(vI Y (S.a.extract (sa+k.1) sb) (S.a.extract sb (sb+q.1)) q.2).bind fun r=>some (true,{r.2 with a:=V8 (sa+k.1) r.1.toList.zipIdx r.2.a})else(vL Y (S.a.extract (sa+k.1) sb) (S.a.extract sb (sb+q.1)) q.2).bind fun r=>some (true,{r.2 with a:=V8 (sa+k.1) r.1.toList.zipIdx r.2.a})
 |_,_=>none
theorem Ij{S:PS}:At Y id (mergeAt' i) S (Bl Y.L i S):=by
 unfold Bl;refine Y8 ?_;dsimp only;cases h1:S.pd[i]? with
 |none=>exact BK
 |some p1=>
  cases h2:S.pd[i+1]? with
  |none=>exact BK
  |some p2=>
   obtain⟨sa,na,pw⟩:=p1;obtain⟨sb,nb,pw2⟩:=p2;dsimp only;refine fN (S1:={S with pd:=(S.pd.setIfInBounds i (sa,na+nb,pw)).eraseIdxIfInBounds (i+1)}) rfl ?_;refine D0 N4 fun x S1=>D0 Ih fun k S2=>?_;refine E4 (fun _=>C9 rfl) fun _=>?_;refine D0 N4 fun y S3=>D0 Ih fun q S4=>?_;refine E4 (fun _=>C9 rfl) fun _=>E4 (fun _=>?_) fun _=>?_
   ·have el:=fK (Y:=Y) (a:=S.a.extract (sa+k) sb) (b:=S.a.extract sb (sb+q)) (S:=S4);rw[←K0,←K0]at el;refine D0 el fun r S5=>BM (S1:={S5 with a:=V8 (sa+k) r.toList.zipIdx S5.a}) ?_ (Y8 (C9 rfl));show SortSt.mk' Y.κ (V8 (sa+k) ((r.map Y.it).toList.zipIdx) (S5.a.map Y.it)) S5.pd S5.mg none=SortSt.mk' Y.κ ((V8 (sa+k) r.toList.zipIdx S5.a).map Y.it) S5.pd S5.mg none;rw[Nw,Ii]
   ·have el:=fM (Y:=Y) (a:=S.a.extract (sa+k) sb) (b:=S.a.extract sb (sb+q)) (S:=S4);rw[←K0,←K0]at el;refine D0 el fun r S5=>BM (S1:={S5 with a:=V8 (sa+k) r.toList.zipIdx S5.a}) ?_ (Y8 (C9 rfl));show SortSt.mk' Y.κ (V8 (sa+k) ((r.map Y.it).toList.zipIdx) (S5.a.map Y.it)) S5.pd S5.mg none=SortSt.mk' Y.κ ((V8 (sa+k) r.toList.zipIdx S5.a).map Y.it) S5.pd S5.mg none;rw[Nw,Ii]
def Fy(Y:Lt)(pw:Nat)(_:Unit)(S:PS):Option (ForInStep Unit×PS):=match (if S.pd.size>1 then S.pd[S.pd.size-2]? else none)with
 |some (_,_,older)=>if older≤pw then some (.done (),S)else(Bl Y (S.pd.size-2) S).bind fun p=>if(!p.1)=true then none else some (.yield (),p.2)
 |none=>some (.done (),S)
def Ch(Y:Lt)(size lo n:Nat)(S:PS):Option (ForInStep Nat×PS):=match S.pd.back? with
 |some (s1,n1,_)=>(O2 (Fy Y (power' size (2 * s1+n1) (2 * s1+n1+n1+n) size)) (size-0) () S).bind fun u=>some (.yield (lo+n),{u.2 with pd:=(u.2.pd.modify (u.2.pd.size-1) fun x=>(x.1,x.2.1,power' size (2 * s1+n1) (2 * s1+n1+n1+n) size)).push (lo,n,0)})
 |none=>some (.yield (lo+n),{S with pd:=S.pd.push (lo,n,0)})
def Ik(Y:Lt)(size lo:Nat)(S:PS):Option (ForInStep Nat×PS):=if lo ≥ size then some (.done lo,S)else(Dy Y lo (size-lo) S).bind fun p=>
 if p.1<minRun' size size 0 then(EA Y lo (min (size-lo) (minRun' size size 0)) p.1 p.2).bind fun q=>if(!q.1)=true then none else Ch Y size lo (min (size-lo) (minRun' size size 0)) q.2 else Ch Y size lo p.1 p.2
def Il(Y:Lt)(_:Unit)(S:PS):Option (ForInStep Unit×PS):=if S.pd.size≤1 then some (.done (),S)else
 (Bl Y (if(Option.any (fun x=>decide (x<(S.pd[S.pd.size-2+1]?.elim 0 fun x=>x.2.1))) (if S.pd.size-2>0 then(S.pd[S.pd.size-2-1]?).map (fun x=>x.2.1)else none))=true then S.pd.size-2-1 else S.pd.size-2) S).bind fun p=>if(!p.1)=true then none else some (.yield (),p.2)
def EE(Y:Lt)(S:PS):Option (Unit×PS):=(O2 (Ik Y S.a.size) (S.a.size-0) 0 S).bind fun p=>(O2 (Il Y) (S.a.size-0) () p.2).bind fun q=>some ((),q.2)
abbrev eN(n:Nat):Option Unit×Nat:=(none,n)
theorem fO{S:PS}:At Y id sortRuns' S (EE Y.L S):=by
 unfold EE;refine Y8 ?_;refine D0 (e1:=eN) (AF (enc:=eN) (b:=0) (d:=S.a.size) rfl (by simp) fun _ lo S0=>?_) fun lo S1=>?_
 ·unfold Ik;refine X9 (by simp) (fun _=>C9 rfl) fun _=>?_;have hz:(S.a.map Y.it).size=S.a.size:=by simp
  show At Y _ (countRun' lo ((S.a.map Y.it).size-lo)>>=_) _ _;rw[hz];refine D0 fG fun n S2=>?_;refine E4 (fun _=>Bk (D0 fJ fun ok S3=>E4 (fun _=>BK) fun _=>?_)) fun _=>?_
  ·unfold Ch;refine Y8 ?_;dsimp only;cases h1:S3.pd.back? with
   |none=>
    refine BM (S1:={S3 with pd:=S3.pd.push (lo,(min (S.a.size-lo) (minRun' S.a.size S.a.size 0)),0)}) rfl ?_;exact C9 rfl
   |some p=>
    obtain⟨s1,n1,pw⟩:=p;refine D0 (e1:=e0) (AF (enc:=e0) (b:=()) rfl rfl fun _ b S1=>?_) fun _ S1=>?_
    ·unfold Fy;refine Y8 ?_;dsimp only;cases h2:(if S1.pd.size>1 then S1.pd[S1.pd.size-2]? else none)with
     |none=>exact C9 rfl
     |some p=>
      obtain⟨_,_,older⟩:=p;refine E4 (fun _=>C9 rfl) fun _=>D0 Ij fun ok S2=>?_;exact E4 (fun _=>BK) fun _=>C9 rfl
    ·refine BM (S1:={S1 with pd:=S1.pd.modify (S1.pd.size-1) fun x=>(x.1,x.2.1,power' S.a.size (2 * s1+n1) (2 * s1+n1+n1+(min (S.a.size-lo) (minRun' S.a.size S.a.size 0))) S.a.size)}) rfl ?_;refine BM (S1:={S1 with pd:=(S1.pd.modify (S1.pd.size-1) fun x=>(x.1,x.2.1,power' S.a.size (2 * s1+n1) (2 * s1+n1+n1+(min (S.a.size-lo) (minRun' S.a.size S.a.size 0))) S.a.size)).push (lo,(min (S.a.size-lo) (minRun' S.a.size S.a.size 0)),0)}) rfl ?_;exact C9 rfl
  ·unfold Ch;refine Y8 ?_;dsimp only;cases h1:S2.pd.back? with
   |none=>
    refine BM (S1:={S2 with pd:=S2.pd.push (lo,n,0)}) rfl ?_;exact C9 rfl
   |some p=>
    obtain⟨s1,n1,pw⟩:=p;refine D0 (e1:=e0) (AF (enc:=e0) (b:=()) rfl rfl fun _ b S1=>?_) fun _ S1=>?_
    ·unfold Fy;refine Y8 ?_;dsimp only;cases h2:(if S1.pd.size>1 then S1.pd[S1.pd.size-2]? else none)with
     |none=>exact C9 rfl
     |some p=>
      obtain⟨_,_,older⟩:=p;refine E4 (fun _=>C9 rfl) fun _=>D0 Ij fun ok S2=>?_;exact E4 (fun _=>BK) fun _=>C9 rfl
    ·refine BM (S1:={S1 with pd:=S1.pd.modify (S1.pd.size-1) fun x=>(x.1,x.2.1,power' S.a.size (2 * s1+n1) (2 * s1+n1+n1+n) S.a.size)}) rfl ?_;refine BM (S1:={S1 with pd:=(S1.pd.modify (S1.pd.size-1) fun x=>(x.1,x.2.1,power' S.a.size (2 * s1+n1) (2 * s1+n1+n1+n) S.a.size)).push (lo,n,0)}) rfl ?_;exact C9 rfl
 ·refine D0 (e1:=e0) (AF (enc:=e0) (b:=()) (d:=S.a.size) rfl (by simp) fun _ b S2=>?_) fun _ S2=>C9 rfl;unfold Il;refine Y8 (E4 (fun _=>C9 rfl) fun _=>D0 Ij fun ok S3=>?_);exact E4 (fun _=>BK) fun _=>C9 rfl
section
variable{prog:af}{w:ag}{A:Around}{E:OU}
theorem EF(h:n≤1000):n≤sizeLine:=by rw[Jr];omega
def EH(n:Nat)(lt:Nat->Nat->Bool):Option (Array Nat):=(EE ⟨n,lt⟩ ⟨(List.range n).toArray,#[],7⟩).bind fun p=>if p.2.a.size=n then some p.2.a else none
theorem fP{κ:SortKind}{ks:ao}{lt:Nat->Nat->Bool}{Q:Unit×SortSt->ak->Prop}(hl:ks.length=vs.length)
  (ok:∀i j (C:Bool->ak->Prop),i<vs.length->j<vs.length->C (lt i j) s->wpAny (model prog w) A (keyLt' κ (ks.getD i Value.none) (ks.getD j Value.none)) C (fun _ _=>False) s)(hp:EH vs.length lt=some p)
  (h:∀st',p.size=vs.length->arrOf st'=p.map (kas_item (ks.toArray.zip vs.toArray))->failedOf st'=none->Q ((),st') s):wpAny (model prog w) A (sortRuns'.run (SortSt.mk' κ (ks.toArray.zip vs.toArray) #[] 7 none)) Q E s:=by
 obtain⟨⟨u,S'⟩,h1,h2⟩:=B9 hp;dsimp only at h2;split at h2
 ·rename_i hn;cases h2;have hok:∀i j (C:Bool->ak->Prop),i<vs.length->j<vs.length->C (lt i j) s->wpAny (model prog w) A (keyLt' κ (kas_item (ks.toArray.zip vs.toArray) i).1 (kas_item (ks.toArray.zip vs.toArray) j).1) C (fun _ _=>False) s:=fun i j C hi hj hc=>by
   rw[kat_item hl,kat_item hl];exact ok i j C hi hj hc
  let Y:Sx:={prog:=prog,w:=w,A:=A,E:=E,s:=s,κ:=κ,it:=kas_item (ks.toArray.zip vs.toArray),L:=⟨vs.length,lt⟩,ok:=hok}
  have est:SortSt.mk' κ (ks.toArray.zip vs.toArray) #[] 7 none=Y.st ⟨(List.range vs.length).toArray,#[],7⟩:=by
   have e:=kas_range (ks.toArray.zip vs.toArray);rw[show(ks.toArray.zip vs.toArray).size=vs.length by simp[hl]]at e;show SortSt.mk' κ (ks.toArray.zip vs.toArray) #[] 7 none=SortSt.mk' κ ((List.toArray (List.range vs.length)).map (kas_item (ks.toArray.zip vs.toArray))) #[] 7 none;rw[e]
  rw[est];exact(fO (Y:=Y) () S' h1 (fun _ st s'=>Q ((),st) s') (h _ hn rfl rfl))
 ·cases h2
end
section
variable{e:Expr}{ma:Mo D}{p p1 kp1 kp2 pos:Pos}{p2:Pos}
end
section
variable{E:XK}{pos:Pos}{tg:Expr}{g:OX}
end
section
variable{e:Expr}{es:au}{y:Str}{p pos:Pos}{as:Mo (List Ar)}
end
section
variable{prog:af}{w:ag}{A:Around}{E:OU}
theorem fQ{l:ah}{ks:List (OO)}{Q:OU}(hu:A.units+64<cLine)(hl:s.heap.IsList l vs.toArray)(ht:O8 s.heap vs ks)(h2:2≤vs.length)(hz:vs.length≤1000)
  (hp:EH vs.length (fun i j=>AB (ks.getD i []) (ks.getD j []))=some p)
  (h:∀c h',(∀b o,s.heap.get? b=some o->h'.get? b=some o)->h'.get? (s.heap.objs.size+1)=some (seqObj "list" (p.toList.map fun i=>vs.getD i Value.none).toArray c)->Q (.ref (s.heap.objs.size+1)) {s with heap:=h'}):
  wpAny (model prog w) A (call (.builtin "sorted") [.ref l]) Q E s:=by
 refine Xn kind_sorted plain_sorted entry_sorted (args_sorted1 _) ?_;unfold Builtin.«sorted»;refine Qq (m:=checkCount "sorted" 1 1 _) (Qz ?_);refine Qq (collect_list hl ?_ (EF hz));refine Qq (To ?_ (EF hz));generalize hH1:((s.heap.push (seqObj "list" #[] 0)).update s.heap.objs.size (Obj.mapSeq (· ++vs.toArray)))=H1;have hsz:H1.objs.size=s.heap.objs.size+1:=by rw[←hH1,Heap.size_update,size_push']
 have keep:∀b o,s.heap.get? b=some o->(H1.push (seqObj "list" vs.toArray 0)).get? b=some o:=fun b o q=>by
  have hlt:b<s.heap.objs.size:=Qu q;refine Qx _ ?_;rw[←hH1,Xp _ _ _ _ (Qd hlt)];exact Qx _ q
 have gD:(H1.push (seqObj "list" vs.toArray 0)).get? H1.objs.size=some (seqObj "list" vs.toArray 0):=Qw _ rfl;show wpAny _ _ _ _ _ {s with heap:=H1.push (seqObj "list" vs.toArray 0)};refine Qq (Ze (Zz slot_list_sort ⟨_,gD,rfl⟩ entry_list_sort ?body (args_list_sort _)))
 case body=>
  show wpAny (model prog w) A.in1.in1 (Builtin.«list.sort» ⟨[.ref H1.objs.size],[]⟩) _ _ _;rw[list_sort_plain];refine Qq (listItems_at gD rfl ?_);refine Qq (listUpdate_at gD rfl ?_ (by rw[Qh];exact EF hz) (Yt _));have u1:=Zc (H1.push (seqObj "list" vs.toArray 0)) H1.objs.size (Obj.mapSeq fun _=>(#[]:az));obtain⟨e1,g1⟩:∃e1,((H1.push (seqObj "list" vs.toArray 0)).update H1.objs.size (Obj.mapSeq fun _=>(#[]:az))).get? H1.objs.size=some (seqObj "list" #[] e1):=⟨_,Ph gD fun _=>#[]⟩;generalize hH2:(H1.push (seqObj "list" vs.toArray 0)).update H1.objs.size (Obj.mapSeq fun _=>(#[]:az))=H2 at u1 g1;have kp2:∀b o,s.heap.get? b=some o->H2.get? b=some o:=fun b o q=>by
   refine(u1.2 b ?_).trans (keep b o q);have:=Qu q;exact Qd (by rw[hsz];exact Jz this)
  refine Qq (seqEpoch_at (s:={s with heap:=H2}) g1 rfl ?_);refine Qq (Rz ?_ (by show vs.length≤_;exact EF hz));refine Qq (To ?_ (Yt _));refine Ze ?_;generalize hH3:(H2.push (seqObj "tuple" vs.toArray 0)).push (seqObj "list" #[] 0)=H3;have kp3:∀b o,H2.get? b=some o->H3.get? b=some o:=fun b o q=>by rw[←hH3];exact Qx _ (Qx _ q)
  have g3:=kp3 _ _ g1;show wpAny _ _ _ _ _ {s with heap:=H3};dsimp only;have hn2:¬ vs.toArray.size<2:=by rw[Qh];omega
  rw[Qb hn2,Qb hn2];have t1:O8 H3 vs ks:=ht.mono fun a its ⟨o,e,c,r⟩=>⟨o,kp3 _ _ (kp2 _ _ e),c,r⟩;obtain⟨fs,f1,f2,f3⟩:=t1.firsts;refine Qq (PySem.W.kat_kind (s:={s with heap:=H3}) (T:=.type "tuple") f1 (by omega) (fun v hv=>?_) (by decide) ?_)
  ·obtain⟨a,its,rfl,t⟩:=f3 v hv;exact bW t
  refine Qq (fP (lt:=fun i j=>AB (ks.getD i []) (ks.getD j [])) (p:=p) rfl (fun i j C hi hj hc=>?_) hp fun st' hps har hf=>?_)
  ·obtain⟨a,its,ea,⟨oa,p1,_,na,p2⟩,ia⟩:=t1.get hi;obtain⟨b,jts,eb,⟨ob,q1,_,nb,q2⟩,ib⟩:=t1.get hj;rw[ea,eb];have hb:(Value.type "tuple" !=Value.type "tuple")=false:=by decide
   rw[hb];refine PySem.W.kat_lt (s:={s with heap:=H3}) p1 p2 q1 q2 ?_;have la:=ia.length;have lb:=ib.length;refine bY (show A.units+1+1+8<cLine by omega) ia ib ?_;have e:decide (its.size<jts.size)=decide ((ks.getD i []).length<(ks.getD j []).length):=by
    rw[←la,←lb,Yq,Yq]
   rw[e,ND];exact hc
  ·have hout:=kat_snds rfl har;have hpl:p.toList.length=vs.length:=by rw[Yq,hps]
   dsimp only;rw[hout];refine Qq (seqEpoch_at (s:={s with heap:=H3}) g3 rfl ?_);have hsz5:(List.toArray (p.toList.map fun i=>vs.getD i Value.none)).size≤sizeLine:=by
    rw[Qh,Qv,hpl];exact EF hz
   refine Qq (listUpdate_at (s:={s with heap:=H3}) g3 rfl ?_ (Yt _) (Qn hsz5 (by omega)));have u5:=Zc H3 H1.objs.size (Obj.mapSeq fun _=>List.toArray (p.toList.map fun i=>vs.getD i Value.none));have g5:=Ph g3 fun _=>List.toArray (p.toList.map fun i=>vs.getD i Value.none);generalize H3.update H1.objs.size (Obj.mapSeq fun _=>List.toArray (p.toList.map fun i=>vs.getD i Value.none))=H5 at u5 g5;rw[hf];simp only[Rh,Zq,Zo];refine Qz ⟨_,rfl,Qz ⟨_,rfl,?_⟩⟩;rw[hsz]at g5 ⊢;refine h _ H5 (fun b o q=>?_) g5;have hb:=Qu q;refine(u5.2 b (fun z=>?_)).trans (kp3 b o (kp2 b o q));rw[z,hsz]at hb;exact absurd hb (Nat.not_lt_of_le (Xu _))
end
def EJ(ks:List (OO)):Option (List Nat):=if ks.length<2 then some (List.range ks.length)else if ks.length≤1000 then
 (EH ks.length fun i j=>AB (ks.getD i []) (ks.getD j [])).bind fun p=>if p.toList.length≤1000 then some p.toList else none else none
def Nx(ds:bb):Option bb:=(Bj ds).bind fun ks=>(EJ ks).bind fun p=>p.mapM fun i=>ds[i]?
section
variable{pins:OA}{σ:St}{G H:Hp}
def Ny(X:Cx):ba->Hp->VK->Prop:=fun xs H Q=>∃p G ys ds es,xs=[.ref p]/\Le G H/\nT X.K G p ys/\B4 X.K G ys ds/\Nx ds=some es/\∀l zs,H l=none->B4 X.K G zs es->Q (.ref l) (upd H l (.lst zs))
theorem Im(hu:X.A.units+64<cLine):J3 X (.builtin "sorted") (Ny X):=by
 intro pins s σ H xs us Q I r h;obtain⟨p,G,ys,ds,es,rfl,l,hq,rp,es',q⟩:=h;obtain⟨u,rfl,rx⟩:=Q5 r;cases rx;obtain⟨vs,rv,pl,hz⟩:=I.list (l.sqL hq);obtain⟨ks,e1,e2⟩:=B9 es';obtain⟨pm,e3,e4⟩:=B9 e2;have ht:O8 s.heap vs ks:=NF I l rp rv e1;have hlen:=ht.len;obtain⟨zs,h1,h2⟩:=Ly rp rv e4;have fin:∀(D:ah) (c:Nat) (h':Heap) (m:OI),(∀b u,s.heap.get? b=some u->b≠D)->s.heap.Ns X.env.locals m->h'.Ns X.env.locals m->(∀b o,b≠X.env.locals->s.heap.get? b=some o->h'.get? b=some o)->
   h'.get? D=some {cls:=.type "list",data:=.seq (pm.map fun i=>vs.getD i Value.none).toArray c}->pm.length≤1000->EP X pins σ Q (.ref D) {s with heap:=h'}:=fun D c h' m a1 a2 a3 a4 a5 hpl=>by
  have hzl:zs.length≤sizeLine:=by
   have:=h1.length;rw[Qv]at this;rw[this];exact Zy (By hpl)
  exact⟨.ref D,_,Lx (t':=s.toks) I a2 a3 a4 a1 h1 hzl a5,rfl,q D zs (Hh I a1) h2⟩
 unfold EJ at e3;split at e3
 ·rename_i hn;cases e3;refine YA I pl.isList (by omega) fun D c h' m a1 a2 a3 a4 a5=>fin D c h' m a1 a2 a3 a4 ?_ (by simp;omega);have:((List.range ks.length).map fun i=>vs.getD i Value.none)=vs:=by
   apply List.ext_getElem
   ·simp[hlen]
   ·intro i h1 h2;simp[h2]
  rw[this];exact a5
 ·rename_i hn;split at e3
  ·rename_i h1000;obtain⟨pa,e5,e6⟩:=B9 e3;split at e6
   case isFalse=>cases e6
   rename_i hpl;cases e6;obtain⟨m,F⟩:=I.fr;have hm:s.heap.Ns X.env.locals m:=F.ns;refine fQ (p:=pa) hu pl.isList ht (by omega) (by omega) (by rw[hlen];exact e5) fun c h' kp g=>fin _ c h' m (fun b o e z=>?_) hm ?_ (fun b o _ e=>kp b o e) g hpl
   ·have:=Qu e;rw[z]at this;exact absurd this (Nat.not_lt_of_le (Xu _))
   ·obtain⟨o1,es1,ep1,h1,rest⟩:=hm;exact⟨o1,es1,ep1,kp _ _ h1,rest⟩
  ·cases e3
def Ci:bb->Option bb
 |[.lst ds]=>Nx ds
 |_=>none
theorem fR:CB X B (Ny X) Ci:=by
 intro G σ env H xs ds c Q rl r e k;unfold Ci at e;split at e
 ·rename_i ds;obtain⟨x,rfl,q⟩:=U0 r;simp only[b0]at q;obtain⟨a,ys,rfl,h1,h2⟩:=q;exact⟨a,G,ys,ds,c,rfl,rl.sub,h1,h2,e,fun l zs hl rz=>k l zs G H (.refl rl) hl rz⟩
 ·cases e
end
variable{β:Type}
def k6(o:Option (β×PS))(P:β->PS->Prop):Prop:=∃r S',o=some (r,S')/\P r S'
theorem C8{r:β}{S:PS}{P:β->PS->Prop}(h:P r S):k6 (some (r,S)) P:=⟨r,S,rfl,h⟩
theorem D4{γ:Type}{o:Option (β×PS)}{g:β×PS->Option (γ ×PS)}{P:β->PS->Prop}{Q:γ->PS->Prop}(h:k6 o P)(k:∀r S,P r S->k6 (g (r,S)) Q):k6 (o.bind g) Q:=by
 obtain⟨r,S',rfl,p⟩:=h;exact k r S' p
theorem D8{c:Prop}[Decidable c]{o p:Option (β×PS)}{P:β->PS->Prop}(h1:c->k6 o P)(h2:¬ c->k6 p P):k6 (if c then o else p) P:=by
 by_cases h:c
 ·rw[Qg h];exact h1 h
 ·rw[Qb h];exact h2 h
theorem R9{o:Option (β×PS)}{P Q:β->PS->Prop}(h:k6 o P)(k:∀r S,P r S->Q r S):k6 o Q:=by
 obtain⟨r,S',e,p⟩:=h;exact⟨r,S',e,k r S' p⟩
def pY(P I:β->PS->Prop):ForInStep β->PS->Prop
 |.done b,S=>P b S
 |.yield b,S=>I b S
theorem V9{g:β->PS->Option (ForInStep β×PS)}(I:Nat->β->PS->Prop)(P:β->PS->Prop)(h:∀k b S,k<N->I k b S->k6 (g b S) (pY P (I (k+1)))):
  ∀n k b S,k+n=N->I k b S->k6 (O2 g n b S) fun b S=>P b S\/I N b S:=by
 intro n
 induction n with
 |zero=>
  intro k b S e i;have:k=N:=by omega
  subst this;exact C8 (.inr i)
 |succ n ih=>
  intro k b S e i;obtain⟨r,S',e1,p⟩:=h k b S (by omega) i;show k6 ((g b S).bind _) _;rw[e1];cases r with
  |done b'=>exact C8 (.inl p)
  |yield b'=>exact ih (k+1) b' S' (by omega) p
theorem fS{g:Nat->β->PS->Option (ForInStep β×PS)}(I:Nat->β->PS->Prop)(P:β->PS->Prop)(h:∀k b S,k<N->I k b S->k6 (g k b S) (pY P (I (k+1)))):
  ∀n k b S,k+n=N->I k b S->k6 (Dz g n k b S) fun b S=>P b S\/I N b S:=by
 intro n
 induction n with
 |zero=>
  intro k b S e i;have:k=N:=by omega
  subst this;exact C8 (.inr i)
 |succ n ih=>
  intro k b S e i;obtain⟨r,S',e1,p⟩:=h k b S (by omega) i;show k6 ((g k b S).bind _) _;rw[e1];cases r with
  |done b'=>exact C8 (.inl p)
  |yield b'=>exact ih (k+1) b' S' (by omega) p
def GA(N:Nat)(a:An):Prop:=∀x∈a,x<N
theorem GA.get(h:GA N a)(hi:i<a.size):∃x,a[i]? =some x/\x<N:=⟨a[i],Qt hi,h _ (Tc hi)⟩
theorem GA.perm(h:GA N a)(p:b.Perm a):GA N b:=fun x hx=>h x (p.mem_iff.mp hx)
theorem GA.ext(h:GA N a)(i j:Nat):GA N (a.extract i j):=fun x hx=>h x (by
 obtain⟨k,hk,rfl⟩:=Array.mem_iff_getElem.mp hx;rw[Array.getElem_extract];exact Tc _)
theorem GA.app(h:GA N a)(k:GA N b):GA N (a++b):=fun x hx=>(Array.mem_append.mp hx).elim (h x) (k x)
theorem GA.push(h:GA N a)(k:y<N):GA N (a.push y):=fun x hx=>(Array.mem_push.mp hx).elim (h x) fun e=>e ▸ k
theorem GA.rev(h:GA N a):GA N a.reverse:=fun x hx=>h x (Array.mem_reverse.mp hx)
theorem GA.set(h:GA N a)(k:y<N):GA N (a.setIfInBounds i y):=fun x hx=>by
 obtain⟨j,hj,rfl⟩:=Array.mem_iff_getElem.mp hx;rw[Array.getElem_setIfInBounds]
 ·split
  ·exact k
  ·exact h _ (Tc _)
 ·simpa using hj
theorem Nz{N:Nat}(sa:Nat):∀(l:List (Nat×Nat)) (a:An),(∀x∈l,x.1<N)->GA N a->GA N (V8 sa l a)/\(V8 sa l a).size=a.size
 |[],a,_,h=>⟨h,rfl⟩
 |x::l,a,hl,h=>by
  obtain⟨h1,h2⟩:=Nz sa l (a.setIfInBounds (sa+x.2) x.1) (fun y hy=>hl y (Qo _ hy)) (h.set (hl x (Zv ..)));exact⟨h1,h2.trans (by simp)⟩
theorem fT{r:An}(h:GA N r):∀x∈r.toList.zipIdx,x.1<N:=fun x hx=>h _ (by
 have:=List.mem_zipIdx hx;simp at this;obtain⟨_,e⟩:=this;rw[e];exact Tc _)
variable{Y:Lt}
theorem EK{S:PS}(hx:x<Y.N)(hy:y<Y.N):k6 (tV Y x y S) fun _ S'=>S'=S:=by
 unfold tV;rw[Qg ⟨hx,hy⟩];exact C8 rfl
theorem EM{S:PS}(h:GA Y.N S.a)(hi:i<S.a.size)(hj:j<S.a.size):k6 (BL Y i j S) fun _ S'=>S'=S:=by
 obtain⟨x,e1,x1⟩:=h.get hi;obtain⟨y,e2,y1⟩:=h.get hj;unfold BL;rw[e1,Qk,e2,Qk];exact EK x1 y1
theorem N5{S:PS}(h:GA N a)(hi:i<a.size):k6 (oS a i S) fun x S'=>x<N/\S'=S:=by
 obtain⟨x,e1,x1⟩:=h.get hi;unfold oS;rw[e1];exact C8 ⟨x1,rfl⟩
theorem uY(h:i+1<n):i<n:=by omega
theorem vM(h:i<n)(k:i+1≠n):i+1<n:=by omega
theorem oM4(h:c≤x+y):c+1≤x+(y+1):=by omega
theorem oM5(h:c≤x+y):c+1≤x+1+y:=by omega
theorem yP(h:c≤x+y)(z:Nat):c≤x+z+y:=by omega
theorem xE(h:c≤x+y)(z:Nat):c≤x+(y+z):=by omega
theorem wC(h:i<n):0<n-i:=by omega
theorem vN(h:i≤n):i+(n-i)≤n:=by omega
theorem fU(h:i+1≤n)(k:q≤n-(i+1))(e:i+1+q≠n):i+1+q<n:=by omega
theorem fV(h:i+1<n)(k:q≤n-i)(e:i+q+1≠n)(f:i+q≠n):i+q+1<n:=by omega
theorem OB(h:y≤n)(k:¬ x ≥ y):x+(y-x)/2<n:=by omega
theorem OC(h:y≤n)(k:¬ x ≥ y):(x+y)/2<n:=by omega
theorem fW{arr:An}{S:PS}(h:GA Y.N arr)(hk:key<Y.N)(hi:base+i<arr.size):k6 (bS Y left key arr base i S) fun _ S'=>S'=S:=by
 obtain⟨x,e1,x1⟩:=h.get hi;unfold bS;rw[e1];show k6 (if left=true then tV Y x key S else _) _;refine D8 (fun _=>EK x1 hk) fun _=>D4 (EK hk x1) fun r S' e=>?_;subst e;exact C8 rfl
theorem OD{S:PS}(hb:∀i S,i<n->k6 (bey i S) fun _ S'=>S'=S)(hh:hi≤n):k6 (Ce bey n lo hi S) fun r S'=>r≤n/\S'=S:=by
 unfold Ce;refine D4 (V9 (N:=n) (fun _ b S'=>b.2≤n/\S'=S) (fun b S'=>b.2≤n/\S'=S) (fun k b S1 _ i=>?_) n 0 (lo,hi) S (Yu _) ⟨hh,rfl⟩) fun b S' p=>?_
 ·obtain⟨h1,rfl⟩:=i;refine D8 (fun _=>C8 ⟨h1,rfl⟩) fun hlt=>D4 (hb _ S1 (OB h1 hlt)) fun r S2 e=>?_;subst e;exact D8 (fun _=>C8 ⟨h1,rfl⟩) fun _=>C8 ⟨Zy (OB h1 hlt),rfl⟩
 ·exact C8 (p.elim id id)
theorem OF{stp:Bool->Bool}{k:Nat->Nat->PS->Option (Nat×PS)}{S:PS}(hb:∀o S,o<most->k6 (bey (at_ o) S) fun _ S'=>S'=S)
  (hk:∀l o,k6 (k l o S) fun r S'=>r≤m/\S'=S):k6 (Cf bey at_ stp n most k S) fun r S'=>r≤m/\S'=S:=by
 unfold Cf;refine D4 (V9 (N:=n) (fun _ _ S'=>S'=S) (fun _ S'=>S'=S) (fun _ b S1 _ i=>?_) n 0 (0,1) S (Yu _) rfl) fun b S' p=>?_
 ·subst i;refine D8 (fun _=>C8 rfl) fun hlt=>D4 (hb b.2 S1 (Nat.lt_of_not_le hlt)) fun r S2 e=>?_;subst e;exact D8 (fun _=>C8 rfl) fun _=>C8 rfl
 ·have e:S'=S:=p.elim id id;subst e;exact hk _ _
theorem Cj{arr:An}{S:PS}(h:GA Y.N arr)(hk:key<Y.N)(hh:hint<n)(hn:base+n≤arr.size):k6 (Y9 Y left key arr base n hint S) fun r S'=>r≤n/\S'=S:=by
 unfold Y9;have b:∀i S,i<n->k6 (bS Y left key arr base i S) fun _ S'=>S'=S:=fun i S hi=>fW h hk (Ql (Nat.add_lt_add_left hi _) hn);refine D4 (b hint S hh) fun r S' e=>?_;subst e;refine D8 (fun _=>OF (fun o S ho=>b _ S (Nat.add_lt_of_lt_sub' ho)) fun l o=>OD b (Qn (Vb (Nat.min_le_right ..) _) (Vv (Nat.add_sub_of_le (Zy hh))))) fun _=>OF (fun o S ho=>b _ S (Vm (Nat.sub_le ..) hh)) fun l o=>OD b (Qn (Nat.sub_le ..) (Zy hh))
theorem EN{out:An}(ha:GA N a)(hb:GA N b)(ho:GA N out)(ia ib:Nat):GA N (sH a b out ia ib):=(ho.app (ha.ext _ _)).app (hb.ext _ _)
theorem Fz{out:An}(ha:GA N a)(hb:GA N b)(ho:GA N out)(ia ib:Nat):GA N (tI a b out ia ib):=(ho.app (hb.ext _ _)).app (ha.ext _ _)
def Sm(S S':PS):Prop:=S'.a=S.a/\S'.pd=S.pd
theorem Sm.refl{S:PS}:Sm S S:=⟨rfl,rfl⟩
theorem Sm.trans{S S2:PS}(h:Sm S S1)(k:Sm S1 S2):Sm S S2:=⟨k.1.trans h.1,k.2.trans h.2⟩
def oT(N:Nat)(a b:An)(c:Nat)(o:Option An)(out:An)(ia ib:Nat):Prop:=match o with
 |some r=>GA N r
 |none=>GA N out/\ia+1<a.size/\ib<b.size/\c≤ia+ib
section
variable{S:PS}(ha:GA Y.N a)(hb:GA Y.N b)
include ha hb
theorem fX{t:T6}(i:oT Y.N a b c t.1 t.2.1 t.2.2.1 t.2.2.2.1)(ht:t.1=none):k6 (lo1 Y a b mg t S) fun r S'=>S'=S/\pY (fun t _=>oT Y.N a b (c+1) t.1 t.2.1 t.2.2.1 t.2.2.2.1) (fun t _=>t.1=none/\oT Y.N a b (c+1) t.1 t.2.1 t.2.2.1 t.2.2.2.1) r S':=by
 obtain⟨o,out,ia,ib,ac,bc⟩:=t;cases ht;obtain⟨h1,h2,h3,h4⟩:=i;dsimp only at h1 h2 h3 h4;unfold lo1;dsimp only;refine D4 (N5 hb h3) fun x S1 ⟨x1,e1⟩=>?_;subst e1;refine D4 (N5 ha (uY h2)) fun y S2 ⟨y1,e2⟩=>?_;subst e2;refine D4 (EK x1 y1) fun q S3 e3=>?_;subst e3;refine D8 (fun _=>D4 (N5 hb h3) fun z S4 ⟨z1,e4⟩=>?_) fun _=>D4 (N5 ha (uY h2)) fun z S4 ⟨z1,e4⟩=>?_
 ·subst e4;refine D8 (fun _=>C8 ⟨rfl,EN ha hb (h1.push z1) _ _⟩) fun hn=>?_;have hn':ib+1≠b.size:=by simpa using hn
  have k:GA Y.N (out.push z)/\ia+1<a.size/\ib+1<b.size/\c+1≤ia+(ib+1):=⟨h1.push z1,h2,vM h3 hn',oM4 h4⟩;exact D8 (fun _=>C8 ⟨rfl,k⟩) fun _=>C8 ⟨rfl,rfl,k⟩
 ·subst e4;refine D8 (fun _=>C8 ⟨rfl,Fz ha hb (h1.push z1) _ _⟩) fun hn=>?_;have hn':ia+1+1≠a.size:=by simpa using hn
  have k:GA Y.N (out.push z)/\ia+1+1<a.size/\ib<b.size/\c+1≤ia+1+ib:=⟨h1.push z1,vM h2 hn',h3,oM5 h4⟩;exact D8 (fun _=>C8 ⟨rfl,k⟩) fun _=>C8 ⟨rfl,rfl,k⟩
theorem OG{out:An}(h1:GA Y.N out)(h2:ia+1<a.size)(h3:ib<b.size)(h4:c≤ia+ib):k6 (vG a b mg k k2 ia out ib S) fun r S'=>S'=S/\pY (fun t _=>oT Y.N a b c t.1 t.2.1 t.2.2.1 t.2.2.2.1) (fun t _=>t.1=none/\oT Y.N a b c t.1 t.2.1 t.2.2.1 t.2.2.2.1) r S':=by
 unfold vG;refine D4 (N5 ha (uY h2)) fun z S1 ⟨z1,e1⟩=>?_;subst e1;refine D8 (fun _=>C8 ⟨rfl,Fz ha hb (h1.push z1) _ _⟩) fun hn=>?_;have hn':ia+1+1≠a.size:=by simpa using hn
 have k:GA Y.N (out.push z)/\ia+1+1<a.size/\ib<b.size/\c≤ia+1+ib:=⟨h1.push z1,vM h2 hn',h3,yP h4 1⟩;exact D8 (fun _=>C8 ⟨rfl,k⟩) fun _=>C8 ⟨rfl,rfl,k⟩
theorem OH{out:An}(h1:GA Y.N out)(h2:ia+1<a.size)(h3:ib<b.size)(h4:c≤ia+ib):k6 (vH Y a b mg k bc ib out ia S) fun r S'=>S'=S/\pY (fun t _=>oT Y.N a b c t.1 t.2.1 t.2.2.1 t.2.2.2.1) (fun t _=>t.1=none/\oT Y.N a b c t.1 t.2.1 t.2.2.1 t.2.2.2.1) r S':=by
 unfold vH;refine D4 (N5 hb h3) fun x S1 ⟨x1,e1⟩=>?_;subst e1;refine D8 (fun _=>C8 ⟨rfl,EN ha hb (h1.push x1) _ _⟩) fun hn=>?_;have hn':ib+1≠b.size:=by simpa using hn
 refine D4 (N5 ha (uY h2)) fun y S2 ⟨y1,e2⟩=>?_;subst e2;refine D4 (Cj hb y1 (wC (vM h3 hn')) (vN h3)) fun q S3 ⟨q1,e3⟩=>?_;subst e3;have g:=(h1.push x1).app (hb.ext (ib+1) (ib+1+q));refine D8 (fun _=>D8 (fun _=>C8 ⟨rfl,EN ha hb g _ _⟩) fun hm=>?_) fun _=>OG ha hb (h1.push x1) h2 (vM h3 hn') (xE h4 1);have hm':ib+1+q≠b.size:=by simpa using hm
 exact OG ha hb g h2 (fU h3 q1 hm') (xE (xE h4 1) q)
theorem OJ{t:T7}(i:oT Y.N a b c t.1 t.2.1 t.2.2.1 t.2.2.2.1)(ht:t.1=none):k6 (EB Y a b t mg S) fun r S'=>Sm S S'/\pY (fun t _=>oT Y.N a b c t.1 t.2.1 t.2.2.1 t.2.2.2.1) (fun t _=>t.1=none/\oT Y.N a b c t.1 t.2.1 t.2.2.1 t.2.2.2.1) r S':=by
 obtain⟨o,out,ia,ib,m0,ac,bc⟩:=t;cases ht;obtain⟨h1,h2,h3,h4⟩:=i;dsimp only at h1 h2 h3 h4;unfold EB;dsimp only;refine D4 (P:=fun _ S1=>Sm S S1) (C8 ⟨rfl,rfl⟩) fun _ S1 sm=>?_;refine D4 (N5 hb h3) fun x S2 ⟨x1,e2⟩=>?_;subst e2;refine D4 (Cj ha x1 (wC (uY h2)) (vN (Zy (uY h2)))) fun q S3 ⟨q1,e3⟩=>?_;subst e3;have g:=h1.app (ha.ext ia (ia+q));refine D8 (fun _=>D8 (fun _=>C8 ⟨sm,Fz ha hb g _ _⟩) fun hm=>D8 (fun _=>C8 ⟨sm,EN ha hb g _ _⟩) fun hp=>?_) fun _=>?_
 ·have hm':ia+q+1≠a.size:=by simpa using hm
  have hp':ia+q≠a.size:=by simpa using hp
  exact R9 (OH ha hb g (fV h2 q1 hm' hp') h3 (yP h4 q)) fun r S' p=>⟨p.1 ▸ sm,p.2⟩
 ·exact R9 (OH ha hb h1 h2 h3 h4) fun r S' p=>⟨p.1 ▸ sm,p.2⟩
theorem fY{t:T7}(i:oT Y.N a b c t.1 t.2.1 t.2.2.1 t.2.2.2.1)(ht:t.1=none):k6 (wA Y a b t S) fun r S'=>Sm S S'/\pY (fun t _=>oT Y.N a b c t.1 t.2.1 t.2.2.1 t.2.2.2.1) (fun t _=>t.1=none/\oT Y.N a b c t.1 t.2.1 t.2.2.1 t.2.2.2.1) r S':=by
 unfold wA;exact D8 (fun _=>OJ ha hb i ht) fun _=>OJ ha hb i ht
theorem fZ{t:T5}(i:oT Y.N a b c t.1 t.2.1 t.2.2.1 t.2.2.2.1)(ht:t.1=none):k6 (wB Y a b t S) fun r S'=>Sm S S'/\pY (fun t _=>∃r,t.1=some r/\GA Y.N r) (fun t _=>t.1=none/\oT Y.N a b (c+1) t.1 t.2.1 t.2.2.1 t.2.2.2.1) r S':=by
 obtain⟨o,out,ia,ib,m0⟩:=t;cases ht;have hF:1≤a.size+b.size:=by obtain⟨_,h2,_⟩:=i;exact Qn (Qn (Pr 1 _) (Zy h2)) (Zs ..)
 unfold wB;dsimp only;refine D4 (V9 (N:=a.size+b.size) (fun k (t:T6) S'=>S'=S/\t.1=none/\oT Y.N a b (c+k) t.1 t.2.1 t.2.2.1 t.2.2.2.1) (fun t S'=>S'=S/\oT Y.N a b (c+1) t.1 t.2.1 t.2.2.1 t.2.2.2.1) (fun k t S1 _ ⟨e,h1,h2⟩=>?_) (a.size+b.size-0) 0 (none,out,ia,ib,0,0) S (Yu _) ⟨rfl,rfl,i⟩) fun t S1 p=>?_
 ·subst e;refine R9 (fX ha hb (c:=c+k) h2 h1) fun r S2 ⟨e2,p⟩=>?_;subst e2;have low:∀{o:Option An}{out:An}{ia ib:Nat},oT Y.N a b (c+k+1) o out ia ib->oT Y.N a b (c+1) o out ia ib:=fun{o out ia ib} h=>by
   cases o with
   |some r=>exact h
   |none=>obtain⟨q1,q2,q3,q4⟩:=h;exact⟨q1,q2,q3,Qn (Rt (Zs ..)) q4⟩
  cases r with
  |done t'=>exact⟨rfl,low p⟩
  |yield t'=>exact⟨rfl,p.1,p.2⟩
 ·have p':S1=S/\oT Y.N a b (c+1) t.1 t.2.1 t.2.2.1 t.2.2.2.1:=by
   rcases p with p|⟨e,h1,h2⟩
   ·exact p
   ·refine⟨e,?_⟩;rw[h1]at h2 ⊢;obtain⟨q1,q2,q3,q4⟩:=h2;exact⟨q1,q2,q3,Qn (Vb hF _) q4⟩
  clear p;obtain⟨e,p⟩:=p';subst e;obtain⟨o1,Q2,ia1,ib1,ac1,bc1⟩:=t;cases o1 with
  |some r=>exact C8 ⟨Sm.refl,r,rfl,p⟩
  |none=>
   dsimp only at p ⊢;refine D4 (V9 (N:=a.size+b.size) (fun _ (t:T7) S'=>Sm S1 S'/\t.1=none/\oT Y.N a b (c+1) t.1 t.2.1 t.2.2.1 t.2.2.2.1) (fun t S'=>Sm S1 S'/\oT Y.N a b (c+1) t.1 t.2.1 t.2.2.1 t.2.2.2.1) (fun k t S2 _ ⟨e,h1,h2⟩=>?_) (a.size+b.size-0) 0 (none,Q2,ia1,ib1,m0+1,ac1,bc1) S1 (Yu _) ⟨Sm.refl,rfl,p⟩) fun t S2 q=>?_
   ·refine R9 (fY ha hb h2 h1) fun r S3 ⟨e3,p3⟩=>?_;cases r with
    |done t'=>exact⟨e.trans e3,p3⟩
    |yield t'=>exact⟨e.trans e3,p3.1,p3.2⟩
   ·have q':Sm S1 S2/\oT Y.N a b (c+1) t.1 t.2.1 t.2.2.1 t.2.2.2.1:=by
     rcases q with q|⟨e,h1,h2⟩
     ·exact q
     ·exact⟨e,h2⟩
    clear q;obtain⟨e,q⟩:=q';obtain⟨o2,out2,ia2,ib2,mg2,ac2,bc2⟩:=t;cases o2 with
    |some r=>exact C8 ⟨e,r,rfl,q⟩
    |none=>exact C8 ⟨⟨e.1,e.2⟩,rfl,q⟩
theorem gA(h1:1≤a.size)(h2:1≤b.size):k6 (vI Y a b S) fun r S'=>Sm S S'/\GA Y.N r:=by
 unfold vI;refine D4 (N5 hb h2) fun x S1 ⟨x1,e1⟩=>?_;subst e1;have gx:GA Y.N #[x]:=fun y hy=>by rw[show y=x by simpa using hy];exact x1
 refine D8 (fun _=>C8 ⟨Sm.refl,EN ha hb gx _ _⟩) fun hn=>D8 (fun _=>C8 ⟨Sm.refl,Fz ha hb gx _ _⟩) fun hm=>?_;have hn':1≠b.size:=by simpa using hn
 have hm':1≠a.size:=by simpa using hm
 refine D4 (V9 (N:=a.size+b.size) (fun k (t:T5) S'=>Sm S1 S'/\t.1=none/\oT Y.N a b k t.1 t.2.1 t.2.2.1 t.2.2.2.1) (fun t S'=>Sm S1 S'/\∃r,t.1=some r/\GA Y.N r) (fun k t S2 _ ⟨e,q1,q2⟩=>?_) (a.size+b.size-0) 0 (none,#[x],0,1,S1.mg) S1 (Yu _) ⟨Sm.refl,rfl,gx,Vr h1 hm',Vr h2 hn',Yt _⟩) fun t S2 p=>?_
 ·refine R9 (fZ ha hb q2 q1) fun r S3 ⟨e3,p3⟩=>?_;cases r with
  |done t'=>exact⟨e.trans e3,p3⟩
  |yield t'=>exact⟨e.trans e3,p3.1,p3.2⟩
 ·rcases p with⟨e,r,q1,q2⟩|⟨e,q1,q2⟩
  ·obtain⟨o,out,ia,ib,mg⟩:=t;dsimp only at q1;subst q1;exact C8 ⟨e,q2⟩
  ·obtain⟨o,out,ia,ib,mg⟩:=t;dsimp only at q1;subst q1;obtain⟨_,r2,r3,r4⟩:=q2;dsimp only at r2 r3 r4;omega
end
variable{Y:Lt}
theorem sJ(h:1≤m)(k:m≤n):m-1<n:=by omega
theorem oN3(h:1≤x)(k:x+y+c≤z):x-1+y+(c+1)≤z:=by omega
theorem yQ(h:2≤m)(k:m-1≠1):2≤m-1:=by omega
theorem oN5(h:2≤y)(k:x+y+c≤z):x+(y-1)+(c+1)≤z:=by omega
theorem yR(h:w≤x)(k:x+y+c≤z):w+y+c≤z:=by omega
theorem oN7(h:2≤m):m-1-1<m-1:=by omega
theorem yS(h:w≤y)(k:x+y+c≤z):x+w+c≤z:=by omega
theorem gB(h:q≠1)(k:q≠0):2≤q:=by omega
theorem OK(h:m≤z):0+m≤z:=by omega
theorem gC(h:x+(c+k+1)≤z):x+(c+1)≤z:=by omega
theorem gE(hF:1≤m)(h:x+(c+m)≤z):x+(c+1)≤z:=by omega
theorem gF(h:1≤x)(k:x+y+z≤z):False:=by omega
theorem gG(c3:sb=sa+na)(c1:0<na)(k1:k≤na)(hm:sb+nb≤z):sa+k+(na-k)-1<z:=by
 rw[Nat.add_assoc,Nat.add_sub_of_le k1,←c3];exact Ql (Nat.sub_lt (by rw[c3];exact Ql c1 (Pr ..)) Nat.one_pos) (Qn (Zs ..) hm)
theorem gH(c3:sb=sa+na)(hk:na-k≠0)(hm:sb+nb≤z):1≤min sb z-(sa+k):=by
 rw[Sj (Qn (Zs ..) hm),c3,Nat.add_sub_add_left];exact Ul hk
theorem gI(hq:q≠0)(q1:q≤nb)(hm:sb+nb≤z):1≤min (sb+q) z-sb:=by
 rw[Sj (Qn (Vb q1 _) hm),Nat.add_sub_cancel_left];exact Ul hq
theorem gJ(h:2≤m):m-2+1<m:=by omega
theorem GB{a:Nat}(h:j<m-a):a+j<m:=by omega
theorem GC{t:Nat}(h:t<m)(k:l+m≤z):l+t<z:=by omega
theorem Io(h:x<z):x-1<z:=by omega
theorem Ip{a:Nat}(h:a≤m):a+(m-a)=m:=by omega
theorem gK{r:Nat}(a:1≤r)(b:r≤m)(h:l+m≤z):l+r-1<z:=by omega
theorem sK(x y:Nat):x-y≤x:=Nat.sub_le x y
theorem ER{out:An}(ha:GA N a)(hb:GA N b)(ho:GA N out)(na nb:Nat):GA N (sI a b out na nb):=((ha.ext _ _).app (hb.ext _ _)).app ho.rev
theorem GD{out:An}(ha:GA N a)(hb:GA N b)(ho:GA N out)(na nb:Nat):GA N (tJ a b out na nb):=((hb.ext _ _).app (ha.ext _ _)).app ho.rev
def oU(N:Nat)(a b:An)(c:Nat)(o:Option An)(na nb:Nat)(out:An):Prop:=match o with
 |some r=>GA N r
 |none=>GA N out/\1≤na/\na≤a.size/\2≤nb/\nb≤b.size/\na+nb+c≤a.size+b.size
section
variable{S:PS}(ha:GA Y.N a)(hb:GA Y.N b)
include ha hb
theorem gL{t:U6}(i:oU Y.N a b c t.1 t.2.1 t.2.2.1 t.2.2.2.1)(ht:t.1=none):k6 (hi1 Y a b mg t S) fun r S'=>S'=S/\pY (fun t _=>oU Y.N a b (c+1) t.1 t.2.1 t.2.2.1 t.2.2.2.1) (fun t _=>t.1=none/\oU Y.N a b (c+1) t.1 t.2.1 t.2.2.1 t.2.2.2.1) r S':=by
 obtain⟨o,na,nb,out,ac,bc⟩:=t;cases ht;obtain⟨h1,h2,h3,h4,h5,h6⟩:=i;dsimp only at h1 h2 h3 h4 h5 h6;unfold hi1;dsimp only;refine D4 (N5 hb (sJ (Zy h4) h5)) fun x S1 ⟨x1,e1⟩=>?_;subst e1;refine D4 (N5 ha (sJ h2 h3)) fun y S2 ⟨y1,e2⟩=>?_;subst e2;refine D4 (EK x1 y1) fun q S3 e3=>?_;subst e3;refine D8 (fun _=>D4 (N5 ha (sJ h2 h3)) fun z S4 ⟨z1,e4⟩=>?_) fun _=>D4 (N5 hb (sJ (Zy h4) h5)) fun z S4 ⟨z1,e4⟩=>?_
 ·subst e4;refine D8 (fun _=>C8 ⟨rfl,ER ha hb (h1.push z1) _ _⟩) fun hn=>?_;have hn':na-1≠0:=by simpa using hn
  have k:GA Y.N (out.push z)/\1≤na-1/\na-1≤a.size/\2≤nb/\nb≤b.size/\na-1+nb+(c+1)≤a.size+b.size:=⟨h1.push z1,Ul hn',Qn (sK ..) h3,h4,h5,oN3 h2 h6⟩;exact D8 (fun _=>C8 ⟨rfl,k⟩) fun _=>C8 ⟨rfl,rfl,k⟩
 ·subst e4;refine D8 (fun _=>C8 ⟨rfl,GD ha hb (h1.push z1) _ _⟩) fun hn=>?_;have hn':nb-1≠1:=by simpa using hn
  have k:GA Y.N (out.push z)/\1≤na/\na≤a.size/\2≤nb-1/\nb-1≤b.size/\na+(nb-1)+(c+1)≤a.size+b.size:=⟨h1.push z1,h2,h3,yQ h4 hn',Qn (sK ..) h5,oN5 h4 h6⟩;exact D8 (fun _=>C8 ⟨rfl,k⟩) fun _=>C8 ⟨rfl,rfl,k⟩
theorem OL{out:An}(h1:GA Y.N out)(h2:1≤na)(h3:na≤a.size)(h4:2≤nb)(h5:nb≤b.size)(h6:na+nb+c≤a.size+b.size):k6 (vJ a b mg k k2 na out nb S) fun r S'=>S'=S/\pY (fun t _=>oU Y.N a b c t.1 t.2.1 t.2.2.1 t.2.2.2.1) (fun t _=>t.1=none/\oU Y.N a b c t.1 t.2.1 t.2.2.1 t.2.2.2.1) r S':=by
 unfold vJ;refine D4 (N5 ha (sJ h2 h3)) fun z S1 ⟨z1,e1⟩=>?_;subst e1;refine D8 (fun _=>C8 ⟨rfl,ER ha hb (h1.push z1) _ _⟩) fun hn=>?_;have hn':na-1≠0:=by simpa using hn
 have k:GA Y.N (out.push z)/\1≤na-1/\na-1≤a.size/\2≤nb/\nb≤b.size/\na-1+nb+c≤a.size+b.size:=⟨h1.push z1,Ul hn',Qn (sK ..) h3,h4,h5,yR (sK ..) h6⟩;exact D8 (fun _=>C8 ⟨rfl,k⟩) fun _=>C8 ⟨rfl,rfl,k⟩
theorem OM{out:An}(h1:GA Y.N out)(h2:1≤na)(h3:na≤a.size)(h4:2≤nb)(h5:nb≤b.size)(h6:na+nb+c≤a.size+b.size):k6 (vK Y a b mg k bc nb out na S) fun r S'=>S'=S/\pY (fun t _=>oU Y.N a b c t.1 t.2.1 t.2.2.1 t.2.2.2.1) (fun t _=>t.1=none/\oU Y.N a b c t.1 t.2.1 t.2.2.1 t.2.2.2.1) r S':=by
 unfold vK;refine D4 (N5 hb (sJ (Zy h4) h5)) fun x S1 ⟨x1,e1⟩=>?_;subst e1;refine D8 (fun _=>C8 ⟨rfl,GD ha hb (h1.push x1) _ _⟩) fun hn=>?_;have hn':nb-1≠1:=by simpa using hn
 refine D4 (N5 ha (sJ h2 h3)) fun y S2 ⟨y1,e2⟩=>?_;subst e2;refine D4 (Cj hb y1 (oN7 h4) (OK (Qn (sK ..) h5))) fun q S3 ⟨q1,e3⟩=>?_;subst e3;have g:=(h1.push x1).app (hb.ext q (nb-1)).rev;refine D8 (fun _=>D8 (fun _=>C8 ⟨rfl,GD ha hb g _ _⟩) fun hm=>D8 (fun _=>C8 ⟨rfl,ER ha hb g _ _⟩) fun hp=>?_) fun _=>OL ha hb (h1.push x1) h2 h3 (yQ h4 hn') (Qn (sK ..) h5) (yS (sK ..) h6);have hm':q≠1:=by simpa using hm
 have hp':q≠0:=by simpa using hp
 exact OL ha hb g h2 h3 (gB hm' hp') (Qn q1 (Qn (sK ..) h5)) (yS (Qn q1 (sK ..)) h6)
theorem ON{t:U7}(i:oU Y.N a b c t.1 t.2.1 t.2.2.1 t.2.2.2.1)(ht:t.1=none):k6 (EC Y a b t mg S) fun r S'=>Sm S S'/\pY (fun t _=>oU Y.N a b c t.1 t.2.1 t.2.2.1 t.2.2.2.1) (fun t _=>t.1=none/\oU Y.N a b c t.1 t.2.1 t.2.2.1 t.2.2.2.1) r S':=by
 obtain⟨o,na,nb,out,m0,ac,bc⟩:=t;cases ht;obtain⟨h1,h2,h3,h4,h5,h6⟩:=i;dsimp only at h1 h2 h3 h4 h5 h6;unfold EC;dsimp only;refine D4 (P:=fun _ S1=>Sm S S1) (C8 ⟨rfl,rfl⟩) fun _ S1 sm=>?_;refine D4 (N5 hb (sJ (Zy h4) h5)) fun x S2 ⟨x1,e2⟩=>?_;subst e2;refine D4 (Cj ha x1 (sJ h2 (Qy _)) (OK h3)) fun q S3 ⟨q1,e3⟩=>?_;subst e3;have g:=h1.app (ha.ext q na).rev;refine D8 (fun _=>D8 (fun _=>C8 ⟨sm,ER ha hb g _ _⟩) fun hm=>?_) fun _=>?_
 ·have hm':q≠0:=by simpa using hm
  exact R9 (OM ha hb g (Ul hm') (Qn q1 h3) h4 h5 (yR q1 h6)) fun r S' p=>⟨p.1 ▸ sm,p.2⟩
 ·exact R9 (OM ha hb h1 h2 h3 h4 h5 h6) fun r S' p=>⟨p.1 ▸ sm,p.2⟩
theorem gM{t:U7}(i:oU Y.N a b c t.1 t.2.1 t.2.2.1 t.2.2.2.1)(ht:t.1=none):k6 (hi2 Y a b t S) fun r S'=>Sm S S'/\pY (fun t _=>oU Y.N a b c t.1 t.2.1 t.2.2.1 t.2.2.2.1) (fun t _=>t.1=none/\oU Y.N a b c t.1 t.2.1 t.2.2.1 t.2.2.2.1) r S':=by
 unfold hi2;exact D8 (fun _=>ON ha hb i ht) fun _=>ON ha hb i ht
theorem gO{t:U5}(i:oU Y.N a b c t.1 t.2.1 t.2.2.1 t.2.2.2.1)(ht:t.1=none):k6 (hi0 Y a b t S) fun r S'=>Sm S S'/\pY (fun t _=>∃r,t.1=some r/\GA Y.N r) (fun t _=>t.1=none/\oU Y.N a b (c+1) t.1 t.2.1 t.2.2.1 t.2.2.2.1) r S':=by
 obtain⟨o,na,nb,out,m0⟩:=t;cases ht;have hF:1≤a.size+b.size:=by obtain⟨_,h2,h3,_⟩:=i;exact Qn h2 (Qn h3 (Zs ..))
 unfold hi0;dsimp only;refine D4 (V9 (N:=a.size+b.size) (fun k (t:U6) S'=>S'=S/\t.1=none/\oU Y.N a b (c+k) t.1 t.2.1 t.2.2.1 t.2.2.2.1) (fun t S'=>S'=S/\oU Y.N a b (c+1) t.1 t.2.1 t.2.2.1 t.2.2.2.1) (fun k t S1 _ ⟨e,h1,h2⟩=>?_) (a.size+b.size-0) 0 (none,na,nb,out,0,0) S (Yu _) ⟨rfl,rfl,i⟩) fun t S1 p=>?_
 ·subst e;refine R9 (gL ha hb (c:=c+k) h2 h1) fun r S2 ⟨e2,p⟩=>?_;subst e2;have low:∀{o:Option An}{out:An}{na nb:Nat},oU Y.N a b (c+k+1) o na nb out->oU Y.N a b (c+1) o na nb out:=fun{o out na nb} h=>by
   cases o with
   |some r=>exact h
   |none=>obtain⟨q1,q2,q3,q4,q5,q6⟩:=h;exact⟨q1,q2,q3,q4,q5,gC q6⟩
  cases r with
  |done t'=>exact⟨rfl,low p⟩
  |yield t'=>exact⟨rfl,p.1,p.2⟩
 ·have p':S1=S/\oU Y.N a b (c+1) t.1 t.2.1 t.2.2.1 t.2.2.2.1:=by
   rcases p with p|⟨e,h1,h2⟩
   ·exact p
   ·refine⟨e,?_⟩;rw[h1]at h2 ⊢;obtain⟨q1,q2,q3,q4,q5,q6⟩:=h2;exact⟨q1,q2,q3,q4,q5,gE hF q6⟩
  clear p;obtain⟨e,p⟩:=p';subst e;obtain⟨o1,na1,nb1,Q2,ac1,bc1⟩:=t;cases o1 with
  |some r=>exact C8 ⟨Sm.refl,r,rfl,p⟩
  |none=>
   dsimp only at p ⊢;refine D4 (V9 (N:=a.size+b.size) (fun _ (t:U7) S'=>Sm S1 S'/\t.1=none/\oU Y.N a b (c+1) t.1 t.2.1 t.2.2.1 t.2.2.2.1) (fun t S'=>Sm S1 S'/\oU Y.N a b (c+1) t.1 t.2.1 t.2.2.1 t.2.2.2.1) (fun k t S2 _ ⟨e,h1,h2⟩=>?_) (a.size+b.size-0) 0 (none,na1,nb1,Q2,m0+1,ac1,bc1) S1 (Yu _) ⟨Sm.refl,rfl,p⟩) fun t S2 q=>?_
   ·refine R9 (gM ha hb h2 h1) fun r S3 ⟨e3,p3⟩=>?_;cases r with
    |done t'=>exact⟨e.trans e3,p3⟩
    |yield t'=>exact⟨e.trans e3,p3.1,p3.2⟩
   ·have q':Sm S1 S2/\oU Y.N a b (c+1) t.1 t.2.1 t.2.2.1 t.2.2.2.1:=by
     rcases q with q|⟨e,h1,h2⟩
     ·exact q
     ·exact⟨e,h2⟩
    clear q;obtain⟨e,q⟩:=q';obtain⟨o2,na2,nb2,out2,mg2,ac2,bc2⟩:=t;cases o2 with
    |some r=>exact C8 ⟨e,r,rfl,q⟩
    |none=>exact C8 ⟨⟨e.1,e.2⟩,rfl,q⟩
theorem gP(h1:1≤a.size)(h2:1≤b.size):k6 (vL Y a b S) fun r S'=>Sm S S'/\GA Y.N r:=by
 unfold vL;refine D4 (N5 ha (sJ h1 (Qy _))) fun x S1 ⟨x1,e1⟩=>?_;subst e1;have gx:GA Y.N #[x]:=fun y hy=>by rw[show y=x by simpa using hy];exact x1
 refine D8 (fun _=>C8 ⟨Sm.refl,ER ha hb gx _ _⟩) fun hn=>D8 (fun _=>C8 ⟨Sm.refl,GD ha hb gx _ _⟩) fun hm=>?_;have hn':a.size-1≠0:=by simpa using hn
 have hm':b.size≠1:=by simpa using hm
 refine D4 (V9 (N:=a.size+b.size) (fun k (t:U5) S'=>Sm S1 S'/\t.1=none/\oU Y.N a b k t.1 t.2.1 t.2.2.1 t.2.2.2.1) (fun t S'=>Sm S1 S'/\∃r,t.1=some r/\GA Y.N r) (fun k t S2 _ ⟨e,q1,q2⟩=>?_) (a.size+b.size-0) 0 (none,a.size-1,b.size,#[x],S1.mg) S1 (Yu _) ⟨Sm.refl,rfl,gx,Ul hn',sK ..,Vr h2 (Za hm'),Qy _,Nat.add_le_add_right (sK ..) _⟩) fun t S2 p=>?_
 ·refine R9 (gO ha hb q2 q1) fun r S3 ⟨e3,p3⟩=>?_;cases r with
  |done t'=>exact⟨e.trans e3,p3⟩
  |yield t'=>exact⟨e.trans e3,p3.1,p3.2⟩
 ·rcases p with⟨e,r,q1,q2⟩|⟨e,q1,q2⟩
  ·obtain⟨o,na,nb,out,mg⟩:=t;dsimp only at q1;subst q1;exact C8 ⟨e,q2⟩
  ·obtain⟨o,na,nb,out,mg⟩:=t;dsimp only at q1;subst q1;obtain⟨_,r2,r3,r4,r5,r6⟩:=q2;exact(gF r2 r6).elim
end
def oE:List (Nat×Nat×Nat)->Nat->Nat->Prop
 |[],s,e=>s=e
 |p::r,s,e=>p.1=s/\0<p.2.1/\oE r (s+p.2.1) e
theorem oE.le:∀{l:List (Nat×Nat×Nat)}{s e:Nat},oE l s e->s≤e
 |[],s,e,h=>by cases h;exact Qy _
 |p::r,s,e,⟨_,_,t⟩=>Qn (Zs ..) (oE.le t)
theorem oE.app:∀{l:List (Nat×Nat×Nat)}{s e:Nat}{p:Nat×Nat×Nat},oE l s e->p.1=e->0<p.2.1->oE (l++[p]) s (e+p.2.1)
 |[],s,e,p,h,h1,h2=>by cases h;exact⟨h1,h2,rfl⟩
 |q::r,s,e,p,⟨a,b,t⟩,h1,h2=>⟨a,b,oE.app t h1 h2⟩
theorem oE.at2:∀{l:List (Nat×Nat×Nat)}{s e i:Nat}{p q:Nat×Nat×Nat},oE l s e->l[i]? =some p->l[i+1]? =some q->0<p.2.1/\0<q.2.1/\q.1=p.1+p.2.1/\q.1+q.2.1≤e
 |[],s,e,i,p,q,h,h1,h2=>by simp at h1
 |x::r,s,e,0,p,q,⟨a,b,t⟩,h1,h2=>by
  cases h1;cases r with
  |nil=>simp at h2
  |cons y r=>
   simp at h2;subst h2;obtain⟨c,d,t⟩:=t;have:=oE.le t;exact⟨b,d,c.trans (by rw[a]),by rw[c];exact this⟩
 |x::r,s,e,i+1,p,q,⟨a,b,t⟩,h1,h2=>oE.at2 (i:=i) t (by simpa using h1) (by simpa using h2)
theorem oE.merge:∀{l:List (Nat×Nat×Nat)}{s e i:Nat}{p q:Nat×Nat×Nat}{w:Nat},oE l s e->l[i]? =some p->l[i+1]? =some q->oE ((l.set i (p.1,p.2.1+q.2.1,w)).eraseIdx (i+1)) s e
 |[],s,e,i,p,q,w,h,h1,h2=>by simp at h1
 |x::r,s,e,0,p,q,w,⟨a,b,t⟩,h1,h2=>by
  cases h1;cases r with
  |nil=>simp at h2
  |cons y r=>
   simp at h2;subst h2;obtain⟨c,d,t⟩:=t;show oE ((x.1,x.2.1+y.2.1,w)::r) s e;exact⟨a,Ql b (Zs ..),by show oE r (s+(x.2.1+y.2.1)) e;rw[←Nat.add_assoc];exact t⟩
 |x::r,s,e,i+1,p,q,w,⟨a,b,t⟩,h1,h2=>⟨a,b,oE.merge (i:=i) t (by simpa using h1) (by simpa using h2)⟩
theorem oE.mod:∀{l:List (Nat×Nat×Nat)}{s e i:Nat}{f:Nat×Nat×Nat->Nat×Nat×Nat},(∀x,(f x).1=x.1/\(f x).2.1=x.2.1)->oE l s e->oE (l.modify i f) s e
 |[],s,e,i,f,hf,h=>by simpa using h
 |x::r,s,e,0,f,hf,⟨a,b,t⟩=>by
  show oE (f x::r) s e;refine⟨(hf x).1.trans a,by rw[(hf x).2];exact b,by rw[(hf x).2];exact t⟩
 |x::r,s,e,i+1,f,hf,⟨a,b,t⟩=>by
  show oE (x::r.modify i f) s e;exact⟨a,b,oE.mod hf t⟩
structure oV(N n:Nat)(S:PS)(e:Nat):Prop where
 sz:S.a.size=n
 ga:GA N S.a
 ch:oE S.pd.toList 0 e
 le:e≤n
theorem OP{e:Nat}{S:PS}(h:oV Y.N n S e)(hi:i+1<S.pd.size):k6 (Bl Y i S) fun r S'=>r=true/\oV Y.N n S' e:=by
 unfold Bl;have e1:S.pd[i]? =some (S.pd[i]'(Tl hi)):=Qt (Tl hi);have e2:S.pd[i+1]? =some (S.pd[i+1]'hi):=Qt hi;rw[e1,e2];have l1:S.pd.toList[i]? =some (S.pd[i]'(Tl hi)):=by simpa using e1
 have l2:S.pd.toList[i+1]? =some (S.pd[i+1]'hi):=by simpa using e2
 obtain⟨c1,c2,c3,c4⟩:=h.ch.at2 l1 l2;have mg:=fun w=>h.ch.merge (w:=w) l1 l2;generalize S.pd[i]'(Tl hi)=p at c1 c2 c3 c4 mg;generalize S.pd[i+1]'hi=q at c1 c2 c3 c4 mg;obtain⟨sa,na,pw⟩:=p;obtain⟨sb,nb,pb⟩:=q;dsimp only at c1 c2 c3 c4 mg ⊢;have hsz:=h.sz;have hle:=h.le;have R:∀{S1:PS},S1.a=S.a->S1.pd=((S.pd.setIfInBounds i (sa,na+nb,pw)).eraseIdxIfInBounds (i+1))->oV Y.N n S1 e:=fun{S1} ea ep=>by
  refine⟨by rw[ea];exact hsz,by rw[ea];exact h.ga,?_,hle⟩;rw[ep,Array.toList_eraseIdxIfInBounds,Array.toList_setIfInBounds];exact mg pw
 have hm:sb+nb≤S.a.size:=by rw[hsz];exact Qn c4 hle
 refine D4 (N5 h.ga (Ql (Nat.lt_add_of_pos_right c2) hm)) fun x S1 ⟨x1,f1⟩=>?_;subst f1;refine D4 (Cj h.ga x1 c1 (c3 ▸ Qn (Zs ..) hm)) fun k S2 ⟨k1,f2⟩=>?_;subst f2;refine D8 (fun _=>C8 ⟨rfl,R rfl rfl⟩) fun hk=>?_;have hk':na-k≠0:=by simpa using hk
 refine D4 (N5 h.ga (gG c3 c1 k1 hm)) fun y S3 ⟨y1,f3⟩=>?_;subst f3;refine D4 (Cj h.ga y1 (sJ c2 (Qy _)) hm) fun q S4 ⟨q1,f4⟩=>?_;subst f4;refine D8 (fun _=>C8 ⟨rfl,R rfl rfl⟩) fun hq=>?_;have hq':q≠0:=by simpa using hq
 have s1:1≤(S.a.extract (sa+k) sb).size:=by rw[Array.size_extract];exact gH c3 hk' hm
 have s2:1≤(S.a.extract sb (sb+q)).size:=by rw[Array.size_extract];exact gI hq' q1 hm
 have fin:∀{r:An}{S5:PS},Sm {S with pd:=(S.pd.setIfInBounds i (sa,na+nb,pw)).eraseIdxIfInBounds (i+1)} S5->GA Y.N r->oV Y.N n {S5 with a:=V8 (sa+k) r.toList.zipIdx S5.a} e:=fun{r S5} sm g=>by
  obtain⟨g1,g2⟩:=Nz (sa+k) r.toList.zipIdx S5.a (fT g) (by rw[sm.1];exact h.ga);have rr:=R (S1:=S5) sm.1 sm.2;exact⟨g2.trans (by rw[sm.1];exact hsz),g1,rr.ch,hle⟩
 refine D8 (fun _=>D4 (gA (h.ga.ext _ _) (h.ga.ext _ _) s1 s2) fun r S5 ⟨sm,g⟩=>C8 ⟨rfl,fin sm g⟩) fun _=>D4 (gP (h.ga.ext _ _) (h.ga.ext _ _) s1 s2) fun r S5 ⟨sm,g⟩=>C8 ⟨rfl,fin sm g⟩
theorem OQ{S:PS}(h:oV Y.N n S lo)(hm:0<m)(hl:lo+m≤n):k6 (Ch Y n lo m S) fun r S'=>pY (fun _ _=>False) (fun lo' S'=>oV Y.N n S' lo') r S':=by
 unfold Ch;cases hb:S.pd.back? with
 |none=>
  refine C8 ⟨h.sz,h.ga,?_,hl⟩;show oE (S.pd.push (lo,m,0)).toList 0 (lo+m);rw[Rn];exact h.ch.app rfl hm
 |some p=>
  obtain⟨s1,n1,w⟩:=p;dsimp only;refine D4 (V9 (N:=n) (fun _ _ S'=>oV Y.N n S' lo) (fun _ S'=>oV Y.N n S' lo) (fun k b S1 _ i=>?_) (n-0) 0 () S (Yu _) h) fun u S1 p=>?_
  ·unfold Fy;split
   ·rename_i older heq;refine D8 (fun _=>C8 i) fun _=>?_;split at heq
    ·rename_i h2;refine D4 (OP i (gJ h2)) fun r S2 ⟨e1,e2⟩=>?_;subst e1;exact C8 e2
    ·cases heq
   ·exact C8 i
  ·have p':oV Y.N n S1 lo:=p.elim id id;refine C8 ⟨p'.sz,p'.ga,?_,hl⟩;show oE ((S1.pd.modify _ _).push (lo,m,0)).toList 0 (lo+m);rw[Rn,Array.toList_modify];exact oE.app (p:=(lo,m,0)) (p'.ch.mod fun x=>⟨rfl,rfl⟩) rfl hm
structure pF(N:Nat)(S S':PS):Prop where
 sz:S'.a.size=S.a.size
 ga:GA N S'.a
 pd:S'.pd=S.pd
theorem pF.mir{S S':PS}(h:pF N S S')(i j:Nat):pF N S (Cg i j S'):=⟨(mirror_size _ _ _ _).trans h.sz,h.ga.perm (mirror_perm _ _ _ _),h.pd⟩
theorem OR{a:Nat}{S:PS}(k:pF Y.N S0 S)(h1:1≤a)(h2:a≤m)(hl:lo+m≤S0.a.size):k6 (uV Y lo a m S) fun r S'=>S'=S/\a≤r/\r≤m:=by
 unfold uV;refine R9 (V9 (N:=m-a) (fun k b S'=>S'=S/\b=a+k) (fun b S'=>S'=S/\a≤b/\b≤m) (fun j b S1 hj ⟨e,hb⟩=>?_) (m-a) 0 a S (Yu _) ⟨rfl,rfl⟩) fun r S' p=>?_
 ·subst e hb;have hs:lo+(a+j)<S1.a.size:=by rw[k.sz];exact GC (GB hj) hl
  refine D4 (EM k.ga hs (Io hs)) fun r S2 e2=>?_;subst e2;exact D8 (fun _=>C8 ⟨rfl,Zs ..,Zy (GB hj)⟩) fun _=>C8 ⟨rfl,rfl⟩
 ·rcases p with p|⟨e,p⟩
  ·exact p
  ·exact⟨e,by rw[p];exact Zs ..,Vv (p.trans (Ip h2))⟩
theorem OS{S:PS}(k:pF Y.N S0 S)(h1:1≤n)(h2:n≤m)(hl:lo+m≤S0.a.size):k6 (BO Y lo n m S) fun r S'=>pF Y.N S0 S'/\1≤r/\r≤m:=by
 unfold BO;refine D4 (P:=fun _ S'=>pF Y.N S0 S') (C8 (k.mir _ _)) fun _ S1 k1=>?_;refine D4 (OR k1 h1 h2 hl) fun r S2 ⟨e,r1,r2⟩=>?_;subst e;exact C8 ⟨k1,Qn h1 r1,r2⟩
theorem OT{S:PS}(k:pF Y.N S0 S)(h1:1≤n)(h2:n<m)(hl:lo+m≤S0.a.size):k6 (uW Y lo n m S) fun r S'=>pF Y.N S0 S'/\1≤r/\r≤m:=by
 unfold uW;have ds:k6 (vF Y lo (n+1) m S) fun t S'=>pF Y.N S0 S'/\n+1≤t.1/\t.1≤m:=by
  unfold vF;refine R9 (V9 (N:=m-(n+1)) (fun j (t:Nat×Nat) S'=>pF Y.N S0 S'/\t.1=n+1+j) (fun t S'=>pF Y.N S0 S'/\n+1≤t.1/\t.1≤m) (fun j t S1 hj ⟨k1,ht⟩=>?_) (m-(n+1)) 0 (n+1,0) S (Yu _) ⟨k,rfl⟩) fun t S' p=>?_
  ·have hs:lo+t.1<S1.a.size:=by rw[k1.sz,ht];exact GC (GB hj) hl
   refine D4 (EM k1.ga hs (Io hs)) fun r S2 e2=>?_;subst e2;refine D8 (fun _=>D8 (fun _=>?_) fun _=>C8 ⟨k1,Yz (· +1) ht⟩) fun _=>?_
   ·refine D4 (P:=fun _ S'=>pF Y.N S0 S') (C8 (k1.mir _ _)) fun _ S3 k3=>C8 ⟨k3,Yz (· +1) ht⟩
   ·refine D4 (EM k1.ga (Io hs) hs) fun r S3 e3=>?_;subst e3;exact D8 (fun _=>C8 ⟨k1,by rw[ht];exact Zs ..,by rw[ht];exact Zy (GB hj)⟩) fun _=>C8 ⟨k1,Yz (· +1) ht⟩
  ·rcases p with p|⟨k1,p⟩
   ·exact p
   ·exact⟨k1,by rw[p];exact Zs ..,Vv (p.trans (Ip h2))⟩
 refine D4 ds fun t S1 ⟨k1,t1,t2⟩=>?_;refine D8 (fun _=>?_) fun _=>OS k1 (Qn (Pr 1 n) t1) t2 hl;exact D4 (P:=fun _ S'=>pF Y.N S0 S') (C8 (k1.mir _ _)) fun _ S2 k2=>OS k2 (Qn (Pr 1 n) t1) t2 hl
theorem gQ{S:PS}(g:GA Y.N S.a)(h1:1≤m)(hl:lo+m≤S.a.size):k6 (Dy Y lo m S) fun r S'=>pF Y.N S S'/\1≤r/\r≤m:=by
 have k:pF Y.N S S:=⟨rfl,g,rfl⟩;unfold Dy;refine D4 (OR k (Qy _) h1 hl) fun r S1 ⟨e,r1,r2⟩=>?_;subst e;refine D8 (fun _=>C8 ⟨k,r1,r2⟩) fun hn=>?_;have hn':r≠m:=by simpa using hn
 refine D8 (fun _=>?_) fun _=>OT k r1 (Vr r2 hn') hl;refine D4 (EM g (GC h1 hl) (gK r1 r2 hl)) fun q S2 e2=>?_;subst e2;refine D8 (fun _=>C8 ⟨k,r1,r2⟩) fun _=>?_;exact D4 (P:=fun _ S'=>pF Y.N S2 S') (C8 (k.mir _ _)) fun _ S3 k3=>OT k3 r1 (Vr r2 hn') hl
theorem gR{ok:Nat}{S:PS}(g:GA Y.N S.a)(hl:lo+n≤S.a.size):k6 (EA Y lo n ok S) fun r S'=>r=true/\pF Y.N S S':=by
 unfold EA
 by_cases hn:max ok 1≤n
 ·refine D4 (fS (N:=n) (fun _ _ S'=>pF Y.N S S') (fun _ S'=>pF Y.N S S') (fun j b S1 hj k1=>?_) (n-max ok 1) (max ok 1) () S (Ip hn) ⟨rfl,g,rfl⟩) fun _ S1 p=>C8 ⟨rfl,p.elim id id⟩;have sz:=k1.sz;have pl:k6 (v9 Y lo j S1) fun _ S'=>S'=S1:=by
   unfold v9;refine R9 (V9 (N:=j) (fun _ (b:Nat×Nat) S'=>S'=S1/\b.2≤j) (fun _ S'=>S'=S1) (fun i b S2 hi ⟨e,hb⟩=>?_) (j-0) 0 (0,j) S1 (Yu _) ⟨rfl,Qy _⟩) fun _ S' p=>p.elim id fun q=>q.1;subst e;refine D8 (fun _=>C8 rfl) fun hlt=>?_;have hs:lo+j<S2.a.size:=by rw[sz];exact GC hj hl
   refine D4 (EM k1.ga hs (Vk (Nat.add_lt_add_left (OC hb hlt) lo) hs)) fun r S3 e3=>?_;subst e3;exact D8 (fun _=>C8 ⟨rfl,Zy (OC hb hlt)⟩) fun _=>C8 ⟨rfl,hb⟩
  refine D4 pl fun b S2 e=>?_;subst e;exact D4 (P:=fun _ S'=>pF Y.N S S') (C8 ⟨(bubble_size _ _ _).trans k1.sz,k1.ga.perm (bubble_perm _ _ _),k1.pd⟩) fun _ S3 k3=>C8 k3
 ·have e:n-max ok 1=0:=by omega
  rw[e];exact C8 ⟨rfl,rfl,g,rfl⟩
theorem gU{S:PS}(h:oV Y.N n S 0):k6 (EE Y S) fun _ S'=>S'.a.size=n/\GA Y.N S'.a:=by
 unfold EE;have hz:=h.sz;rw[hz];refine D4 (V9 (N:=n) (fun _ lo S'=>oV Y.N n S' lo) (fun lo S'=>oV Y.N n S' lo) (fun k lo S1 _ i=>?_) (n-0) 0 0 S (Yu _) h) fun lo S1 p=>?_
 ·unfold Ik;refine D8 (fun _=>C8 i) fun hlt=>?_;have sz:=i.sz;have hlo:=Nat.lt_of_not_le hlt;have hmr:lo+min (n-lo) (minRun' n n 0)≤n:=Qn (Vb (Nat.min_le_left ..) _) (vN (Zy hlo));refine D4 (gQ i.ga (wC hlo) (by rw[sz];exact vN (Zy hlo))) fun r S2 ⟨k2,r1,r2⟩=>?_;have i2:oV Y.N n S2 lo:=⟨k2.sz.trans sz,k2.ga,by rw[k2.pd];exact i.ch,i.le⟩;have st:∀{r:ForInStep Nat}{S':PS},pY (fun _ _=>False) (fun lo' S'=>oV Y.N n S' lo') r S'->pY (fun lo S'=>oV Y.N n S' lo) (fun lo S'=>oV Y.N n S' lo) r S':=fun{r S'} h=>by
   cases r with
   |done _=>exact h.elim
   |yield _=>exact h
  refine D8 (fun hr=>?_) fun _=>R9 (OQ i2 r1 (Qn (Vb r2 _) (vN (Zy hlo)))) fun _ _ q=>st q;refine D4 (gR k2.ga (by rw[i2.sz];exact hmr)) fun q S3 ⟨e,k3⟩=>?_;subst e;have i3:oV Y.N n S3 lo:=⟨k3.sz.trans i2.sz,k3.ga,by rw[k3.pd];exact i2.ch,i.le⟩;exact R9 (OQ i3 (Nat.lt_min.mpr ⟨wC hlo,Vm (Yt _) hr⟩) hmr) fun _ _ q=>st q
 ·have p':oV Y.N n S1 lo:=p.elim id id;refine D4 (V9 (N:=n) (fun _ _ S'=>oV Y.N n S' lo) (fun _ S'=>oV Y.N n S' lo) (fun k b S2 _ i=>?_) (n-0) 0 () S1 (Yu _) p') fun _ S2 q=>?_
  ·unfold Il;refine D8 (fun _=>C8 i) fun hs=>?_;have key:∀j,j+1<S2.pd.size->k6 ((Bl Y j S2).bind fun p=>if(!p.1)=true then none else some (ForInStep.yield (),p.2)) (pY (fun _ S'=>oV Y.N n S' lo) fun _ S'=>oV Y.N n S' lo):=fun j hj=>D4 (OP i hj) fun r S3 ⟨e1,e2⟩=>by
    subst e1;exact C8 e2
   refine key _ ?_;have hs':¬ S2.pd.size≤1:=by simpa using hs
   generalize hz:S2.pd.size=z at hs' ⊢
   by_cases h2:z-2>0
   ·rw[Qg h2];split
    ·omega
    ·omega
   ·rw[Qb h2,Qb (show ¬ (Option.any (fun x=>decide (x<(S2.pd[z-2+1]?.elim 0 fun x=>x.2.1))) none)=true from fun h=>by cases h)];omega
  ·have q':oV Y.N n S2 lo:=q.elim id id;exact C8 ⟨q'.sz,q'.ga⟩
theorem gW(n:Nat)(lt:Nat->Nat->Bool):∃p,EH n lt=some p/\p.toList.length=n/\∀x∈p.toList,x<n:=by
 have h:oV n n ⟨(List.range n).toArray,#[],7⟩ 0:=⟨by simp,fun x hx=>by simpa using hx,rfl,Yt _⟩;obtain⟨r,S',e,h1,h2⟩:=gU (Y:=⟨n,lt⟩) h;unfold EH;rw[e];exact⟨S'.a,Qg h1,by rw[Yq];exact h1,fun x hx=>h2 x (by simpa using hx)⟩
def GF:bb->Option bb
 |[.lst ds]=>(i9 ds).bind fun ns=>if ns.length<64 then some ((K9 ns).map .int)else none
 |_=>none
theorem gX:CB X B (ML X) GF:=by
 intro G σ env H xs ds c Q rl r e k;unfold GF at e;split at e
 ·obtain⟨x,rfl,q⟩:=U0 r;simp only[b0]at q;obtain⟨a,ys,rfl,h1,h2⟩:=q;obtain⟨ns,en,e⟩:=B9 e;split at e
  ·rename_i h64;cases e;have hx:=AZ h2 en;subst hx;exact⟨a,ns,rfl,rl.sub.sqL h1,h64,fun l hl=>k l _ G H (.refl rl) hl (DW _)⟩
  ·cases e
 ·cases e
end L2.Mir
namespace K33
open PySem L2 L2.Mir
variable{a i j k v:Int}{b:Bool}{d:D}{ds xs ys:bb}{e:a9}{fd:FuncData}{m ma mb:Mo D}{n:Nat}
def top(i:Nat):Stmt:=PySem.Challenge.pw_turnsigns_k33_triangles_by_last_rows.main.body.getD i (.Pass ⟨0,0,0,0⟩)
abbrev Iq:Stmt:=top 16
abbrev Ir:Stmt:=top 17
abbrev Iu:Stmt:=top 18
abbrev Iv:Stmt:=top 23
abbrev GG:Stmt:=top 24
abbrev Iw:Stmt:=top 25
abbrev Iy:Stmt:=top 26
abbrev GH:Stmt:=top 27
abbrev GI:Stmt:=top 28
abbrev Iz:Stmt:=top 30
abbrev JA:Stmt:=top 31
abbrev JB:Stmt:=top 32
abbrev JC:Stmt:=top 33
abbrev JD:Stmt:=top 35
abbrev JE:Stmt:=top 37
abbrev JF:Stmt:=top 38
abbrev JG:Stmt:=top 39
abbrev JH:Stmt:=top 40
abbrev JI:Stmt:=top 41
abbrev JJ:Stmt:=top 42
abbrev JK:Stmt:=top 43
abbrev Ck:Stmt:=top 44
abbrev xN:ar:=["NoTable","NoHeights","NoNet","NoPlace","NoTriangle","NoRow","NoNumber","NoTurn","NotAlike","NoStep","NoRows","TooMany","BadNote"]
structure Txt(K:Qj)(mg:OI):Prop where
 ex:AA K "SignError" xN=true
 g_isinstance:mg "isinstance"=none
 g_int:mg "int"=none
 g_bool:mg "bool"=none
 tW:mg "all"=none
 g_tuple:mg "tuple"=none
 g_len:mg "len"=none
 g_range:mg "range"=none
 g_sum:mg "sum"=none
 g_sorted:mg "sorted"=none
 g_ValueError:mg "ValueError"=none
 g_list:mg "list"=none
 g_zip:mg "zip"=none
 g_set:mg "set"=none
 g_min:mg "min"=none
 g_max:mg "max"=none
 c_GREATEST_COLUMN:∃t,mg "GREATEST_COLUMN"=some (.int 8 t)
 c_MOST_ROWS:∃t,mg "MOST_ROWS"=some (.int 6 t)
 c_MOST_TOLD:∃t,mg "MOST_TOLD"=some (.int 4 t)
section
variable{P:af}{w:ag}{K:Qj}{mg:OI}{base:Heap}
set_option hygiene false
local macro_rules
 | `(tactic| k_units)=>`(tactic| first | fail_if_success (show (_:Prop)) | ((with_reducible show PE _ _ (T0 _));exact pv _) | ((with_reducible show PE _ _ (tC _));exact Lo) | with_reducible (first | show PE _ _ _ | show PA _ _ _ | show PS _ _ _ | show o8 _ _ _ | show PT _ _ _ | show PG _ _ _ | show PI _ _ _ _ | show U2 _ _ _ | show PW _ _ _ | show PO _ _ _ | show tL _ _ _ | show J3 _ _ _ | show m5 _ _ _ | show uT _ _ _ _ _ _ _ _ _ _ | show PJ _ _ _ _ | show bT _ _ _ | show bU _ _ _ | show vB _ _ _ _ _ | show zY _ _ _ _ _ | show zZ _ _ _ _ _ | show uI _ _ _ _ _ | show BD _ _ _ _ _ | assumption | exact PassesOwn.never | exact PySem.boot_len | exact YG | exact YF | exact YE | exact MD | exact YH | exact YI | exact ME | exact MR | exact MC | exact Go | exact J4 | exact Ex | exact Ho | exact Gv | exact Wr | exact Wu | exact WT | exact Ws | exact Wt | exact YN | exact WU | exact WV | exact gX | exact fR | exact hr.units | exact Wq | exact Wo | exact Wn | exact Wm | exact MB | exact XA | exact WI | exact uF | exact WO | exact WN | exact Wx | exact ZG | exact WM | exact WL | exact WJ | exact WH | exact WK | exact WE | exact Lo | exact YT | exact ZT) | exact FR rfl | exact MF rfl | assumption | exact yD rfl | exact zW rfl rfl | exact Or.inl rfl | exact Or.inr rfl | exact hr.mono (by decide) | exact hr.mono (Nat.le_refl _) | rfl | exact (k8.cons (pv 8) (k8.cons (pv 5) k8.nil)) | exact (DU rfl) | exact (Kn rfl) | exact (Ko rfl) | exact (Im hr.units) | exact (Hr rfl) | exact (YD rfl rfl) | exact (aN (by assumption) (by rfl')) | exact (uA _) | exact g9.units (by assumption) | exact MB | exact g9.mono (by assumption) (by decide) | exact g9.mono (by assumption) (by omega) | exact fun _ _=>rfl | exact fun _=>rfl | exact fun _ _ _ _=>rfl | (intro _;rfl) | decide | with_unfolding_all rfl | rfl')
local macro_rules
 | `(tactic| k_types)=>`(tactic| ((with_reducible show m5 _ _ _);first | exact (r9 hr.units) | exact (r9 (g9.units (by assumption))) | exact (sA hr.units) | exact (sA (g9.units (by assumption))) | exact Wz | exact UI | exact UP | exact UO | exact UQ | exact UN | exact UM | exact UJ | exact UH | exact VQ | exact UK | exact UG))
local macro_rules
 | `(tactic| exists $t)=>`(tactic| (((intros;refine' $t) <;> try k_units) <;> try k_types))
local macro_rules
 | `(tactic| injections $xs*)=>do
  let mut r ← `(tactic| skip)
  let w:=("A B3 C3 B D5 B3 C D3 F8 D B7 A E B7 C4 F G7 J4 G B E6 H D2 J9 I D2 J6 J Q3 B3 K N7 P0 L B3 C4 M O6 B7 N D2 N8 O F D P F9 U3 Q C3 F9 R F6 G S P8 J8 T B3 B7 U B7 J5 V R1 B3 W CS PA.nox X D2 Z6 Y Z4 AS Z T9 B3 a J5 M b M6 D c E C3 d B7 E9 e Bg PS.nox f F6 D5 g Am C4 h F6 Al i Ay B3 j V4 T k B3 B3 l C S m D5 C4 n F9 D3 o D3 J6 p E9 E9 q Fb PT.nox r Fd PA.nox s F6 B t D3 CG u M6 C3 v E B7 w N6 B3 x E9 C4 y C AU z J AR Aa O BB Ab C3 N Ac O C4 Ae N7 DL Af Ae C4 Ag D3 J9 Ah B7 DI Ai DP F9 Aj D3 DO Ak DV B3 An DK C4 Ao Aw Ax".splitOn " ").map String.toName
  let m:=(List.range 64).foldl (fun m i=>m.insert w[3*i]! [w[3*i+1]!,w[3*i+2]!]) ({}:Lean.NameMap (List Lean.Name))
  let mut ns:List Lean.Name:=(xs.map fun x=>x.raw.getId).toList
  for _ in [0:4] do ns:=ns.flatMap fun n=>(m.find? n).getD [n]
  for n in ns do
   let t:Lean.TSyntax `term:=⟨(Lean.mkIdent n).raw⟩
   let h ← `(?_)
   let hs:Array (Lean.TSyntax `term):=Array.replicate (if [`Go,`J4,`Ex,`Ho,`Gv,`E6,`P8,`Lz,`C4,`DH,`C3,`HK,`U3,`Aw,`CG,`J8,`Fa,`Bg].contains n then 0 else if [`PA.nox,`PS.nox,`PT.nox,`B3,`DK,`HD,`J5,`BW,`DI,`M6,`IZ,`R1,`Lj,`O6,`Ax,`D3,`F8,`DO,`Bi,`N7,`Z4,`LQ,`AR].contains n then 1 else if [`CV,`AU,`Ln,`DV,`D2,`DY,`Hu,`P0,`LR,`AS].contains n then 2 else if [`D5,`Al,`Fs,`BB,`T9,`Ay,`B7,`HM,`DP,`NY,`J9,`Ad,`Fb].contains n then 3 else if [`E9,`Ib,`Am,`Mj,`HL,`Ie,`BX].contains n then 4 else if [`AQ,`F9,`AW,`Lw,`DQ,`Ia,`N6].contains n then 5 else if [`N8,`J6,`Z6].contains n then 6 else if [`Fi,`F6,`My,`Mh,`MZ,`MU,`Nh,`CO,`BH].contains n then 7 else if [`HE,`Ic,`V4,`Mi,`CS,`MT,`FH,`MV,`Fd,`DL].contains n then 8 else if [`Np].contains n then 9 else if [`G7,`HH,`Q3,`FG,`HI].contains n then 10 else if [`NH,`Di].contains n then 11 else if [`MO].contains n then 16 else 19) h
   r ← if hs.isEmpty then `(tactic| ($r:tactic;(intros;exact $t))) else `(tactic| ($r:tactic;((intros;refine' $t $hs*) <;> try k_units) <;> try k_types))
  return r
set_option hygiene true
theorem gY:c8 ["thing"] ["thing"] (E5 Iq):=L9
def gZ:Mo Fl:=(E1 (X0 (pB "int" (A0 0)) (FF (pB "bool" (A0 0)))))
def AG:Fn:=nP 1 gZ
theorem hG{f:ah}(F:nJ K "is_whole" "is_whole" Iq f fd)(T:Txt K mg):i4 P w K mg base mZ 1 f fd ["thing"] (nY K 1 AG):=
 M8 F gY fun cdv A outer s H E hr=>(by cases T;injections y J BW HD J)
theorem hJ:c8 ["thing","least","greatest"] ["thing","least","greatest"] (E5 Ir):=L9
def JL:Mo Fl:=(E1 (X0 (i7 1 AG (B8 (A0 0) C5)) (Q8 oZ oZ (A0 1) (A0 0) (A0 2))))
def EU:Fn:=nP 3 JL
theorem hW{f:ah}(F:nJ K "is_within" "is_within" Ir f fd)(T:Txt K mg)(nF:Def P w K mg base "is_whole" 1 1 AG):i4 P w K mg base mZ 2 f fd ["thing","least","greatest"] (nY K 3 EU):=
 M8 F hJ fun cdv A outer s H E hr=>(by cases T;injections y R BW HE k B3)
theorem iA:c8 ["thing","width"] ["thing","width"] (E5 Iu):=L9
theorem nd1:(["-0","-1","number"]:ar).Nodup:=by rfl'
def JM:Mo Fl:=(C1 (E2 (O5 (F5 (mT (pB "tuple" (A0 0)))) (mT (B5 (nW true) (j1 F2 (B0 (A0 0) B6)) (A0 1)))) (E1 (mC (.bl false))) m8) (E1 (j1 Av (B0 (mF (N1 (G8 (A0 0)) [false,false] 1 (gN 2) F7 (i7 1 AG (B8 (A0 2) C5)))) B6))))
def Bm:Fn:=nP 2 JM
theorem iB{f:ah}(F:nJ K "is_row" "is_row" Iu f fd)(T:Txt K mg)(nF:Def P w K mg base "is_whole" 1 1 AG):i4 P w K mg base mZ 2 f fd ["thing","width"] (nY K 2 Bm):=
 M8 F iA fun cdv A outer s H E hr=>(by have n0:=nd1;cases T;injections H Y K z N6 O B3 l C G7;exists (DU rfl);injections U;exists (BH (N':=["-0","-1","number"]) (keep:=[false,false]) (more:=1) ?_ ?_ ?_ ?_ ?_ ?_ ?_);injections V P R C3)
theorem iC:c8 ["thing","width"] ["thing","width"] (E5 Iv):=L9
theorem xF:(["thing","-1","at"]:ar).Nodup:=by rfl'
theorem nd3:(["-0","-1","column"]:ar).Nodup:=by rfl'
def JN:Mo Fl:=(C1 (E2 (F5 (mT (i7 2 Bm (B8 (A0 0) (B8 (A0 1) C5))))) (E1 (mC (.bl false))) m8) (C1 (E2 (F5 (mT (j1 Av (B0 (mF (N1 (G8 (A0 0)) [false,false] 1 (gN 2) F7 (i7 3 EU (B8 (A0 2) (B8 (mC (.int 1)) (B8 (mC (.int 8)) C5)))))) B6)))) (E1 (mC (.bl false))) m8) (E1 (j1 Av (B0 (mF (N1 (Q1 (B0 (mC (.int 1)) (B0 (A0 1) B6))) [true,false] 1 (gN 2) F7 (B5 vU (B5 oI (A0 0) (B5 Y2 (A0 2) (mC (.int 1)))) (B5 oI (A0 0) (A0 2))))) B6)))))
def Cm:Fn:=nP 2 JN
theorem iD{f:ah}(F:nJ K "is_triangle_row" "is_triangle_row" Iv f fd)(T:Txt K mg)(qC:Def P w K mg base "is_row" 2 2 Bm)(oJ:Def P w K mg base "is_within" 2 3 EU):i4 P w K mg base mZ 3 f fd ["thing","width"] (nY K 2 Cm):=
 M8 F iC fun cdv A outer s H E hr=>(by have n0:=xF;have n1:=nd3;cases T;injections H K s G l H K G7;exists (DU rfl);injections U;exists (BH (N':=["-0","-1","column"]) (keep:=[false,false]) (more:=1) ?_ ?_ ?_ ?_ ?_ ?_ ?_);injections V P s m D5 BB E6 C3 l C G7;exists (DU rfl);injections U;exists (BH (N':=["thing","-1","at"]) (keep:=[true,false]) (more:=1) ?_ ?_ ?_ ?_ ?_ ?_ ?_);injections AW E D P AQ Z E9 L Z A)
theorem OV:c8 ["thing"] ["thing"] (E5 GG):=L9
def JO:Mo Fl:=(C1 (E2 (O5 (F5 (mT (pB "tuple" (A0 0)))) (F5 (mT (Q8 oZ oZ (mC (.int 1)) (j1 F2 (B0 (A0 0) B6)) (mC (.int 6)))))) CF m8) (E2 (F5 (mT (i7 2 Cm (B8 (A0 0) (B8 (j1 F2 (B0 (A0 0) B6)) C5))))) CF m8))
def AH:Fn:=nP 1 JO
theorem iE{f:ah}(F:nJ K "must_be_last_row" "must_be_last_row" GG f fd)(T:Txt K mg)(i8:Def P w K mg base "is_triangle_row" 3 2 Cm):i4 P w K mg base mZ 4 f fd ["thing"] (nY K 1 AH):=
 M8 F OV fun cdv A outer s H E hr=>(by cases T;injections H Y K z Af Aa t J8 Ag K s D5 O E6 t J8)
def EV:Mx:=(V1 (tP (O5 (F5 (mT (pB "tuple" (A0 0)))) (F5 (mT (Q8 oZ oZ (mC (.int 1)) (j1 F2 (B0 (A0 0) B6)) (mC (.int 6)))))) (Fc "NoRow" (B0 (mC (.str "a last row is a tuple of one to six numbers")) B6)) sF) (E2 (O5 (F5 (mT (pB "tuple" (A0 0)))) (F5 (mT (Q8 oZ oZ (mC (.int 1)) (j1 F2 (B0 (A0 0) B6)) (mC (.int 6)))))) CF m8) (tP (F5 (mT (i7 2 Cm (B8 (A0 0) (B8 (j1 F2 (B0 (A0 0) B6)) C5))))) (Fc "NoRow" (B0 (mC (.str "a last row has whole numbers from 1 to 8 that rise")) B6)) sF))
def Bn:bf->Option Str:=v7 1 EV
theorem iF{f:ah}(F:nJ K "must_be_last_row" "must_be_last_row" GG f fd)(T:Txt K mg)(i8:Def P w K mg base "is_triangle_row" 3 2 Cm):i4 P w K mg base (pD P w) 4 f fd ["thing"] (uJ K 1 Bn):=
 Hv F OV fun cdv A outer s H E hr=>(by cases T;injections Ad q Y K z Af Aa Bi r Ah C3 Fa PS.nox J9 Y K z Af Aa t J8 Bi q K s D5 O E6 Bi r Ah C3 Fa)
theorem OW:c8 ["row","rows","at"] ["row"] (E5 Iw):=L9
theorem nd4:(["row","-1","at","begun","column"]:ar).Nodup:=by rfl'
def iG:Mo Fl:=(C1 (E3 1 (mF (K3 (B0 (G9 B6) B6)))) (C1 (J1 (Q1 (B0 (mC (.int 1)) (B0 (j1 F2 (B0 (A0 0) B6)) B6))) (gN 2) (K8 1 (V5 (G8 (A0 1)) [true,false,true] 2 (gN 3) F7 (sQ (Q1 (B0 (B5 oI (A0 0) (B5 Y2 (A0 2) (mC (.int 1)))) (B0 (B5 E7 (B5 oI (A0 0) (A0 2)) (mC (.int 1))) B6))) (gN 4) (mT (B5 (yB true) (A0 4) (A0 3))) (L8 (B5 E7 (A0 3) (G9 (B0 (A0 4) B6)))))))) (E1 (A0 1))))
def W5:Fn:=nP 3 iG
theorem iH{f:ah}(F:nJ K "rows_over" "rows_over" Iw f fd)(T:Txt K mg):i4 P w K mg base mZ 1 f fd ["row"] (nY K 1 W5):=
 M8 F OW fun cdv A outer s H E hr=>(by have n0:=nd4;have n1:=OW.nd;cases T;injections I a u Ab AW v O Q D3;exists (Di (N':=["row","-1","at","begun","column"]) (keep:=[true,false,true]) (more:=2) ?_ ?_ ?_ ?_ ?_ ?_ ?_ ?_ ?_ ?_ ?_);injections V P Fi AW B7 Z E9 L d Z L Q Lj N6 k CV E9 B3 b C B3)
theorem OY:c8 ["counts","over","row","many","upper"] ["counts"] (E5 Iy):=L9
def JP:Mo Fl:=(C1 (Fq 1) (C1 (J1 (NX (A0 0)) (gT 2 (qF (gN 2) (qF (gN 3) sY))) (J1 (G8 (i7 1 W5 (B8 (A0 2) C5))) (gN 4) (R0 (B5 E7 (AD 1 (A0 4) (mC (.int 0))) (A0 3)) (sS 1 (A0 4))))) (E1 (A0 1))))
def Bo:Fn:=nP 5 JP
theorem iI{f:ah}(F:nJ K "counted_over" "counted_over" Iy f fd)(T:Txt K mg)(j2:Def P w K mg base "rows_over" 1 1 W5):i4 P w K mg base mZ 2 f fd ["counts"] (nY K 1 Bo):=
 M8 F OY fun cdv A outer s H E hr=>(by have n0:=OY.nd;cases T;injections D2 Ia N NY B3 HL Ai Ai HK D3 N8 R1 R n DQ E9 Ic B7 B3 c B3 Ie B3 C B3)
theorem GJ:c8 ["row","counts","level"] ["row"] (E5 GH):=L9
def JQ:Mo Fl:=(C1 (Be (i7 1 AH (B8 (A0 0) C5))) (C1 (E3 1 (CZ (A0 0) (mC (.int 1)))) (C1 (J1 (Q1 (B0 (mC (.int 1)) (B0 (j1 F2 (B0 (A0 0) B6)) B6))) (gN 2) (E3 1 (i7 1 Bo (B8 (A0 1) C5)))) (E1 (Ng (A0 1))))))
def Y0:Fn:=nP 3 JQ
theorem iJ{f:ah}(F:nJ K "many_triangles" "many_triangles" GH f fd)(T:Txt K mg)(d8:Def P w K mg base "must_be_last_row" 4 1 AH)(j5:Def P w K mg base "counted_over" 2 1 Bo):i4 P w K mg base mZ 5 f fd ["row"] (nY K 1 Y0):=
 M8 F GJ fun cdv A outer s H E hr=>(by have n0:=GJ.nd;cases T;injections D2 DY R I Fs L N AW v O Q o R C Nh B3)
def JR:Mx:=(V1 (V2 1 Bn (B8 (A0 0) C5)) (Be (i7 1 AH (B8 (A0 0) C5))) (V1 sF (E3 1 (CZ (A0 0) (mC (.int 1)))) (V1 sF (J1 (Q1 (B0 (mC (.int 1)) (B0 (j1 F2 (B0 (A0 0) B6)) B6))) (gN 2) (E3 1 (i7 1 Bo (B8 (A0 1) C5)))) sF)))
def Cn:bf->Option Str:=v7 3 JR
theorem iK{f:ah}(F:nJ K "many_triangles" "many_triangles" GH f fd)(T:Txt K mg)(d8:Def P w K mg base "must_be_last_row" 4 1 AH)(j5:Def P w K mg base "counted_over" 2 1 Bo)(i5:qL P w K mg base "must_be_last_row" 4 1 Bn):i4 P w K mg base (pD P w) 5 f fd ["row"] (uJ K 1 Cn):=
 Hv F GJ fun cdv A outer s H E hr=>(by have n0:=GJ.nd;cases T;injections Ad Hu W G PS.nox DY R Ad e J6 Fs L Ad e N8 AW v O Q o R Bi Bg)
theorem GK:c8 ["row","begun","level"] ["row"] (E5 GI):=L9
theorem nd5:(["-0","-1","-2","lower","upper"]:ar).Nodup:=by rfl'
def JS:Mo Fl:=(C1 (Be (i7 1 AH (B8 (A0 0) C5))) (C1 (E2 (mT (B5 rY (j1 F2 (B0 (A0 0) B6)) (mC (.int 4)))) CF m8) (C1 (E3 1 (mF (K3 (B0 (G9 (B0 (A0 0) B6)) B6)))) (C1 (J1 (Q1 (B0 (mC (.int 1)) (B0 (j1 F2 (B0 (A0 0) B6)) B6))) (gN 2) (K8 1 (V5 (G8 (A0 1)) [false,false,false] 2 (gN 3) F7 (sQ (G8 (i7 1 W5 (B8 (B5 oI (A0 3) (mC (.int 0))) C5))) (gN 4) F7 (L8 (B5 E7 (G9 (B0 (A0 4) B6)) (A0 3))))))) (AV (rE Ci (B0 (A0 1) B6)))))))
def W6:Fn:=nP 3 JS
theorem iL{f:ah}(F:nJ K "all_triangles" "all_triangles" GI f fd)(T:Txt K mg)(d8:Def P w K mg base "must_be_last_row" 4 1 AH)(j2:Def P w K mg base "rows_over" 1 1 W5):i4 P w K mg base mZ 5 f fd ["row"] (nY K 1 W6):=
 M8 F GK fun cdv A outer s H E hr=>(by have n0:=nd5;have n1:=GK.nd;cases T;injections D2 DY R H N6 Aa t J8 I a b Ab AW v O Q D3;exists (Di (N':=["-0","-1","-2","lower","upper"]) (keep:=[false,false,false]) (more:=2) ?_ ?_ ?_ ?_ ?_ ?_ ?_ ?_ ?_ ?_ ?_);injections V P Fi R1 f T9 L E6 P CV E9 b B3 Aj FG;exists (Im hr.units);injections D)
theorem nd6:(["-0","-1","-2","lower","upper"]:ar).Nodup:=by rfl'
def EX:Mx:=(V1 (V2 1 Bn (B8 (A0 0) C5)) (Be (i7 1 AH (B8 (A0 0) C5))) (V1 (tP (mT (B5 rY (j1 F2 (B0 (A0 0) B6)) (mC (.int 4)))) (Fc "TooMany" (B0 (mC (.str "triangles are told of last rows of at most four numbers")) B6)) sF) (E2 (mT (B5 rY (j1 F2 (B0 (A0 0) B6)) (mC (.int 4)))) CF m8) (V1 sF (E3 1 (mF (K3 (B0 (G9 (B0 (A0 0) B6)) B6)))) (V1 sF (J1 (Q1 (B0 (mC (.int 1)) (B0 (j1 F2 (B0 (A0 0) B6)) B6))) (gN 2) (K8 1 (V5 (G8 (A0 1)) [false,false,false] 2 (gN 3) F7 (sQ (G8 (i7 1 W5 (B8 (B5 oI (A0 3) (mC (.int 0))) C5))) (gN 4) F7 (L8 (B5 E7 (G9 (B0 (A0 4) B6)) (A0 3))))))) sF))))
def AI:bf->Option Str:=v7 3 EX
theorem iM{f:ah}(F:nJ K "all_triangles" "all_triangles" GI f fd)(T:Txt K mg)(d8:Def P w K mg base "must_be_last_row" 4 1 AH)(j2:Def P w K mg base "rows_over" 1 1 W5)(i5:qL P w K mg base "must_be_last_row" 4 1 Bn):i4 P w K mg base (pD P w) 5 f fd ["row"] (uJ K 1 AI):=
 Hv F GK fun cdv A outer s H E hr=>(by have n0:=nd6;have n1:=GK.nd;cases T;injections Ad Hu W G PS.nox DY R Ad q N6 Aa Bi r Ah C3 Fa PS.nox J9 N6 Aa t J8 Ad e J6 a b C3 Ad e N8 AW v O Q D3;exists (Di (N':=["-0","-1","-2","lower","upper"]) (keep:=[false,false,false]) (more:=2) ?_ ?_ ?_ ?_ ?_ ?_ ?_ ?_ ?_ ?_ ?_);injections V P Fi R1 f T9 L E6 P CV E9 b B3 Bi Bg)
theorem iN:c8 ["_law_script","_law_k"] ["_law_script","_law_k"] (E5 Iz):=L9
def EY:Mo Fl:=(C1 (E2 (mT (B5 vU (A0 1) (j1 F2 (B0 (A0 0) B6)))) (E1 (B5 oI (A0 0) (A0 1))) m8) (E1 (mC (.int 0))))
def EZ:Fn:=nP 2 EY
theorem iO{f:ah}(F:nJ K "_law_cell_at" "_law_cell_at" Iz f fd)(T:Txt K mg):i4 P w K mg base mZ 1 f fd ["_law_script","_law_k"] (nY K 2 EZ):=
 M8 F iN fun cdv A outer s H E hr=>(by cases T;injections H w O C Z B3 J8 C C4)
theorem OZ:c8 ["_law_script","_law_k","_law_cell"] ["_law_script","_law_k"] (E5 JA):=L9
def Ea:Mo Fl:=(C1 (E3 2 (i7 2 EZ (B8 (A0 0) (B8 (A0 1) C5)))) (C1 (E2 (mT (B5 wW (A0 2) (B5 Y3 (mC (.int 10)) (mC (.int 18))))) (AV (K3 (B0 (B5 Y2 (A0 2) (B5 Y3 (mC (.int 10)) (mC (.int 18)))) (B0 (mC (.bl true)) B6)))) m8) (AV (K3 (B0 (B5 W2 (A0 2) (mC (.int 2147483647))) (B0 (mC (.bl false)) B6))))))
def Eb:Fn:=nP 3 Ea
theorem iP{f:ah}(F:nJ K "_law_state" "_law_state" JA f fd)(T:Txt K mg)(nM:Def P w K mg base "_law_cell_at" 1 2 EZ):i4 P w K mg base mZ 2 f fd ["_law_script","_law_k"] (nY K 2 Eb):=
 M8 F OZ fun cdv A outer s H E hr=>(by have n0:=OZ.nd;cases T;injections I s G H w x C4 Aj M E9 B3 x C4 B7 P8 C3 J8 Aj M E9 L B7 P8 C3)
theorem Oa:c8 ["_law_state_here","_law_many_here","_law_mixed","_law_found"] ["_law_state_here","_law_many_here"] (E5 JB):=L9
def Ec:Mo Fl:=(C1 (E2 (mT (P9 0 (mC (.int 1)))) (C1 (E3 3 (B5 W2 (P9 0 (mC (.int 0))) (A0 1))) (C1 (R0 (B5 DJ (P9 0 (mC (.int 0))) (A0 1)) (gS 0 (mC (.int 0)))) (E1 (A0 3)))) m8) (C1 (R0 (B5 W2 (B5 E7 (B5 T8 (P9 0 (mC (.int 0))) (mC (.int 48271))) (mC (.int 29))) (mC (.int 2147483647))) (gS 0 (mC (.int 0)))) (C1 (E3 2 (B5 W2 (B5 E7 (B5 E7 (B5 T8 (P9 0 (mC (.int 0))) (P9 0 (mC (.int 0)))) (B5 T8 (mC (.int 39373)) (P9 0 (mC (.int 0))))) (mC (.int 7))) (mC (.int 2147483629)))) (C1 (E3 2 (B5 W2 (B5 E7 (B5 T8 (A0 2) (A0 2)) (B5 T8 (mC (.int 16807)) (A0 2))) (mC (.int 2147483587)))) (E1 (B5 W2 (B5 DJ (A0 2) (mC (.int 8))) (A0 1)))))))
def Y1:Fn:=nP 4 Ec
theorem iQ{f:ah}(F:nJ K "_law_take" "_law_take" JB f fd)(T:Txt K mg):i4 P w K mg base mZ 1 f fd ["_law_state_here","_law_many_here"] (nY K 2 Y1):=
 M8 F Oa fun cdv A outer s H E hr=>(by have n0:=Oa.nd;cases T;injections H P0 g I E9 g B3 D2 DQ E9 g B3 HM C4 C B3 J8 D2 DQ p E9 g C4 C4 C4 HM C4 I p p g g x g C4 C4 I p E9 k x L C p L B3)
theorem JT:c8 ["_law_call","_law_error","e","_law_sorts"] ["_law_call"] (E5 JC):=L9
theorem nd7:(["-0","-1","-2","-3","_law_one"]:ar).Nodup:=by rfl'
def iR:Mo Fl:=(C1 (E2 (mT (B5 Hw (A0 1) (mC .non))) (E1 (mC .non)) m8) (C1 (K8 3 (K3 (B0 (V3 xN "NoTable" (A0 1)) (B0 (V3 xN "NoHeights" (A0 1)) (B0 (V3 xN "NoNet" (A0 1)) B6))))) (C1 (K8 3 (Bc (A0 3) (mF (K3 (B0 (V3 xN "NoPlace" (A0 1)) (B0 (V3 xN "NoTriangle" (A0 1)) (B0 (V3 xN "NoRow" (A0 1)) B6))))))) (C1 (K8 3 (Bc (A0 3) (mF (K3 (B0 (V3 xN "NoNumber" (A0 1)) (B0 (V3 xN "NoTurn" (A0 1)) (B0 (V3 xN "NotAlike" (A0 1)) B6))))))) (C1 (K8 3 (Bc (A0 3) (mF (K3 (B0 (V3 xN "NoStep" (A0 1)) (B0 (V3 xN "NoRows" (A0 1)) (B0 (V3 xN "TooMany" (A0 1)) B6))))))) (C1 (Ao 3 (V3 xN "BadNote" (A0 1))) (C1 (E2 (O5 (F5 (mT (MY xN (A0 1)))) (mT (B5 (nW true) (j1 Dc (B0 (mF (N1 (G8 (A0 3)) [false,false,false,false] 1 (gN 4) F7 (j1 Hc (B0 (A0 4) B6)))) B6)) (mC (.int 1))))) (E1 (Ak (mC (.int 1)))) m8) (E1 (B5 IE (A0 3) (mC (.bl true)))))))))))
def iS(o:Option Str):Mo Fl:=C1 (E3 1 (mC .non)) (C1 (Hy xN 2 1 o) iR)
def W7:Option Str->Option D:=IB 4 iS
theorem iT{f:ah}(F:nJ K "_law_refused" "_law_refused" JC f fd)(T:Txt K mg)(hmg:mg "_law_refused"=some (.ref f))(hbd:Q7 K fd ["_law_call"] []):pS P w K mg base "_law_refused" 7 6 W7:=
 aG F JT hmg hbd (by decide) fun cdv A outer s H E fl o G hr fn clo=>ZR (i0:=0) (i:=2) (j:=1) rfl rfl rfl T.ex JT.nd rfl (Or.inl rfl) rfl rfl rfl rfl (by decide) rfl fn clo (by have n0:=nd7;have n1:=JT.nd;cases T;injections H w DH C DH J8 X M j j V4 A X Ak a j j V4 A X Ak a j j V4 A X Ak a j j V4 A D2 FH B7 V4 A H Y K MZ B3 AR N6 G7;exists (Hr rfl);injections U;exists (BH (N':=["-0","-1","-2","-3","_law_one"]) (keep:=[false,false,false,false]) (more:=1) ?_ ?_ ?_ ?_ ?_ ?_ ?_);injections V P HH Go D C3 C4 C An J8 C Mh B3 P8)
theorem Oc:c8 ["_law_row","_law_found","_law_at","_law_longer","_law_some","_law_number"] ["_law_row"] (E5 JD):=L9
def iU:Mo Fl:=(C1 (E3 1 (mF (K3 (B0 (G9 B6) B6)))) (C1 (J1 (U1 (B0 (B5 Y2 (j1 F2 (B0 (A0 0) B6)) (mC (.int 1))) B6)) (gN 2) (C1 (K8 3 (K3 B6)) (C1 (J1 (G8 (A0 1)) (gN 4) (J1 (Q1 (B0 (B5 oI (A0 0) (A0 2)) (B0 (B5 E7 (B5 oI (A0 0) (B5 E7 (A0 2) (mC (.int 1)))) (mC (.int 1))) B6))) (gN 5) (E2 (O5 (mT (B5 (nW false) (A0 4) (G9 B6))) (mT (B5 rY (A0 5) (B5 oI (A0 4) (Ak (mC (.int 1))))))) (Ao 3 (B5 E7 (A0 4) (G9 (B0 (A0 5) B6)))) m8))) (E3 1 (A0 3))))) (E1 (A0 1))))
def Z1:Fn:=nP 6 iU
theorem iV{f:ah}(F:nJ K "_law_over" "_law_over" JD f fd)(T:Txt K mg):i4 P w K mg base mZ 1 f fd ["_law_row"] (nY K 1 Z1):=
 M8 F Oc fun cdv A outer s H E hr=>(by have n0:=Oc.nd;cases T;injections I a u Ab BX d Ac Q X O6 Ab V n N8 AW B7 Z T E9 Z E9 L C4 Q Ag Y w u AR w Z An D3 FH d B3 b C3 J8 o B3 C B3)
theorem Od:c8 ["_law_state_here","_law_most","_law_many_here","_law_rest","_law_found"] ["_law_state_here","_law_most"] (E5 JE):=L9
theorem nd8:(["_law_state_here","-1","-2","_law_rest","-4","_law_turn"]:ar).Nodup:=by rfl'
def JU:Mo Fl:=(C1 (E3 2 (B5 E7 (mC (.int 1)) (i7 2 Y1 (Q9 0 (B8 (A0 1) C5))))) (C1 (K8 3 (Q1 (B0 (mC (.int 1)) (B0 (mC (.int 9)) B6)))) (C1 (K8 4 (N1 (U1 (B0 (A0 2) B6)) [true,false,false,true,false] 1 (gN 5) F7 (De 3 (i7 2 Y1 (Q9 0 (B8 (Fg 3) C5)))))) (E1 (j1 LW (B0 (mF (rE GF (B0 (A0 4) B6))) B6))))))
def Ed:Fn:=nP 5 JU
theorem iW{f:ah}(F:nJ K "_law_last" "_law_last" JE f fd)(T:Txt K mg)(k9:Def P w K mg base "_law_take" 1 2 Y1):i4 P w K mg base mZ 2 f fd ["_law_state_here","_law_most"] (nY K 2 Ed):=
 M8 F Od fun cdv A outer s H E hr=>(by have n0:=nd8;have n1:=Od.nd;cases T;injections I x h G X MT E c D2;exists (NH (N':=["_law_state_here","-1","-2","_law_rest","-4","_law_turn"]) (keep:=[true,false,false,true,false]) (more:=1) ?_ ?_ ?_ ?_ ?_ ?_ ?_ ?_ ?_ ?_ ?_);injections BX D P MU B7 h D5 Mj E6 C3 C HH Gv U FG Ho D C3)
theorem iX:c8 ["_law_thing","_law_least","_law_most"] ["_law_thing","_law_least","_law_most"] (E5 JF):=L9
def JV:Mo Fl:=(E1 (X0 (pB "int" (A0 0)) (X0 (FF (pB "bool" (A0 0))) (Q8 oZ oZ (A0 1) (A0 0) (A0 2)))))
def Co:Fn:=nP 3 JV
theorem iY{f:ah}(F:nJ K "_law_whole" "_law_whole" JF f fd)(T:Txt K mg):i4 P w K mg base mZ 1 f fd ["_law_thing","_law_least","_law_most"] (nY K 3 Co):=
 M8 F iX fun cdv A outer s H E hr=>(by cases T;injections y J AU HD J BW HE k B3)
theorem iZ:c8 ["_law_found","_law_due"] ["_law_found","_law_due"] (E5 JG):=L9
theorem nd9:(["-0","-1","_law_one","_law_other"]:ar).Nodup:=by rfl'
def Bp(r_:Fn):Mo Fl:=(C1 (E2 (mT (MN "list" "tuple" (A0 1))) (C1 (E2 (O5 (mT (B5 (nW true) (pB "list" (A0 0)) (pB "list" (A0 1)))) (mT (B5 (nW true) (pB "tuple" (A0 0)) (pB "tuple" (A0 1))))) (E1 (mC (.bl false))) m8) (E1 (X0 (B5 (nW false) (j1 F2 (B0 (A0 0) B6)) (j1 F2 (B0 (A0 1) B6))) (j1 Av (B0 (mF (N1 (CN (B0 (A0 0) (B0 (A0 1) B6))) [false,false] 2 (gT 2 (qF (gN 2) (qF (gN 3) sY))) F7 (i7 2 r_ (B8 (A0 2) (B8 (A0 3) C5))))) B6))))) m8) (E1 (X0 (B5 (nW false) (pB "bool" (A0 0)) (pB "bool" (A0 1))) (B5 (nW false) (A0 0) (A0 1)))))
def L4:Nat->Fn
 |0=>fun _=>none
 |n_+1=>nP 2 (Bp (L4 n_))
theorem Oe{f:ah}{fd:FuncData}(F:nJ K "_law_same" "_law_same" JG f fd)(T:Txt K mg)(hmg:mg "_law_same"=some (.ref f))(hkp:PySem.W.keepIn K (.ref f)=true)(hbd:Q7 K fd ["_law_found","_law_due"] []):∀n_:Nat,i4 P w K mg base mZ (1+n_) f fd ["_law_found","_law_due"] (nY K 2 (L4 n_))
 |0=>YO
 |n_+1=>by
  have nN:Def P w K mg base "_law_same" (1+n_) 2 (L4 n_):=⟨_,_,_,Oe F T hmg hkp hbd n_,rfl,hmg,hkp,hbd⟩;exact M8 F iZ fun cdv A outer s H E hr=>(by have n0:=nd9;cases T;injections H P0 MO B3 H Y N6 J z N6 J J l y AQ O O BW G7;exists (DU rfl);injections U;exists (BH (N':=["-0","-1","_law_one","_law_other"]) (keep:=[false,false]) (more:=2) ?_ ?_ ?_ ?_ ?_ ?_ ?_);injections Lw B7 B3 D HL Ai Ai HK U3 s G C3 J8 y AQ J J BW AQ k)
theorem Of:c8 ["_law_row","_law_here","_law_turn","_law_above","_law_some","_law_one"] ["_law_row"] (E5 JH):=L9
theorem jA:(["-0","_law_here","-2","-3","-4","-5","_law_some"]:ar).Nodup:=by rfl'
def JW:Mo Fl:=(C1 (E3 1 (CZ (A0 0) (mC (.int 1)))) (C1 (J1 (U1 (B0 (B5 Y2 (j1 F2 (B0 (A0 0) B6)) (mC (.int 1))) B6)) (gN 2) (C1 (Fq 3) (C1 (J1 (Dp (A0 1)) (gN 4) (J1 (G8 (i7 1 Z1 (B8 (A0 4) C5))) (gN 5) (R0 (B5 E7 (AD 3 (A0 5) (mC (.int 0))) (B5 Ag (A0 1) (A0 4))) (sS 3 (A0 5))))) (E3 1 (A0 3))))) (E1 (j1 Dc (B0 (mF (N1 (Dp (A0 1)) [false,true,false,false,false,false] 1 (gN 6) F7 (B5 Ag (A0 1) (A0 6)))) B6)))))
def Ai:Fn:=nP 6 JW
theorem jB{f:ah}(F:nJ K "_law_many" "_law_many" JH f fd)(T:Txt K mg)(l0:Def P w K mg base "_law_over" 1 1 Z1):i4 P w K mg base mZ 2 f fd ["_law_row"] (nY K 1 Ai):=
 M8 F Of fun cdv A outer s H E hr=>(by have n0:=jA;have n1:=Of.nd;cases T;injections I Fs L N BX d Ac Q D2 Ia N IZ B3 n N8 R1 R n DQ E9 Ic B7 B3 c Ib k Ie B3 o B3 C G7;exists (Hr rfl);injections U;exists (BH (N':=["-0","_law_here","-2","-3","-4","-5","_law_some"]) (keep:=[false,true,false,false,false,false]) (more:=1) ?_ ?_ ?_ ?_ ?_ ?_ ?_);injections IZ B3 P Ib B3 A)
theorem Og:c8 ["_law_row","_law_found","_law_turn","_law_longer","_law_triangle_here"] ["_law_row"] (E5 JI):=L9
theorem jC:(["-0","-1","-2","-3","_law_triangle_here","_law_one"]:ar).Nodup:=by rfl'
def JX:Mo Fl:=(C1 (E3 1 (mF (K3 (B0 (G9 (B0 (A0 0) B6)) B6)))) (C1 (J1 (U1 (B0 (B5 Y2 (j1 F2 (B0 (A0 0) B6)) (mC (.int 1))) B6)) (gN 2) (C1 (K8 3 (K3 B6)) (C1 (J1 (G8 (A0 1)) (gN 4) (Dg 3 (N1 (G8 (i7 1 Z1 (B8 (B5 oI (A0 4) (mC (.int 0))) C5))) [false,false,false,false,true] 1 (gN 5) F7 (B5 E7 (G9 (B0 (A0 5) B6)) (A0 4))))) (E3 1 (A0 3))))) (AV (rE Ci (B0 (A0 1) B6)))))
def Cp:Fn:=nP 5 JX
theorem jD{f:ah}(F:nJ K "_law_all" "_law_all" JI f fd)(T:Txt K mg)(l0:Def P w K mg base "_law_over" 1 1 Z1):i4 P w K mg base mZ 2 f fd ["_law_row"] (nY K 1 Cp):=
 M8 F Og fun cdv A outer s H E hr=>(by have n0:=jC;have n1:=Og.nd;cases T;injections I a b Ab BX d Ac Q X O6 Ab V n MV;exists (BH (N':=["-0","-1","-2","-3","_law_triangle_here","_law_one"]) (keep:=[false,false,false,false,true]) (more:=1) ?_ ?_ ?_ ?_ ?_ ?_ ?_);injections R1 f T9 L E6 P E9 b B3 o B3 Aj FG;exists (Im hr.units);injections D)
theorem Oh:c8 ["_law_state_here","_law_row","_law_at","_law_odd","_law_some"] ["_law_state_here","_law_row"] (E5 JJ):=L9
def JY:Mo Fl:=(C1 (E3 2 (i7 2 Y1 (Q9 0 (B8 (B5 E7 (j1 F2 (B0 (A0 1) B6)) (mC (.int 1))) C5)))) (C1 (E3 3 (B5 oI (mF (K3 (B0 (mC (.int 0)) (B0 (mC (.int 9)) (B0 (Ak (mC (.int 1))) (B0 (mC (.bl true)) (B0 (mC .non) (B0 (mC (.str "1")) (B0 (G9 (B0 (mC (.int 1)) B6)) (B0 (B5 Y3 (mC (.int 10)) (mC (.int 29))) (B0 (mC (.int 1)) (B0 (mC (.int 8)) B6)))))))))))) (i7 2 Y1 (Q9 0 (B8 (mC (.int 10)) C5))))) (C1 (E3 4 (mF (K3 (B0 (B5 E7 (B5 E7 (pC (A0 1) P4 (P5 (A0 2))) (G9 (B0 (A0 3) B6))) (pC (A0 1) (P5 (B5 E7 (A0 2) (mC (.int 1)))) P4)) (B0 (B5 E7 (B5 E7 (pC (A0 1) P4 (P5 (A0 2))) (G9 (B0 (A0 3) B6))) (pC (A0 1) (P5 (A0 2)) P4)) (B0 (He (A0 1)) (B0 (B5 E7 (A0 1) (pC (A0 1) (P5 (Ak (mC (.int 1)))) P4)) (B0 (mF (rE DN (B0 (A0 1) B6))) B6)))))))) (E1 (B5 oI (mF (Bc (A0 4) (mF (K3 (B0 (mC .non) (B0 (mC .emp) (B0 (G9 B6) (B0 (Ff (Q1 (B0 (mC (.int 1)) (B0 (mC (.int 8)) B6)))) (B0 (mF (K3 (B0 (A0 3) B6))) B6))))))))) (i7 2 Y1 (Q9 0 (B8 (mC (.int 10)) C5))))))))
def Ee:Fn:=nP 5 JY
theorem jE{f:ah}(F:nJ K "_law_bent_row" "_law_bent_row" JJ f fd)(T:Txt K mg)(k9:Def P w K mg base "_law_take" 1 2 Y1):i4 P w K mg base mZ 2 f fd ["_law_state_here","_law_row"] (nY K 2 Ee):=
 M8 F Oh fun cdv A outer s H E hr=>(by have n0:=Oh.nd;cases T;injections I h D5 E9 Ac E6 I T9 J5 O6 E v An B7 P8 B7 DH Ah B7 M6 c d C4 C4 E c h m E6 I a p i Ao B3 b i Ax E9 L Aw d E9 i Ao B3 b i Ax B3 Aw B7 Ln T E9 B3 i Ax An Aw U HI Ex D C3 C T9 J5 Ak a DH B7 Lz B7 u B7 Mi E c U O6 D C3 h m E6)
theorem Oi:c8 ["_law_thing","_law_number"] ["_law_thing"] (E5 JK):=L9
def Bq:Mo Fl:=(C1 (E2 (O5 (F5 (mT (pB "tuple" (A0 0)))) (F5 (mT (Q8 oZ oZ (mC (.int 1)) (j1 F2 (B0 (A0 0) B6)) (mC (.int 6)))))) (E1 (mC (.bl false))) m8) (C1 (J1 (G8 (A0 0)) (gN 1) (E2 (F5 (mT (i7 3 Co (B8 (A0 1) (B8 (mC (.int 1)) (B8 (mC (.int 8)) C5)))))) (E1 (mC (.bl false))) m8)) (E1 (B5 (nW false) (mF (rE DN (B0 (A0 0) B6))) (mF (Fu (B0 (A0 0) B6)))))))
def Br:Fn:=nP 2 Bq
theorem jF{f:ah}(F:nJ K "_law_good" "_law_good" JK f fd)(T:Txt K mg)(oB:Def P w K mg base "_law_whole" 1 3 Co):i4 P w K mg base mZ 2 f fd ["_law_thing"] (nY K 1 Br):=
 M8 F Oi fun cdv A outer s H E hr=>(by have n0:=Oi.nd;cases T;injections H Y K z Af Ac l N V n J9 K s m m E6 l C AQ J5 HI Ex D J5 Np D)
theorem Oj:c8 ["_law_script","_law_k","_law_state_here","_law_row","_law_few","_law_due","_law_turn","_law_bad","_law_found"] ["_law_script"] (E5 Ck):=L9
def Ol:Mo Fl:=(C1 (J1 (U1 (B0 (j1 CK (B0 (mC (.int 1)) (B0 (j1 CL (B0 (j1 F2 (B0 (A0 0) B6)) (B0 (mC (.int 6)) B6))) B6))) B6)) (gN 1) (C1 (K8 2 (O7 2 Eb (B8 (A0 0) (B8 (A0 1) C5)))) (C1 (E3 3 (i7 2 Ed (Q9 2 (B8 (mC (.int 6)) C5)))) (C1 (E2 (F5 (mT (i7 2 (L4 6) (B8 (i7 1 Y0 (B8 (A0 3) C5)) (B8 (i7 1 Ai (B8 (A0 3) C5)) C5))))) (E1 (mC (.bl false))) m8) (C1 (E2 (Z3 (mT (B5 rY (j1 F2 (B0 (A0 3) B6)) (mC (.int 4)))) (mT (B5 (nW true) (X6 xN [false,false,false,true,false,false,false,false,false] (mF (O7 1 W6 (B8 (A0 3) C5))) (V2 1 AI (B8 (A0 3) C5)) W7) (mC (.int 11))))) (E1 (mC (.bl false))) m8) (C1 (E3 4 (pC (A0 3) P4 (P5 (mC (.int 4))))) (C1 (E2 (mT (B5 rY (i7 1 Ai (B8 (A0 4) C5)) (mC (.int 400)))) (E3 4 (pC (A0 3) P4 (P5 (mC (.int 3))))) m8) (C1 (E3 5 (mF (O7 1 Cp (B8 (A0 4) C5)))) (C1 (J1 (U1 (B0 (mC (.int 2)) B6)) (gN 6) (C1 (K8 8 (O7 1 W6 (B8 (A0 4) C5))) (C1 (E2 (F5 (mT (Dj 2 (L4 6) [8,5]))) (E1 (mC (.bl false))) m8) (Ao 8 (G9 B6))))) (C1 (E3 7 (i7 2 Ee (Q9 2 (B8 (A0 3) C5)))) (E2 (F5 (mT (i7 1 Br (B8 (A0 7) C5)))) (C1 (E2 (mT (B5 (nW true) (X6 xN [false,false,false,false,false,false,false,true,false] (i7 1 Y0 (B8 (A0 7) C5)) (V2 1 Cn (B8 (A0 7) C5)) W7) (mC (.int 5)))) (E1 (mC (.bl false))) m8) (E2 (mT (B5 (nW true) (X6 xN [false,false,false,false,false,false,false,true,false] (mF (O7 1 W6 (B8 (A0 7) C5))) (V2 1 AI (B8 (A0 7) C5)) W7) (mC (.int 5)))) (E1 (mC (.bl false))) m8)) m8))))))))))) (E1 (X0 (B5 (nW false) (i7 1 Y0 (B8 (G9 (B0 (mC (.int 1)) (B0 (mC (.int 2)) (B0 (mC (.int 3)) (B0 (mC (.int 4)) (B0 (mC (.int 5)) (B0 (mC (.int 6)) B6))))))) C5)) (mC (.int 7436))) (X0 (B5 (nW false) (i7 1 Y0 (B8 (G9 (B0 (mC (.int 1)) (B0 (mC (.int 3)) B6))) C5)) (mC (.int 3))) (B5 (nW false) (i7 1 Y0 (B8 (G9 (B0 (mC (.int 8)) B6)) C5)) (mC (.int 1)))))))
def GL:Fn:=nP 9 Ol
theorem jG{f Pt:ah}{cd:aj}(F:nJ K "law" "law" Ck f fd)(hcd:fd.code=cd)(T:Txt K mg)(tb:sZ K mg base cd "law" Pt)(oC:Def P w K mg base "_law_state" 2 2 Eb)(oK:Def P w K mg base "_law_last" 2 2 Ed)(o4:Def P w K mg base "_law_all" 2 1 Cp)(nG:Def P w K mg base "_law_bent_row" 2 2 Ee)(nN:Def P w K mg base "_law_same" 7 2 (L4 6))(oN:Def P w K mg base "_law_many" 2 1 Ai)(nH:Def P w K mg base "all_triangles" 5 1 W6)(oO:Def P w K mg base "_law_good" 2 1 Br)(nA:Def P w K mg base "many_triangles" 5 1 Y0)(nO:pS P w K mg base "_law_refused" 7 6 W7)(nB:qL P w K mg base "all_triangles" 5 1 AI)(mX:qL P w K mg base "many_triangles" 5 1 Cn):i4 P w K mg base mZ 8 f fd ["_law_script"] (uM K [Pt] 1 GL):=
 aK (N:=["_law_script","_law_k","_law_state_here","_law_row","_law_few","_law_due","_law_turn","_law_bad","_law_found"]) (mb:=Ol) F hcd Oj fun A outer s H E tbi hr=>by
  obtain⟨ps0,hP⟩:=tbi Pt (by simp);exact(by have n0:=Oj.nd;cases T;injections N BX B7 G7;exists (Kn rfl);injections v G7;exists (Ko rfl);injections B7 O c C3 Q X CO B G I h m E6 H K f R D5 R E6 l H Z4 LR N6 Ac LQ N6;exists (ID (kc:=5) (N':=["-0","-1","-2","_law_row","-4","-5","-6","-7","-8"]) (keep:=[false,false,false,true,false,false,false,false,false]) ?_ ?_ ?_ ?_ ?_ ?_ ?_ ?_ ?_ ?_ ?_ ?_ ?_ ?_ ?_ ?_ ?_ ?_ ?_);injections J5 CO G W G C4 l I i Ao C4 H N6 R C4 o i Ao C4 J8 I J5 CO G N BX E Q X CO G H K My l D3 FH B7 u C3 I h G Ag K R H N6;exists (ID (kc:=5) (N':=["-0","-1","-2","-3","-4","-5","-6","_law_bad","-8"]) (keep:=[false,false,false,false,false,false,false,true,false]) ?_ ?_ ?_ ?_ ?_ ?_ ?_ ?_ ?_ ?_ ?_ ?_ ?_ ?_ ?_ ?_ ?_ ?_ ?_);injections R W G C4 l Ag N6;exists (ID (kc:=5) (N':=["-0","-1","-2","-3","-4","-5","-6","_law_bad","-8"]) (keep:=[false,false,false,false,false,false,false,true,false]) ?_ ?_ ?_ ?_ ?_ ?_ ?_ ?_ ?_ ?_ ?_ ?_ ?_ ?_ ?_ ?_ ?_ ?_ ?_);injections J5 CO G W G C4 l J8 y AQ f M6 E E E E E c E6 C4 AU AQ f M6 E c E6 C4 BW AQ f M6 c E6 C4)
end
def rG:D->Bool
 |.int _=>true
 |_=>false
theorem Om(d:D):AG [.dat d]=some (.d (.bl (rG d)),[.dat d]):=by cases d<;>rfl
def qD(d:D)(n:Int):Bool:=match d with
 |.tup es=>(es.length:Int)==n&&es.all rG
 |_=>false
theorem jH(d:D)(n:Int)(hn:n≤1000):Bm [.dat d,.dat (.int n)]=some (.d (.bl (qD d n)),[.dat d,.dat (.int n)]):=by
 cases d with
 |tup es=>
  by_cases h:(es.length:Int)=n
  ·have t:(O5 (F5 (mT (pB "tuple" (A0 0)))) (mT (B5 (nW true) (j1 F2 (B0 (A0 0) B6)) (A0 1)))) [.dat (.tup es),.dat (.int n)]=some (false,[.dat (.tup es),.dat (.int n)]):=by
    show some (!((es.length:Int)==n),_)=_;rw[h];simp
   obtain⟨e',h1,w,rfl⟩:=MG (g:=gN 2) (m:=i7 1 AG (B8 (A0 2) C5)) (P:=fun e=>∃w,e=[.nil,.nil,w]) (f:=fun d=>.bl (rG d)) (ds:=es) (env:=[.nil,.nil,.nil])
    (fun d _ e ⟨w,he⟩=>by
     subst he;refine⟨[.nil,.nil,.dat d],[.nil,.nil,.dat d],rfl,?_,_,rfl⟩;show((AG [.dat d]).map fun q=>(q.1,_)).bind yA=_;rw[Om];rfl) ⟨.nil,rfl⟩
   have hl:es.length≤100000:=by omega
   have c:(N1 (G8 (A0 0)) [false,false] 1 (gN 2) F7 (i7 1 AG (B8 (A0 2) C5))) [.dat (.tup es),.dat (.int n)]=some (es.map fun d=>.bl (rG d),[.dat (.tup es),.dat (.int n)]):=by
    show(if es.length≤100000 then(O0 _ _ _ es [.nil,.nil,.nil]).bind _ else none)=_;rw[Qg hl,h1];rfl
   unfold Bm nP JM;show(match C1 _ _ [.dat (.tup es),.dat (.int n)]with|some (.ret d,env)=>_|some (.retL ds,env)=>_|some (.nx,env)=>_|_=>none)=_;rw[Y4 (by rw[FU t];rfl)];have r:(E1 (j1 Av (B0 (mF (N1 (G8 (A0 0)) [false,false] 1 (gN 2) F7 (i7 1 AG (B8 (A0 2) C5)))) B6))) [.dat (.tup es),.dat (.int n)]=some (.ret (.bl (es.all rG)),[.dat (.tup es),.dat (.int n)]):=by
    unfold E1 j1 B0 mF;rw[c];show(((U4 (es.map fun d=>.bl (rG d))).map fun k=>D.bl k).map _).map _=_;rw[FV];rfl
   rw[r];show some (Rr.d (.bl (es.all rG)),_)=_;simp[qD,h];rfl
  ·have t:(O5 (F5 (mT (pB "tuple" (A0 0)))) (mT (B5 (nW true) (j1 F2 (B0 (A0 0) B6)) (A0 1)))) [.dat (.tup es),.dat (.int n)]=some (true,[.dat (.tup es),.dat (.int n)]):=by
    show some (!((es.length:Int)==n),_)=_;simp[h]
   unfold Bm nP JM;show(match C1 _ _ [.dat (.tup es),.dat (.int n)]with|some (.ret d,env)=>_|some (.retL ds,env)=>_|some (.nx,env)=>_|_=>none)=_;rw[Aa (d:=.bl false) (by rw[FT t];rfl)];simp[qD,h];rfl
 |_=>rfl
def isS(d:D)(a b:Int):Bool:=match d with
 |.tup es=>(decide (a≤(es.length:Int))&&decide ((es.length:Int)≤b))&&es.all fun r=>qD r es.length
 |_=>false
def dR(l:aq):D:=.tup (l.map .int)
def dT(R:OO):D:=.tup (R.map dR)
def rQ:D->Int
 |.int i=>i
 |_=>0
def pV:D->aq
 |.tup es=>es.map rQ
 |.lst es=>es.map rQ
 |_=>[]
def xG:D->OO
 |.tup es=>es.map pV
 |_=>[]
theorem jI(h:rG d=true):d=.int (rQ d):=by cases d<;>first|rfl|cases h
theorem Oo{es:bb}(h:es.all rG=true):es=(es.map rQ).map .int:=by
 induction es with
 |nil=>rfl
 |cons d es ih=>
  rw[Uk,Qr]at h;rw[Qm,Qm,←jI h.1,←ih h.2]
theorem JZ{n:Int}(h:qD d n=true):d=dR (pV d)/\((pV d).length:Int)=n:=by
 cases d<;>first|cases h|skip
 rename_i es;simp only[qD,Qr,Vn]at h;refine⟨?_,by simp[pV,h.1]⟩;show D.tup es=.tup ((es.map rQ).map .int);rw[←Oo h.2]
theorem jJ(l:aq):(l.map D.int).map rQ=l:=by rw[Ys];exact List.map_id l
theorem Oq(l:aq):pV (dR l)=l:=jJ l
theorem Ot(l:aq):qD (dR l) l.length=true:=by
 simp[qD,dR,rG]
theorem KA{α:Type}{xs:List α}{j:Nat}{x:α}(h:xs[j]? =some x):qE xs (j:Int)=some x:=by
 have hj:j<xs.length:=(Qc.mp h).1;unfold qE sM;rw[Qg (by omega),Qg (by omega)];simpa using h
def flip(n:Nat)(R:OO):OO:=(List.range n).map fun j=>R.map fun r=>r.getD j 0
def tt:Int->aq->Bool
 |s,[]=>s==1
 |s,x::l=>(s+x==0||s+x==1)&&tt (s+x) l
def isT(d:D):Bool:=isS d 1 6&&(xG d++flip (xG d).length (xG d)).all (tt 0)
theorem Ef(h:BV i j=true):T8 (.int i) (.int j)=some (.int (i * j)):=by
 unfold T8 fI;simp only[h,Yw]
theorem GN(h1: -18446744073709551616<i)(h2:i<18446744073709551616):BV i j=true:=by
 unfold BV;rw[show((2:Int)^64)=18446744073709551616 from rfl];simp[h1,h2]
theorem jK(h1: -18446744073709551616<j)(h2:j<18446744073709551616):BV i j=true:=by
 unfold BV;rw[show((2:Int)^64)=18446744073709551616 from rfl];simp[h1,h2]
theorem GO:∀l:aq,R5 (l.map D.int)=l.map PyData.int
 |[]=>rfl
 |x::l=>by show PyData.int x::R5 (l.map D.int)=_;rw[GO l];rfl
theorem CW:∀l:aq,PyData.canLayAll0 (l.map PyData.int)=true
 |[]=>rfl
 |x::l=>by show(true&&PyData.canLayAll0 (l.map PyData.int))=true;rw[CW l];rfl
theorem Ou:∀l:aq,PyData.depthAll (l.map PyData.int)=0
 |[]=>rfl
 |x::l=>by show max 0 (PyData.depthAll (l.map PyData.int))=0;rw[Ou l];rfl
theorem Ov:∀l k:aq,PyData.eqvAll (l.map PyData.int) (k.map PyData.int)=decide (l=k)
 |[],[]=>rfl
 |[],_::_=>rfl
 |_::_,[]=>rfl
 |x::l,y::k=>by
  show((x==y)&&PyData.eqvAll (l.map PyData.int) (k.map PyData.int))=_;rw[Ov l k]
  by_cases h:x=y
  ·subst h;simp
  ·simp[h]
theorem Ow(l:aq):uR (.lst (l.map D.int))=true:=by
 unfold uR SeqAt.shaped;show(PyData.canLayAll0 (R5 (l.map D.int))&&decide (PyData.depthAll (R5 (l.map D.int))+1≤64))=true;rw[GO,CW,Ou];rfl
def uQ(d:D)(a b:Int):Bool:=match d with
 |.int i=>decide (a≤i)&&decide (i≤b)
 |_=>false
theorem GP{b:Int}{mc:Mo D}(h1:ma e=some (.int a,e))(h2:mb e=some (.int i,e))(h3:mc e=some (.int b,e)):Q8 oZ oZ ma mb mc e=some (.bl (decide (a≤i)&&decide (i≤b)),e):=by
 unfold Q8;rw[h1];show(mb e).bind _=_;rw[h2]
 by_cases h:a≤i
 ·have e1:oZ (.int a) (.int i)=some (.bl true):=by show some (D.bl (decide _))=_;simp[h]
  simp only[Qk,e1];rw[h3];show some (D.bl (decide (i≤b)),e)=_;simp[h]
 ·have e1:oZ (.int a) (.int i)=some (.bl false):=by show some (D.bl (decide _))=_;simp[h]
  simp only[Qk,e1];simp[h]
theorem jL(d:D)(a b:Int):Co [.dat d,.dat (.int a),.dat (.int b)]=some (.d (.bl (uQ d a b)),[.dat d,.dat (.int a),.dat (.int b)]):=by
 cases d with
 |int i=>
  refine(O1 (d:=.bl (uQ (.int i) a b)) (env:=[.dat (.int i),.dat (.int a),.dat (.int b)]) ?_).trans rfl;show JV [.dat (.int i),.dat (.int a),.dat (.int b)]=_;unfold JV;have c:=GP (e:=[.dat (.int i),.dat (.int a),.dat (.int b)]) (ma:=A0 1) (mb:=A0 0) (mc:=A0 2) rfl rfl rfl;exact V0 c
 |_=>rfl
theorem Ox(h:FE i j=true)(e:i^j.toNat=k):Y3 (.int i) (.int j)=some (.int k):=by
 show(if FE i j=true then some (D.int (i^j.toNat))else none)=_;rw[Qg h,e]
theorem Oy:Y3 (.int 10) (.int 18)=some (.int 1000000000000000000):=Ox (by rfl') (by rfl')
theorem jM{m:Int}(ha:0≤a)(h1:1≤m)(h2:m<1073741824):∃v a',Y1 [.par [.int a,.bl b],.dat (.int m)]=some (.d (.int v),[.par [.int a',.bl b],.dat (.int m)])/\0≤v/\v<m/\0≤a':=by
 have dm:∀x:Int,W2 (.int x) (.int m)=some (.int (x%m)):=fun x=>by
  show(if decide (0<m)=true then _ else none)=_;rw[Qg (by simp;omega)]
 have dd:∀x:Int,DJ (.int x) (.int m)=some (.int (x/m)):=fun x=>by
  show(if FD x m=true then _ else none)=_;rw[Qg (by unfold FD;simp;omega)]
 cases b with
 |true=>
  refine⟨a%m,a/m,?_,Us _ (by omega),Vl _ (by omega),Int.ediv_nonneg ha (by omega)⟩;refine(O1 (d:=.int (a%m)) (env:=[.par [.int (a/m),.bl true],.dat (.int m),.nil,.dat (.int (a%m))]) ?_).trans rfl;show Ec [.par [.int a,.bl true],.dat (.int m),.nil,.nil]=_;unfold Ec;have t:(mT (P9 0 (mC (.int 1)))) [.par [.int a,.bl true],.dat (.int m),.nil,.nil]=some (true,[.par [.int a,.bl true],.dat (.int m),.nil,.nil]):=rfl;have s1:(E3 3 (B5 W2 (P9 0 (mC (.int 0))) (A0 1))) [.par [.int a,.bl true],.dat (.int m),.nil,.nil]=some (.nx,[.par [.int a,.bl true],.dat (.int m),.nil,.dat (.int (a%m))]):=Ab (e1:=[.par [.int a,.bl true],.dat (.int m),.nil,.nil]) (D6 rfl rfl (dm a));have s2:(R0 (B5 DJ (P9 0 (mC (.int 0))) (A0 1)) (gS 0 (mC (.int 0)))) [.par [.int a,.bl true],.dat (.int m),.nil,.dat (.int (a%m))]=some (.nx,[.par [.int (a/m),.bl true],.dat (.int m),.nil,.dat (.int (a%m))]):=by
   unfold R0;rw[D6 (c:=.int (a/m)) rfl rfl (dd a)];rfl
  rw[Aa (d:=.int (a%m)) (by rw[FT t,Y4 s1,Y4 s2];rfl)]
 |false=>
  have e1:∀x:Int,T8 (.int x) (.int 48271)=some (.int (x * 48271)):=fun x=>Ef (jK (by decide) (by decide));have md:∀(x k:Int),0<k->W2 (.int x) (.int k)=some (.int (x%k)):=fun x k hk=>by
   show(if decide (0<k)=true then _ else none)=_;rw[Qg (by simp;omega)]
  let p:Int:=(a * 48271+29)%2147483647
  have hp:0≤p/\p<2147483647:=⟨Us _ (by decide),Vl _ (by decide)⟩
  let q:Int:=(p * p+39373 * p+7)%2147483629
  have hq:0≤q/\q<2147483629:=⟨Us _ (by decide),Vl _ (by decide)⟩
  let r:Int:=(q * q+16807 * q)%2147483587
  have hr:0≤r:=Us _ (by decide);refine⟨r/8%m,p,?_,Us _ (by omega),Vl _ (by omega),hp.1⟩;refine(O1 (d:=.int (r/8%m)) (env:=[.par [.int p,.bl false],.dat (.int m),.dat (.int r),.nil]) ?_).trans rfl;show Ec [.par [.int a,.bl false],.dat (.int m),.nil,.nil]=_;unfold Ec;have t:(mT (P9 0 (mC (.int 1)))) [.par [.int a,.bl false],.dat (.int m),.nil,.nil]=some (false,[.par [.int a,.bl false],.dat (.int m),.nil,.nil]):=rfl;have s1:(R0 (B5 W2 (B5 E7 (B5 T8 (P9 0 (mC (.int 0))) (mC (.int 48271))) (mC (.int 29))) (mC (.int 2147483647))) (gS 0 (mC (.int 0)))) [.par [.int a,.bl false],.dat (.int m),.nil,.nil]=some (.nx,[.par [.int p,.bl false],.dat (.int m),.nil,.nil]):=by
   unfold R0;rw[D6 (c:=.int p) (D6 (c:=.int (a * 48271+29)) (D6 rfl rfl (e1 a)) rfl rfl) rfl (md _ _ (by decide))];rfl
  have s2:(E3 2 (B5 W2 (B5 E7 (B5 E7 (B5 T8 (P9 0 (mC (.int 0))) (P9 0 (mC (.int 0)))) (B5 T8 (mC (.int 39373)) (P9 0 (mC (.int 0))))) (mC (.int 7))) (mC (.int 2147483629)))) [.par [.int p,.bl false],.dat (.int m),.nil,.nil]=some (.nx,[.par [.int p,.bl false],.dat (.int m),.dat (.int q),.nil]):=
   Ab (e1:=[.par [.int p,.bl false],.dat (.int m),.nil,.nil]) (D6 (c:=.int q) (D6 (c:=.int (p * p+39373 * p+7)) (D6 (c:=.int (p * p+39373 * p)) (D6 rfl rfl (Ef (i:=p) (j:=p) (GN (by omega) (by omega)))) (D6 rfl rfl (Ef (i:=39373) (j:=p) (GN (by decide) (by decide)))) rfl) rfl rfl) rfl (md _ _ (by decide)))
  have s3:(E3 2 (B5 W2 (B5 E7 (B5 T8 (A0 2) (A0 2)) (B5 T8 (mC (.int 16807)) (A0 2))) (mC (.int 2147483587)))) [.par [.int p,.bl false],.dat (.int m),.dat (.int q),.nil]=some (.nx,[.par [.int p,.bl false],.dat (.int m),.dat (.int r),.nil]):=
   Ab (e1:=[.par [.int p,.bl false],.dat (.int m),.dat (.int q),.nil]) (D6 (c:=.int r) (D6 (c:=.int (q * q+16807 * q)) (D6 rfl rfl (Ef (i:=q) (j:=q) (GN (by omega) (by omega)))) (D6 rfl rfl (Ef (i:=16807) (j:=q) (GN (by decide) (by decide)))) rfl) rfl (md _ _ (by decide)))
  rw[Y4 (by rw[FU t];rfl),Y4 s1,Y4 s2,Y4 s3];exact V0 (D6 (c:=.int (r/8%m)) (D6 (c:=.int (r/8)) rfl rfl rfl) rfl (dm _))
theorem jN(ns:aq)(k:Nat)(hk:k<1000):∃c,EZ [.dat (.lst (ns.map .int)),.dat (.int k)]=some (.d (.int c),[.dat (.lst (ns.map .int)),.dat (.int k)]):=by
 have t:(mT (B5 vU (A0 1) (j1 F2 (B0 (A0 0) B6)))) [.dat (.lst (ns.map .int)),.dat (.int k)]=some (decide ((k:Int)<(ns.length:Int)),[.dat (.lst (ns.map .int)),.dat (.int k)]):=by
  show some (decide ((k:Int)<((ns.map D.int).length:Nat)),_)=_;rw[Qv]
 by_cases h:k<ns.length
 ·have hd:decide ((k:Int)<(ns.length:Int))=true:=by simp;omega
  rw[hd]at t;refine⟨ns[k],(O1 (d:=.int ns[k]) (env:=[.dat (.lst (ns.map .int)),.dat (.int k)]) ?_).trans rfl⟩;show EY [.dat (.lst (ns.map .int)),.dat (.int k)]=_;unfold EY;rw[Aa (d:=.int ns[k]) (by
   rw[FT t];exact V0 (D6 rfl rfl (show qE (ns.map D.int) (k:Int)=_ from KA (by simp[h]))))]
 ·have hd:decide ((k:Int)<(ns.length:Int))=false:=by simp;omega
  rw[hd]at t;refine⟨0,(O1 (d:=.int 0) (env:=[.dat (.lst (ns.map .int)),.dat (.int k)]) ?_).trans rfl⟩;show EY [.dat (.lst (ns.map .int)),.dat (.int k)]=_;unfold EY;rw[Y4 (by rw[FU t];rfl)];rfl
theorem jO(ns:aq)(k:Nat)(hk:k<1000):∃a b,0≤a/\Eb [.dat (.lst (ns.map .int)),.dat (.int k)]=some (.l [.int a,.bl b],[.dat (.lst (ns.map .int)),.dat (.int k)]):=by
 obtain⟨c,hc⟩:=jN ns k hk;have s1:(E3 2 (i7 2 EZ (B8 (A0 0) (B8 (A0 1) C5)))) [.dat (.lst (ns.map .int)),.dat (.int k),.nil]=some (.nx,[.dat (.lst (ns.map .int)),.dat (.int k),.dat (.int c)]):=
  Ab (e1:=[.dat (.lst (ns.map .int)),.dat (.int k),.nil]) (CQ (CP (av:=[.d (.lst (ns.map .int)),.d (.int k)]) rfl rfl rfl hc))
 have t:(mT (B5 wW (A0 2) (B5 Y3 (mC (.int 10)) (mC (.int 18))))) [.dat (.lst (ns.map .int)),.dat (.int k),.dat (.int c)]=some (decide (1000000000000000000≤c),[.dat (.lst (ns.map .int)),.dat (.int k),.dat (.int c)]):=by
  refine L7 (D6 (b:=.int 1000000000000000000) rfl ?_ rfl);exact D6 rfl rfl Oy
 by_cases h:1000000000000000000≤c
 ·rw[Yb h]at t;refine⟨c-1000000000000000000,true,by omega,(FW (d:=[.int (c-1000000000000000000),.bl true]) (env:=[.dat (.lst (ns.map .int)),.dat (.int k),.dat (.int c)]) ?_).trans rfl⟩;show Ea [.dat (.lst (ns.map .int)),.dat (.int k),.nil]=_;unfold Ea;rw[Y4 s1];have r:(AV (K3 (B0 (B5 Y2 (A0 2) (B5 Y3 (mC (.int 10)) (mC (.int 18)))) (B0 (mC (.bl true)) B6)))) [.dat (.lst (ns.map .int)),.dat (.int k),.dat (.int c)]=some (.retL [.int (c-1000000000000000000),.bl true],[.dat (.lst (ns.map .int)),.dat (.int k),.dat (.int c)]):=by
   have b:=D6 (f:=Y2) (ma:=A0 2) (mb:=B5 Y3 (mC (.int 10)) (mC (.int 18))) (env:=[.dat (.lst (ns.map .int)),.dat (.int k),.dat (.int c)]) (b:=.int 1000000000000000000) (c:=.int (c-1000000000000000000)) rfl (D6 rfl rfl Oy) rfl;refine FY ?_;unfold K3;rw[F1 b (F1 rfl rfl)];rfl
  unfold C1;rw[FT t,r];rfl
 ·rw[Zg h]at t;refine⟨c%2147483647,false,Us _ (by decide),(FW (d:=[.int (c%2147483647),.bl false]) (env:=[.dat (.lst (ns.map .int)),.dat (.int k),.dat (.int c)]) ?_).trans rfl⟩;show Ea [.dat (.lst (ns.map .int)),.dat (.int k),.nil]=_;unfold Ea;rw[Y4 s1,Y4 (by rw[FU t];rfl)];rfl
def jP(h r:aq):aq:=List.zipWith (· + ·) h r
structure HB(h:aq)(n:Nat):Prop where
 len:h.length=n
 bit:∀x∈h,x=0\/x=1
structure xH(h r:aq):Prop where
 len:r.length=h.length
 tt:tt 0 r=true
 bit:∀x∈jP h r,x=0\/x=1
def run:Int->aq->Option Int
 |s,[]=>some s
 |s,x::l=>if s+x=0\/s+x=1 then run (s+x) l else none
structure TbI(b:Bool)(l m:Int)(n i:Nat)(e:a9)(a:Int)(h:aq)(rows:OO)(w6 w7 w8:W):Prop where
 eq:e=[.par [.int a,.bl b],.dat (.int l),.dat (.int m),.dat (.int n),.dat (dR h),.dat (dT rows),w6,w7,w8]
 a0:0≤a
 hb:HB h n
 len:rows.length=i
 row:∀r∈rows,r.length=n/\tt 0 r=true
 sum:h.sum=i
 col:∀j,j<n->run 0 (rows.map fun r=>r.getD j 0)=some (h.getD j 0)
structure Tab(T:OO):Prop where
 lo:1≤T.length
 hi:T.length≤6
 len:∀r∈T,r.length=T.length
 ok:isT (dT T)=true
def S(g:Nat->Int):Nat->Int
 |0=>0
 |k+1=>S g k+g k
def U(h:Nat->Nat->Int)(i j:Nat):Int:=(h (i+1) (j+1)-h i (j+1))-(h (i+1) j-h i j)
structure sZ(n:Nat)(f:Nat->Nat->Int):Prop where
 row:∀i<n,∀k≤n,S (f i) k=0\/S (f i) k=1
 rowN:∀i<n,S (f i) n=1
 col:∀j<n,∀k≤n,S (fun r=>f r j) k=0\/S (fun r=>f r j) k=1
 colN:∀j<n,S (fun r=>f r j) n=1
structure HtF(n:Nat)(h:Nat->Nat->Int):Prop where
 r0:∀i≤n,h i 0=0
 d0:∀j≤n,h 0 j=0
 rN:∀i≤n,h i n=i
 dN:∀j≤n,h n j=j
 dd:∀i<n,∀j≤n,h (i+1) j=h i j\/h (i+1) j=h i j+1
 rr:∀i≤n,∀j<n,h i (j+1)=h i j\/h i (j+1)=h i j+1
def mx(x y:Int):Int:=if x≤y then y else x
def tr(n:Nat)(h:Nat->Nat->Int)(i j:Nat):Int:=(i:Int)+j-n+h (n-i) (n-j)
abbrev rw'(n:Nat)(g:Nat->Int):aq:=(List.range n).map g
theorem jQ{g:Nat->Int}{j:Nat}(h:j<n):oI (dR (rw' n g)) (.int (j:Int))=some (.int (g j)):=by
 show qE ((rw' n g).map D.int) (j:Int)=_;exact KA (by simp[h])
theorem c1{f:Fn}{env:a9}{r:D}{ws:bf}(h:m env=some (d,env))(hf:f [.dat d]=some (.d r,ws)):i7 1 f (B8 m C5) env=some (r,env):=
 CQ (CP (av:=[.d d]) (Y5 h rfl) rfl rfl hf)
theorem Eg{i:Nat}{w:W}{M:Mo D}(hw:e[i]? =some w)(hm:w.mutL=some [.int a,.bl b])(hM:M e=some (.int k,e))(ha:0≤a)(h1:1≤k)(h2:k<1073741824):
  ∃v a',i7 2 Y1 (Q9 i (B8 M C5)) e=some (.int v,e.set i (w.put [.int a',.bl b]))/\0≤v/\v<k/\0≤a':=by
 obtain⟨v,a',et,v0,v1,a0⟩:=jM (a:=a) (m:=k) (b:=b) ha h1 h2;refine⟨v,a',CQ (Hk (av:=[.sl i,.d (.int k)]) (c:=[.int a,.bl b]) ?_ rfl rfl hw hm et rfl),v0,v1,a0⟩;unfold Q9;rw[hw];simp only[Qk];have hm':∃m,w.mut=some m:=by
  cases w<;>first|cases hm;done|exact⟨_,rfl⟩
 obtain⟨m,hm'⟩:=hm';rw[hm'];simp only[Qk];rw[Y5 hM rfl];rfl
theorem Oz(h0:0≤v)(h1:v<ds.length):∃d,d∈ds/\oI (.lst ds) (.int v)=some d:=by
 have hv:v.toNat<ds.length:=by omega
 refine⟨ds[v.toNat],Px hv,?_⟩;have:((v.toNat:Nat):Int)=v:=by omega
 have h:=KA (Qe hv);rw[this]at h;exact h
theorem PB(h0:0≤v)(h1:v<n):sM n v=some v.toNat:=by
 unfold sM;rw[Qg h0,Qg h1]
theorem Cq(h:xs.length+ys.length≤10000):E7 (.tup xs) (.tup ys)=some (.tup (xs++ys)):=by
 show(if xs.length+ys.length≤10000 then _ else none)=_;rw[Qg h]
theorem jR(xs:bb)(lo hi:Option Int):(X2 xs lo hi).length≤xs.length:=by
 unfold X2;rw[Yr,Rl];omega
theorem Cr{ml mh:Mo (Option Int)}{lo hi:Option Int}(h:m e=some (.tup xs,e))(h1:ml e=some (lo,e))(h2:mh e=some (hi,e)):pC m ml mh e=some (.tup (X2 xs lo hi),e):=by
 unfold pC;rw[h];simp only[Qk];rw[h1];simp only[Qk];rw[h2];rfl
theorem Cs{ms:Mo bb}{e1:a9}(h:ms e=some (ds,e1))(hl:ds.length≤1000):K3 ms e=some (ds,e1):=by
 unfold K3;rw[h];exact Qg hl
theorem jS{e1 e2:a9}(h1:ma e=some (.lst xs,e1))(h2:mb e1=some (.lst ys,e2))(hl:xs.length+ys.length≤10000):Bc ma mb e=some (xs++ys,e2):=by
 unfold Bc;rw[h1];simp only[Qk];rw[h2];exact Qg hl
def bit(n:Nat)(h:Nat->Int):Prop:=∀j<n,h j=0\/h j=1
end K33
namespace L2.Mir
open PySem L2
variable{as:Mo (List Ar)}{av:List Ar}{base e env:a9}{d:D}{i k n:Nat}{m:Mo D}{mi:Mo bb}{r:Option (Fl×a9)}{u:Mo Bool}{v w:W}{xs:bb}{α:Type}
abbrev sT(n:Nat):bb:=(List.range n).map fun(i:Nat)=>D.int (i:Int)
theorem jT(n:Nat):Z7 0 n=sT n:=by
 unfold Z7 sT;exact List.map_congr_left fun i _=>by simp
theorem Eh{M:Mo D}{e1:a9}{j:Int}(hM:M e=some (.int j,e1))(hj:j=(n:Int))(hn:n≤10000):U1 (B0 M B6) e=some (sT n,e1):=by
 subst hj;have:=YK (ms:=B0 M B6) (env:=e) (e1:=e1) (j:=(n:Int)) (by unfold B0 B6;rw[hM];rfl) (by omega) (by omega);rw[this,Yj,jT]
theorem jU(h:base.length=k):(base++[w]).set k v=base++[v]:=by
 subst h;simp
theorem jV{w2 v2:W}(h:base.length=k):((base++[w,w2]).set k v).set (k+1) v2=base++[v,v2]:=by
 subst h;rw[Xx _ _ (Qy _),Nat.sub_self,Xx _ _ (by omega)];simp
theorem PD{α:Type}{t:Mo Bool}{m:Mo D}{base:a9}{q f:α->D}{p:α->Bool}{k:Nat}(hk:base.length=k):∀{l:List α},(∀a∈l,t (base++[.dat (q a)])=some (p a,base++[.dat (q a)])/\(p a=true->m (base++[.dat (q a)])=some (f a,base++[.dat (q a)])))->∀w,∃w',O0 (gN k) t m (l.map q) (base++[w])=some ((l.filter p).map f,base++[w'])
 |[],_,w=>⟨w,rfl⟩
 |a::l,h,w=>by
  obtain⟨h1,h2⟩:=h a (by simp);obtain⟨w',e⟩:=PD hk (l:=l) (fun x hx=>h x (by simp[hx])) (.dat (q a));refine⟨w',?_⟩;rw[Qm];unfold O0 gN;rw[Qk,jU hk,h1,Qk];cases hp:p a with
  |false=>simp only[Zq,Zo];rw[Tu (by simp[hp])];exact e
  |true=>
   simp only[Yw];rw[h2 hp,Qk,Tp hp,Qm];show(O0 (gN k) t m (l.map q) (base++[.dat (q a)])).map _=_;rw[e];rfl
theorem jW{keep:ay}{t:Mo Bool}{l:List α}{q f:α->D}{p:α->Bool}(hi:mi env=some (l.map q,env))(hl:l.length≤100000)(hb:K5 keep 0 env=base)(hk:base.length=k)
  (h:∀a∈l,t (base++[.dat (q a)])=some (p a,base++[.dat (q a)])/\(p a=true->m (base++[.dat (q a)])=some (f a,base++[.dat (q a)])))(ho:∀w,K6 keep env (base++[w])=some env):N1 mi keep 1 (gN k) t m env=some ((l.filter p).map f,env):=by
 obtain⟨w',e⟩:=PD hk h .nil;refine Hi hi (by simpa using hl) (e2:=base++[w']) ?_ (ho w');have:K5 keep 1 env=base++[.nil]:=by rw[←hb];unfold K5;simp
 rw[this];exact e
theorem GQ{keep:ay}{l:List α}{q f:α->D}(hi:mi env=some (l.map q,env))(hl:l.length≤100000)(hb:K5 keep 0 env=base)(hk:base.length=k)
  (h:∀a∈l,m (base++[.dat (q a)])=some (f a,base++[.dat (q a)]))(ho:∀w,K6 keep env (base++[w])=some env):N1 mi keep 1 (gN k) F7 m env=some (l.map f,env):=by
 have:=jW (p:=fun _=>true) (t:=F7) hi hl hb hk (fun a ha=>⟨rfl,fun _=>h a ha⟩) ho;rw[this,Po.mpr (fun _ _=>rfl)]
theorem PF{α:Type}{t:Mo Bool}{m:Mo D}{base:a9}{q q2 f:α->D}{p:α->Bool}{k:Nat}(hk:base.length=k):∀{l:List α},(∀a∈l,t (base++[.dat (q a),.dat (q2 a)])=some (p a,base++[.dat (q a),.dat (q2 a)])/\(p a=true->m (base++[.dat (q a),.dat (q2 a)])=some (f a,base++[.dat (q a),.dat (q2 a)])))->∀w w2,∃w' w2',O0 (gT 2 (qF (gN k) (qF (gN (k+1)) sY))) t m (l.map fun a=>.tup [q a,q2 a]) (base++[w,w2])=some ((l.filter p).map f,base++[w',w2'])
 |[],_,w,w2=>⟨w,w2,rfl⟩
 |a::l,h,w,w2=>by
  obtain⟨h1,h2⟩:=h a (by simp);obtain⟨w',w2',e⟩:=PF hk (l:=l) (fun x hx=>h x (by simp[hx])) (.dat (q a)) (.dat (q2 a));refine⟨w',w2',?_⟩;rw[Qm];unfold O0;have hg:gT 2 (qF (gN k) (qF (gN (k+1)) sY)) (.tup [q a,q2 a]) (base++[w,w2])=some (base++[.dat (q a),.dat (q2 a)]):=by
   show some (((base++[w,w2]).set k _).set (k+1) _)=_;rw[jV hk]
  rw[hg,Qk,h1,Qk];cases hp:p a with
  |false=>simp only[Zq,Zo];rw[Tu (by simp[hp])];exact e
  |true=>
   simp only[Yw];rw[h2 hp,Qk,Tp hp,Qm];show(O0 _ t m (l.map _) (base++[.dat (q a),.dat (q2 a)])).map _=_;rw[e];rfl
theorem jX{keep:ay}{t:Mo Bool}{l:List α}{q q2 f:α->D}{p:α->Bool}(hi:mi env=some (l.map (fun a=>.tup [q a,q2 a]),env))(hl:l.length≤100000)(hb:K5 keep 0 env=base)(hk:base.length=k)
  (h:∀a∈l,t (base++[.dat (q a),.dat (q2 a)])=some (p a,base++[.dat (q a),.dat (q2 a)])/\(p a=true->m (base++[.dat (q a),.dat (q2 a)])=some (f a,base++[.dat (q a),.dat (q2 a)])))(ho:∀w w2,K6 keep env (base++[w,w2])=some env):
  N1 mi keep 2 (gT 2 (qF (gN k) (qF (gN (k+1)) sY))) t m env=some ((l.filter p).map f,env):=by
 obtain⟨w',w2',e⟩:=PF hk h .nil .nil;refine Hi hi (by simpa using hl) (e2:=base++[w',w2']) ?_ (ho w' w2');have:K5 keep 2 env=base++[.nil,.nil]:=by rw[←hb];unfold K5;simp
 rw[this];exact e
theorem PH{keep:ay}{l:List α}{q q2 f:α->D}(hi:mi env=some (l.map (fun a=>.tup [q a,q2 a]),env))(hl:l.length≤100000)(hb:K5 keep 0 env=base)(hk:base.length=k)
  (h:∀a∈l,m (base++[.dat (q a),.dat (q2 a)])=some (f a,base++[.dat (q a),.dat (q2 a)]))(ho:∀w w2,K6 keep env (base++[w,w2])=some env):N1 mi keep 2 (gT 2 (qF (gN k) (qF (gN (k+1)) sY))) F7 m env=some (l.map f,env):=by
 have:=jX (p:=fun _=>true) (t:=F7) hi hl hb hk (fun a ha=>⟨rfl,fun _=>h a ha⟩) ho;rw[this,Po.mpr (fun _ _=>rfl)]
theorem GR{g:OX}{b:Mo Fl}:∀{ds:bb}{P:Nat->a9->Prop}{env:a9},(∀i d e,ds[i]? =some d->P i e->∃e1 e2,g d e=some e1/\b e1=some (.nx,e2)/\P (i+1) e2)->P 0 env->∃env',loop g b ds env=some (.nx,env')/\P ds.length env'
 |[],P,env,_,p=>⟨env,rfl,p⟩
 |d::ds,P,env,h,p=>by
  obtain⟨e1,e2,h1,h2,h3⟩:=h 0 d env rfl p;obtain⟨e3,h4,h5⟩:=GR (ds:=ds) (P:=fun i e=>P (i+1) e) (fun i x e hi q=>h (i+1) x e (by simpa using hi) q) h3;refine⟨e3,?_,h5⟩;unfold loop;rw[h1];simp only[Qk];rw[h2];exact h4
theorem KB{g:OX}{b:Mo Fl}(P:Nat->a9->Prop)(h:∀i<n,∀e,P i e->∃e1 e2,g (.int (i:Int)) e=some e1/\b e1=some (.nx,e2)/\P (i+1) e2)(p:P 0 env):∃env',loop g b (sT n) env=some (.nx,env')/\P n env':=by
 obtain⟨e',h1,h2⟩:=GR (ds:=sT n) (g:=g) (b:=b) (P:=P) (env:=env) (fun i d e hi q=>by
  unfold sT at hi;rw[Zw]at hi
  by_cases hl:i<n
  ·rw[List.getElem?_range hl]at hi;cases hi;exact h i hl e q
  ·rw[Pw (by simpa using hl)]at hi;cases hi) p
 refine⟨e',h1,?_⟩;have:(sT n).length=n:=by simp[sT]
 rw[this]at h2;exact h2
theorem jY:X2 xs none (some (i:Int))=xs.take i:=by
 unfold X2;rw[HT.sW,HT.rT];simp only[List.drop_zero,Nat.sub_zero]
 by_cases h:i≤xs.length
 ·rw[Sj h]
 ·rw[Nat.min_eq_right (by omega),Js (Qy _),Js (by omega)]
theorem LA{ml mh:Mo (Option Int)}{lo hi:Option Int}(h:m e=some (.tup xs,e))(h1:ml e=some (lo,e))(h2:mh e=some (hi,e)):pC m ml mh e=some (.tup (X2 xs lo hi),e):=by
 unfold pC;rw[h,Qk,h1,Qk,h2];rfl
theorem Cu(l:aq):i9 (l.map D.int)=some l:=by
 induction l with
 |nil=>rfl
 |cons a l ih=>show(i9 (l.map D.int)).map _=_;rw[ih];rfl
theorem E8{m n:Mo Fl}{e1:a9}(h:m e=some (.nx,e1))(h2:n e1=r):C1 m n e=r:=by unfold C1;rw[h];exact h2
theorem BP{t:Mo Bool}{m n:Mo Fl}{e1:a9}(h:t e=some (true,e1))(h2:m e1=r):E2 t m n e=r:=by unfold E2;rw[h];exact h2
theorem M5{t:Mo Bool}{m n:Mo Fl}{e1:a9}(h:t e=some (false,e1))(h2:n e1=r):E2 t m n e=r:=by unfold E2;rw[h];exact h2
theorem jZ{env':a9}{w':W}{ds ds':bb}(h0:env[i]? =some w')(h00:w'.mutL=some ds')(h:m env=some (d,env'))(h1:env'[i]? =some w)(h2:w.mutL=some ds)(hl:ds.length<100000):Ao i m env=some (.nx,env'.set i (w.put (ds++[d]))):=by
 unfold Ao;rw[h0];simp only[Qk,h00,h,h1,h2];rw[Qg hl]
theorem PK{t:Mo Bool}{e1:a9}{r:Option (Bool×a9)}(h:t e=some (false,e1))(h2:u e1=r):O5 t u e=r:=by unfold O5;rw[h];exact h2
theorem kA{t:Mo Bool}{e1:a9}{r:Option (Bool×a9)}(h:t e=some (true,e1))(h2:u e1=r):Z3 t u e=r:=by unfold Z3;rw[h];exact h2
theorem kB{t:Mo Bool}{e1:a9}(h:t e=some (false,e1)):Z3 t u e=some (false,e1):=by unfold Z3;rw[h];rfl
theorem J7{f:Fn}{e1:a9}{r:D}{ws':bf}(h:as env=some (av,e1))(hn:av.length=n)(hs:slots av=[])(hf:f (av.map (N9 (.l [])))=some (.d r,ws')):i7 n f as env=some (r,e1):=CQ (CP h hn hs hf)
theorem KC{names:ar}{keep:ay}{mb:Mo D}{xb:Mx}{fr:Option Str->Option D}{lw:a9}{n:Str}(hw:BF keep env=lw)(hx:xb lw=some n)(hn:names.contains n=true)(hf:fr (some n)=some d):X6 names keep mb xb fr env=some (d,env):=by
 unfold X6 outcome;rw[hw,hx];simp only[hn,Yw,Qk];rw[hf];rfl
theorem kC{C N:Nat}(hC:1≤C)(hC2:C≤900){body last:Mo Fl}{ns:aq}(hb:∀k:Nat,k<1000->∀ws:bf,ws.length=N->∃ws':bf,ws'.length=N+1/\body (.dat (.lst (ns.map D.int))::.dat (.int (k:Int))::ws)=some (.nx,.dat (.lst (ns.map D.int))::ws'))
  (hl:∀ws:bf,ws.length=N+1->∃e,last (.dat (.lst (ns.map D.int))::ws)=some (.ret (.bl true),e)):
  ∃ws',nP (N+2) (C1 (J1 (U1 (B0 (j1 CK (B0 (mC (.int 1)) (B0 (j1 CL (B0 (j1 F2 (B0 (A0 0) B6)) (B0 (mC (.int (C:Int))) B6))) B6))) B6)) (gN 1) body) last) [.dat (.lst (ns.map D.int))]=some (.d (.bl true),ws'):=by
 obtain⟨K,hK,hr⟩:∃K:Nat,K≤C/\(U1 (B0 (j1 CK (B0 (mC (.int 1)) (B0 (j1 CL (B0 (j1 F2 (B0 (A0 0) B6)) (B0 (mC (.int (C:Int))) B6))) B6))) B6)) (.dat (.lst (ns.map D.int))::List.replicate (N+1) .nil)=some (sT K,.dat (.lst (ns.map D.int))::List.replicate (N+1) .nil):=by
  let q:Int:=if(C:Int)<(ns.length:Int)then C else(ns.length:Int)
  let p:Int:=if q>1 then q else 1
  have hq:q≤C:=by simp only[q];split<;>omega
  have hp:1≤p/\p≤C:=by simp only[p];split<;>omega
  refine⟨p.toNat,by omega,Eh (j:=p) (U8 (F1 rfl (F1 (U8 (F1 (U8 (F1 rfl rfl) (show F2 [.lst (ns.map .int)]=some (.int (ns.length:Int))from ?_)) (F1 rfl rfl)) (show CL [.int (ns.length:Int),.int C]=some (.int q)from rfl)) rfl)) (show CK [.int 1,.int q]=some (.int p)from rfl)) (by omega) (by omega)⟩;show some (D.int ((ns.map D.int).length:Nat))=_;rw[Qv]
 obtain⟨e',h1,ws,hws,rfl⟩:=KB (g:=gN 1) (b:=body) (n:=K) (fun _ e=>∃ws:bf,ws.length=N+1/\e=.dat (.lst (ns.map D.int))::ws) (env:=.dat (.lst (ns.map D.int))::List.replicate (N+1) .nil)
  (fun i hi e ⟨ws,hw,he⟩=>by
   subst he
   match ws,hw with
   |w::ws,hw=>
    obtain⟨ws',h1,h2⟩:=hb i (by omega) ws (by simpa using hw);exact⟨_,_,rfl,h2,ws',h1,rfl⟩) ⟨_,by simp,rfl⟩
 obtain⟨e2,h2⟩:=hl ws hws;refine⟨_,O1 (d:=.bl true) (env:=e2) ?_⟩;show C1 _ _ (.dat (.lst (ns.map D.int))::List.replicate (N+1) .nil)=_;exact E8 ((X4 hr).trans h1) h2
theorem Cv{g:bf->Option Str}{e1:a9}{r:Option Str}(h:as env=some (av,e1))(hn:av.length=n)(hs:slots av=[])(hg:g (av.map (N9 (.l [])))=r):V2 n g as env=r:=by
 unfold V2;rw[h,Qk];simp only[hn,Yw,hs];exact hg
end L2.Mir
namespace K33
open PySem L2 L2.Mir
variable{M m:Mo D}{d:D}{e:a9}{es:bb}{j n:Nat}{k:Int}{l:aq}{s:Mo Fl}{x y:Mx}
theorem PL(l:aq):l=rw' l.length (fun j=>l.getD j 0):=by
 apply Rm;intro i
 by_cases h:i<l.length
 ·simp[h]
 ·simp[h]
theorem yT(hk:k=(j:Int))(h:j<l.length):oI (dR l) (.int k)=some (.int (l.getD j 0)):=by
 have:=jQ (n:=l.length) (g:=fun j=>l.getD j 0) h;rw[←PL]at this;rw[hk];exact this
theorem Cw{t u:Mo D}{e1:a9}{r:Option (D×a9)}(h:t e=some (.bl true,e1))(h2:u e1=r):X0 t u e=r:=by unfold X0;rw[h];exact h2
abbrev sU(x:Int):Bool:=decide (1≤x)&&decide (x≤8)
theorem kD(x a b:Int):EU [.dat (.int x),.dat (.int a),.dat (.int b)]=some (.d (.bl (decide (a≤x)&&decide (x≤b))),[.dat (.int x),.dat (.int a),.dat (.int b)]):=by
 refine(O1 (d:=.bl (decide (a≤x)&&decide (x≤b))) (env:=[.dat (.int x),.dat (.int a),.dat (.int b)]) ?_).trans rfl;show JL [.dat (.int x),.dat (.int a),.dat (.int b)]=_;unfold JL;exact V0 (Cw (J7 (av:=[.d (.int x)]) rfl rfl rfl (Om (.int x))) (GP rfl rfl rfl))
def tR(l:aq):Bool:=l.all sU&&(List.range (l.length-1)).all fun k=>decide (l.getD k 0<l.getD (k+1) 0)
theorem GS{N:Mo D}{i j:Int}(hM:M e=some (.int i,e))(hN:N e=some (.int j,e))(hi:i=1)(hj:j=(n:Int))(hn:n≤1000):Q1 (B0 M (B0 N B6)) e=some ((List.range (n-1)).map fun(k:Nat)=>D.int (1+(k:Int)),e):=by
 subst hi hj;unfold Q1;rw[F1 hM (F1 hN rfl),Qk];show(if _ then some (Z7 1 ((n:Int)-1).toNat,_)else none)=_;rw[Qg (by omega)];have:((n:Int)-1).toNat=n-1:=by omega
 rw[this];rfl
theorem PM{α:Type}(l:List α)(p:α->Bool):Av [.lst (l.map fun a=>D.bl (p a))]=some (.bl (l.all p)):=by
 have:U4 (l.map fun a=>D.bl (p a))=some (l.all p):=by
  induction l with
  |nil=>rfl
  |cons a l ih=>rw[Qm];unfold U4;rw[ih];simp
 show(U4 _).map _=_;rw[this];rfl
theorem KD(d:D)(w:Nat)(hw:w≤1000):Cm [.dat d,.dat (.int w)]=some (.d (.bl (qD d w&&tR (pV d))),[.dat d,.dat (.int w)]):=by
 have r:=jH d w (by omega);refine(O1 (d:=.bl (qD d w&&tR (pV d))) (env:=[.dat d,.dat (.int w)]) ?_).trans rfl;show JN [.dat d,.dat (.int w)]=_;unfold JN;have t:=X3 (L7 (J7 (n:=2) (f:=Bm) (as:=B8 (A0 0) (B8 (A0 1) C5)) (env:=[.dat d,.dat (.int w)]) (av:=[.d d,.d (.int w)]) rfl rfl rfl r));cases h:qD d w with
 |false=>rw[h]at t;exact Aa (BP t rfl)
 |true=>
  rw[h]at t;obtain⟨e,hl⟩:=JZ h;generalize pV d=l at e hl ⊢;subst e;have hl:l.length=w:=by omega
  refine E8 (M5 t rfl) ?_;have c1:=X3 (L7 (U8 (F1 (ms:=B6) (U9 (GQ (α:=Int) (mi:=G8 (A0 0)) (keep:=[false,false]) (k:=2) (m:=i7 3 EU (B8 (A0 2) (B8 (mC (.int 1)) (B8 (mC (.int 8)) C5)))) (env:=[.dat (dR l),.dat (.int w)]) (q:=D.int) (f:=fun x=>.bl (sU x)) (l:=l) (base:=[.nil,.nil]) rfl (by omega) rfl rfl (fun x hx=>J7 (av:=[.d (.int x),.d (.int 1),.d (.int 8)]) rfl rfl rfl (kD x 1 8)) (fun w=>rfl))) rfl) (PM l sU)));unfold tR;cases h2:l.all sU with
  |false=>rw[h2]at c1;exact Aa (BP c1 rfl)
  |true=>
   rw[h2]at c1;refine E8 (M5 c1 rfl) (V0 (U8 (F1 (U9 (GQ (α:=Nat) (q:=fun(k:Nat)=>D.int (1+(k:Int))) (f:=fun k=>.bl (decide (l.getD k 0<l.getD (k+1) 0))) (l:=List.range (l.length-1)) (base:=[.dat (dR l),.nil]) ?_ (by simp;omega) rfl rfl (fun k hk=>?_) (fun w=>rfl))) rfl) ?_))
   ·rw[hl];exact GS rfl rfl rfl rfl hw
   ·have hk:=Yp.mp hk;exact D6 (D6 rfl (D6 rfl rfl rfl) (yT (j:=k) (by omega) (by omega))) (D6 rfl rfl (yT (j:=k+1) (by omega) (by omega))) rfl
   ·exact PM _ _
def inb(u l:aq):Bool:=(List.range u.length).all fun k=>decide (l.getD k 0≤u.getD k 0)&&decide (u.getD k 0≤l.getD (k+1) 0)
theorem Y5{as:Mo (List Ar)}{e1 e2:a9}{q:List Ar}(h:m e=some (d,e1))(h2:as e1=some (q,e2)):B8 m as e=some (.d d::q,e2):=by
 unfold B8;rw[h,Qk,h2];rfl
theorem ixD(hk:k=(j:Int))(h:j<es.length):oI (.tup es) (.int k)=some (es.getD j .non):=by
 subst hk;show qE es (j:Int)=_;unfold qE;rw[PB (by omega) (by omega),Qk,Yj,Qe h];simp[h]
theorem KE:(O5 (F5 (mT (pB "tuple" (A0 0)))) (F5 (mT (Q8 oZ oZ (mC (.int 1)) (j1 F2 (B0 (A0 0) B6)) (mC (.int 6)))))) [.dat (.tup es)]=some (!(decide (1≤(es.length:Int))&&decide ((es.length:Int)≤6)),[.dat (.tup es)]):=
 PK rfl (X3 (L7 (GP rfl (U8 (F1 rfl rfl) rfl) rfl)))
theorem PN(l:aq):pV (dR l)=l:=Oq l
theorem PQ(h:l.Pairwise (· < ·)){k:Nat}(hk:k+1<l.length):l.getD k 0<l.getD (k+1) 0:=by
 have:=List.pairwise_iff_getElem.mp h k (k+1) (by omega) hk (by omega);simpa [Zl,Qe hk,Qe (show k<l.length by omega)]using this
theorem kE(h:l.Pairwise (· < ·))(b:∀x∈l,1≤x/\x≤8):tR l=true:=by
 unfold tR;rw[Qr,Zb,Zb];refine⟨fun x hx=>?_,fun k hk=>?_⟩
 ·have:=b x hx;unfold sU;simp[this]
 ·have:=Yp.mp hk;exact Yb (PQ h (by omega))
def xI(n:Nat):aq:=(List.range n).map fun(k:Nat)=>1+(k:Int)
theorem kF{j:Int}(hM:M e=some (.int j,e))(hj:j=(n:Int)+1)(hn:n≤900):Ff (Q1 (B0 (mC (.int 1)) (B0 M B6))) e=some (dR (xI n),e):=by
 have:=GS (M:=mC (.int 1)) (n:=n+1) (e:=e) (i:=1) (j:=j) rfl hM rfl (show j=((n+1:Nat):Int) by omega) (by omega);unfold Ff;rw[this];show some (D.tup _,_)=_;unfold dR xI;rw[Nat.add_sub_cancel,Ys];rfl
def yU(o:Option D)(k:Int):Bool:=match o with
 |some (.int i)=>i==k
 |_=>false
theorem PR{o:Option D}(h:yU o k=true):o=some (.int k):=by
 unfold yU at h;split at h
 ·rw[Pk h]
 ·cases h
theorem KG{t:Mo Bool}{e1:a9}(h:t e=some (true,e1)):tP t x y e=x e1:=by unfold tP;rw[h];rfl
theorem GU{n:Str}(h:x e=some n):V1 x s y e=some n:=by unfold V1;rw[h]
theorem KH{e1:a9}{r:Option Str}(h:x e=none)(hs:s e=some (.nx,e1))(hy:y e1=r):V1 x s y e=r:=by unfold V1;rw[h,hs];exact hy
theorem KI{t:Mo Bool}{e1:a9}(h:t e=some (false,e1)):tP t x y e=y e1:=by unfold tP;rw[h];rfl
theorem Ds:∀(l:aq) (j:Nat) (x:Int),l[j]? =some x->(x::l.eraseIdx j).Perm l
 |[],j,x,h=>by simp at h
 |y::l,0,x,h=>by simp at h;subst h;exact .refl _
 |y::l,j+1,x,h=>by
  simp only[List.getElem?_cons_succ]at h;rw[Uy];exact(List.Perm.swap y x _).trans ((Ds l j x h).cons y)
def pW:aq->OO
 |[]=>[[]]
 |x::xs=>pW xs++(pW xs).map (x:: ·)
theorem kG{xs:aq}(h:l.Sublist xs):l∈pW xs:=by
 induction h with
 |slnil=>exact List.mem_singleton.mpr rfl
 |cons a _ ih=>exact Xk _ ih
 |cons_cons a _ ih=>exact Zu _ (Zm.mpr ⟨_,ih,rfl⟩)
theorem KJ:∀{xs l:aq},xs.Pairwise (· < ·)->l.Pairwise (· < ·)->(∀x∈l,x∈xs)->l.Sublist xs
 |[],l,_,_,h=>by
  cases l with
  |nil=>exact .slnil
  |cons x r=>exact absurd (h x (by simp)) (by simp)
 |y::ys,[],_,_,_=>List.nil_sublist _
 |y::ys,x::r,hx,hl,h=>by
  have hx':=Yc.mp hx;have hl':=Yc.mp hl;rcases Qp.mp (h x (by simp))with e|e
  ·subst e;refine .cons_cons _ (KJ hx'.2 hl'.2 fun z hz=>?_);have:=hl'.1 z hz;rcases Qp.mp (h z (by simp[hz]))with q|q
   ·omega
   ·exact q
  ·refine .cons _ (KJ hx'.2 hl fun z hz=>?_);have hy:=hx'.1 x e;rcases Qp.mp hz with q|q
   ·subst q;exact e
   ·have:=hl'.1 z q;rcases Qp.mp (h z hz)with w|w
    ·omega
    ·exact w
structure RS(l:aq):Prop where
 up:l.Pairwise (· < ·)
 bd:∀x∈l,1≤x/\x≤8
 lo:1≤l.length
 hi:l.length≤6
abbrev b8:aq:=[1,2,3,4,5,6,7,8]
theorem RS.mem(h:RS l):l∈pW b8:=kG (KJ (by decide) h.up fun x hx=>by
 have:=h.bd x hx;have:x=1\/x=2\/x=3\/x=4\/x=5\/x=6\/x=7\/x=8:=by omega
 simpa using this)
def o5:aq->Bool
 |[]=>true
 |[_]=>true
 |x::y::l=>decide (x<y)&&o5 (y::l)
theorem GV:∀{l:aq},o5 l=true->l.Pairwise (· < ·)
 |[],_=>.nil
 |[x],_=>by simp
 |x::y::l,h=>by
  unfold o5 at h;rw[Qr,Yk]at h;have q:=GV h.2;refine Yc.mpr ⟨fun z hz=>?_,q⟩;rcases Qp.mp hz with e|e
  ·subst e;exact h.1
  ·have:=(Yc.mp q).1 z e;omega
def KL(l:aq)(d:D):Bool:=qD d ((l.length-1:Nat):Int)&&(o5 (pV d)&&((pV d).all sU&&inb (pV d) l))
def xJ(a b:Int):aq:=(List.range (b-a+1).toNat).map fun(k:Nat)=>a+(k:Int)
def yV:aq->OO->OO
 |[],R=>R
 |[_],R=>R
 |a::b::l,R=>yV (b::l) (R.flatMap fun r=>((xJ a b).filter fun x=>!r.contains x).map fun x=>r++[x])
def ov(l:aq):OO:=yV l [[]]
def Cy(l:aq)(o:Option (Rr×bf)):Bool:=match o with
 |some (.d (.lst ds),_)=>ds.all (KL l)&&decide (ds.map pV=ov l)
 |_=>false
def O9(l:aq):Bool:=if 2≤l.length/\l.length≤6 then decide ((ov l).length≤1000)&&(Cy l (Z1 [.dat (dR l)])&&Cy l (W5 [.dat (dR l)]))else true
abbrev sl(i:Nat):OO:=((pW b8).drop (16 * i)).take 16
theorem co0:(sl 0).all O9=true:=by rfl'
theorem co1:(sl 1).all O9=true:=by rfl'
theorem co2:(sl 2).all O9=true:=by rfl'
theorem co3:(sl 3).all O9=true:=by rfl'
theorem co4:(sl 4).all O9=true:=by rfl'
theorem co5:(sl 5).all O9=true:=by rfl'
theorem co6:(sl 6).all O9=true:=by rfl'
theorem co7:(sl 7).all O9=true:=by rfl'
theorem co8:(sl 8).all O9=true:=by rfl'
theorem co9:(sl 9).all O9=true:=by rfl'
theorem kH:(sl 10).all O9=true:=by rfl'
theorem kI:(sl 11).all O9=true:=by rfl'
theorem kJ:(sl 12).all O9=true:=by rfl'
theorem kK:(sl 13).all O9=true:=by rfl'
theorem kL:(sl 14).all O9=true:=by rfl'
theorem kM:(sl 15).all O9=true:=by rfl'
theorem kN:pW b8=(sl 0++(sl 1++(sl 2++(sl 3++(sl 4++(sl 5++(sl 6++(sl 7++(sl 8++(sl 9++(sl 10++(sl 11++(sl 12++(sl 13++(sl 14++sl 15))))))))))))))):=by rfl'
theorem kO:(pW b8).all O9=true:=by
 rw[kN];simp only[List.all_append,co0,co1,co2,co3,co4,co5,co6,co7,co8,co9,kH,kI,kJ,kK,kL,kM,Bool.and_self]
theorem KM{o:Option (Rr×bf)}(h:RS l)(h2:2≤l.length)(q:Cy l o=true):(∃ws,o=some (.d (.lst ((ov l).map dR)),ws))/\∀r∈ov l,RS r/\r.length+1=l.length:=by
 unfold Cy at q;split at q
 ·rename_i ds ws;simp only[Qr,Yk,Zb]at q;obtain⟨q3,q4⟩:=q;have ed:ds=(ds.map pV).map dR:=by
   rw[Ys]
   conv=>lhs;rw[←List.map_id ds]
   refine List.map_congr_left fun d hd=>?_;have:=q3 d hd;unfold KL at this;rw[Qr]at this;exact(JZ this.1).1
  refine⟨⟨ws,by rw[←q4,←ed]⟩,fun r hr=>?_⟩;rw[←q4]at hr;obtain⟨d,hd,rfl⟩:=Zm.mp hr;have:=q3 d hd;unfold KL at this;simp only[Qr,Zb]at this;have hl:=(JZ this.1).2;have hi:=h.hi;refine⟨⟨GV this.2.1,fun x hx=>?_,by omega,by omega⟩,by omega⟩;have:=this.2.2.1 x hx;unfold sU at this;simpa using this
 ·cases q
theorem KN(h:RS l)(h2:2≤l.length):(ov l).length≤1000/\Cy l (Z1 [.dat (dR l)])=true/\Cy l (W5 [.dat (dR l)])=true:=by
 have q:=Zb.mp kO l h.mem;unfold O9 at q;rw[Qg ⟨h2,h.hi⟩]at q;simpa only[Qr,Yk]using q
theorem PU(h:RS l)(h2:2≤l.length):∃ws,Z1 [.dat (dR l)]=some (.d (.lst ((ov l).map dR)),ws):=(KM h h2 (KN h h2).2.1).1
theorem PV(h:RS l)(h2:2≤l.length):∃ws,W5 [.dat (dR l)]=some (.d (.lst ((ov l).map dR)),ws):=(KM h h2 (KN h h2).2.2).1
theorem kP(h:RS l)(h2:2≤l.length):∀r∈ov l,RS r/\r.length+1=l.length:=(KM h h2 (KN h h2).2.1).2
theorem PX{α β:Type}(f:α->β):∀(l:List α) (j:Nat),(l.map f).eraseIdx j=(l.eraseIdx j).map f
 |[],j=>by simp
 |x::l,0=>rfl
 |x::l,j+1=>by rw[Qm,Uy,Uy,Qm,PX f l j]
theorem PY{α:Type}{g:OX}{m:Mo D}{q:α->D}{N:Nat}(R:bb->a9->Prop):∀{l:List α}{acc:bb}{env:a9},acc.length+l.length≤N->(∀a acc e,acc.length<N->R acc e->∃e1 e2 d,g (q a) e=some e1/\m e1=some (d,e2)/\R (acc++[d]) e2)->R acc env->
  ∃ds env',O0 g F7 m (l.map q) env=some (ds,env')/\ds.length=l.length/\R (acc++ds) env'
 |[],acc,env,_,_,p=>⟨[],env,rfl,rfl,by rw[Jo];exact p⟩
 |a::l,acc,env,hn,h,p=>by
  rw[Zd]at hn;obtain⟨e1,e2,d,h1,h2,h3⟩:=h a acc env (by omega) p;obtain⟨ds,e3,h4,h5,h6⟩:=PY R (l:=l) (acc:=acc++[d]) (env:=e2) (by rw[Zx,List.length_singleton];omega) h h3;refine⟨d::ds,e3,?_,by rw[Zd,Zd,h5],by rw[Ue]at h6;exact h6⟩;rw[Qm];unfold O0;rw[h1,Qk];show(m e1).bind _=_;rw[h2,Qk,h4];rfl
theorem kQ{i:Nat}{e1:a9}{w w0:W}{ds ds0:bb}{v:Int}(h0:e[i]? =some w0)(h00:w0.mutL=some ds0)(hm:m e=some (.int v,e1))(h1:e1[i]? =some w)(h2:w.mutL=some ds)(v0:0≤v)(vl:v<ds.length)(hl:ds.length≤1000)(hd:ds[v.toNat]? =some d):De i m e=some (d,e1.set i (w.put (ds.eraseIdx v.toNat))):=by
 unfold De;rw[h0,Qk,h00,Qk,hm,Qk];show(e1[i]?).bind _=_;rw[h1,Qk,h2,Qk];show(if _ then _ else _)=_;rw[Qg (by omega),PB v0 (by omega),Qk,hd];rfl
theorem kR{a:Int}{b:Bool}(ha:0≤a):∃l a',Ed [.par [.int a,.bl b],.dat (.int 6)]=some (.d (dR l),[.par [.int a',.bl b],.dat (.int 6)])/\0≤a'/\RS l:=by
 obtain⟨v,a1,tk,v0,v6,a10⟩:=Eg (i:=0) (e:=[.par [.int a,.bl b],.dat (.int 6),.nil,.nil,.nil]) (w:=.par [.int a,.bl b]) (k:=6) (M:=A0 1) rfl rfl rfl ha (by decide) (by decide);obtain⟨m,hm⟩:∃m:Nat,1+v=(m:Int):=⟨(1+v).toNat,by omega⟩;obtain⟨ds,e',hc,hl,a2,x,as,rest,a20,hacc,hp,rfl⟩:=PY (g:=gN 5) (m:=De 3 (i7 2 Y1 (Q9 0 (B8 (Fg 3) C5)))) (q:=fun(j:Nat)=>D.int j) (N:=6) (l:=List.range m) (acc:=[]) (env:=[.par [.int a1,.bl b],.nil,.nil,.own (b8.map D.int),.nil,.nil])
  (fun acc e=>∃a x as rest,0≤a/\acc=as.map D.int/\(as++rest).Perm b8/\e=[.par [.int a,.bl b],.nil,.nil,.own (List.map D.int rest),.nil,x]) (by simp;omega)
  (fun j acc e hlt ⟨a,x,as,rest,ha,hacc,hp,he⟩=>by
   subst he hacc;have hlen:=hp.length_eq;rw[Zx]at hlen;rw[Qv]at hlt;have h8:b8.length=8:=rfl;obtain⟨u,a',tk,u0,ul,a0'⟩:=Eg (i:=0) (e:=[.par [.int a,.bl b],.nil,.nil,.own (List.map D.int rest),.nil,.dat (.int j)]) (w:=.par [.int a,.bl b]) (k:=(rest.map D.int).length) (M:=Fg 3) rfl rfl rfl ha (by rw[Qv];omega) (by rw[Qv];omega);rw[Qv]at ul;obtain⟨y,hy⟩:∃y,rest[u.toNat]? =some y:=⟨_,Qe (by omega)⟩;refine⟨_,_,.int y,rfl,kQ (v:=u) (ds:=rest.map D.int) (w:=.own (rest.map D.int)) rfl rfl tk rfl rfl u0 (by rw[Qv];omega) (by rw[Qv];omega) (by rw[Zw,hy];rfl),a',.dat (.int j),as++[y],rest.eraseIdx u.toNat,a0',by rw[Ju];rfl,?_,?_⟩
   ·rw[Ue];exact((Ds rest u.toNat y hy).append_left as).trans hp
   ·rw[←PX];rfl) ⟨a1,_,[],b8,a10,rfl,.refl _,rfl⟩
 rw[Pl]at hacc;subst hacc;rw[Qv,Ve]at hl;have hs:(K9 as).length=m:=by rw[(Ac as).length_eq];exact hl
 have nd:(as++rest).Nodup:=hp.nodup_iff.mpr (by decide);have xF:(K9 as).Nodup:=(Ac as).nodup_iff.mpr (Xq.mp nd).1;refine⟨K9 as,a2,(O1 (d:=dR (K9 as)) (env:=[.par [.int a2,.bl b],.dat (.int 6),.dat (.int m),.own (List.map D.int rest),.dat (.lst (as.map D.int))]) ?_).trans rfl,a20,⟨?_,fun x hx=>?_,by omega,by omega⟩⟩
 ·show JU [.par [.int a,.bl b],.dat (.int 6),.nil,.nil,.nil]=_;unfold JU;refine E8 (Ab (d:=.int m) (e1:=[.par [.int a1,.bl b],.dat (.int 6),.nil,.nil,.nil]) (D6 rfl tk (by rw[←hm];rfl))) (E8 (Hj (e1:=[.par [.int a1,.bl b],.dat (.int 6),.dat (.int m),.nil,.nil]) (d:=b8.map D.int) rfl) (E8 (Hj (e1:=[.par [.int a2,.bl b],.dat (.int 6),.dat (.int m),.own (List.map D.int rest),.nil]) (d:=as.map D.int) (Hi (e2:=[.par [.int a2,.bl b],.nil,.nil,.own (List.map D.int rest),.nil,x]) (Eh (n:=m) rfl rfl (by omega)) (by simp;omega) hc rfl)) (V0 (U8 (F1 (U9 (ds:=(K9 as).map D.int) (FX (F1 rfl rfl) ?_)) rfl) rfl))));simp only[GF,Cu,Qk];rw[Qg (by omega)]
 ·have q:=List.pairwise_and_iff.mpr ⟨DZ as,xF⟩;exact q.imp fun{x y} z=>by have:=z.2;omega
 ·have hx:=(Ac as).mem_iff.mp hx;have:=hp.mem_iff.mp (Xk rest hx);simp at this;omega
theorem PZ(val:Nat->Int):∀i,(PyProof.Rows.firstMet val i).Nodup
 |0=>.nil
 |i+1=>by
  rw[PyProof.Rows.firstMet_succ];unfold PyProof.Rows.step_dedup;have ih:=PZ val i;split
  ·exact ih
  ·rename_i h;exact Xq.mpr ⟨ih,by simp,fun a ha b hb=>by
    rw[Jg.mp hb];rintro rfl;exact h (by simpa using ha)⟩
theorem QA(val:Nat->Int):∀i,((List.range i).map val).Nodup->PyProof.Rows.firstMet val i=(List.range i).map val
 |0,_=>rfl
 |i+1,h=>by
  rw[List.range_succ,Ju]at h;have q:=Xq.mp h;rw[PyProof.Rows.firstMet_succ,QA val i q.1,List.range_succ,Ju];unfold PyProof.Rows.step_dedup;rw[Qb]
  ·rfl
  ·intro hm;exact q.2.2 (val i) (by simpa using hm) (val i) (by simp) rfl
theorem QB:∀{l:aq},(∀k,k+1<l.length->l.getD k 0<l.getD (k+1) 0)->o5 l=true
 |[],_=>rfl
 |[_],_=>rfl
 |x::y::l,h=>by
  unfold o5;rw[Qr,Yk];exact⟨by simpa using h 0 (by simp),QB fun k hk=>by simpa using h (k+1) (by simpa using hk)⟩
theorem kT(l:aq):decide (l=K9 (R8 l))=(List.range (l.length-1)).all fun k=>decide (l.getD k 0<l.getD (k+1) 0):=by
 rw[Bool.eq_iff_iff,Yk,Zb]
 constructor
 ·intro e k hk;have hk:=Yp.mp hk;have hn:(K9 (R8 l)).Nodup:=(Ac _).nodup_iff.mpr (PZ _ _);have up:l.Pairwise (· < ·):=by
   rw[e];exact(List.pairwise_and_iff.mpr ⟨DZ (R8 l),hn⟩).imp fun{x y} z=>by have:=z.2;omega
  exact Yb (PQ up (by omega))
 ·intro h;have up:=GV (QB (l:=l) fun k hk=>of_decide_eq_true (h k (Yp.mpr (by omega))));have hl:(List.range l.length).map (fun i=>l.getD i 0)=l:=(PL l).symm;have hd:R8 l=l:=by
   unfold R8;rw[QA _ _ (by rw[hl];exact up.imp fun{a b} z=>by omega),hl]
  rw[hd];exact Nl (.refl _) (up.imp fun{a b} z=>by omega)
theorem QC:∀xs:bb,(xs.all fun x=>uQ x 1 8)=(xs.all rG&&(xs.map rQ).all sU)
 |[]=>rfl
 |x::xs=>by
  rw[Uk,Uk,Qm,Uk,QC xs];cases x<;>first|rfl|skip
  rename_i i;show((decide (1≤i)&&decide (i≤8))&&(_&&_))=(_&&((decide (1≤i)&&decide (i≤8))&&_));exact Bool.and_left_comm _ _ _
end K33
namespace L2.Mir
open PySem L2
variable{base e env:a9}{d:D}{i k:Nat}{m:Mo D}{mi mi2:Mo bb}{v w w2:W}{α β:Type}
theorem QD{α:Type}{g:OX}{t:Mo Bool}{a:Mo bb}{q:α->D}{p:α->Bool}{z:α->bb}{P:a9->Prop}:∀{l:List α},(∀x∈l,∀e,P e->∃e1 e2,g (q x) e=some e1/\t e1=some (p x,e2)/\(p x=false->P e2)/\(p x=true->∃e3,a e2=some (z x,e3)/\P e3))->
  ∀e,P e->∃e',N2 g t a (l.map q) e=some ((l.filter p).flatMap z,e')/\P e'
 |[],_,e,p=>⟨e,rfl,p⟩
 |x::l,h,e,pe=>by
  obtain⟨e1,e2,h1,h2,p2,h3⟩:=h x (Zv ..) e pe;have ih:=QD (l:=l) (fun y hy=>h y (Qo _ hy));show∃e',((g (q x) e).bind fun e1=>(t e1).bind fun p=>if p.1 then(a p.2).bind fun q'=>(N2 g t a (l.map q) q'.2).map fun r=>(q'.1++r.1,r.2)else N2 g t a (l.map q) p.2)=some (((x::l).filter p).flatMap z,e')/\P e';rw[h1,Qk,h2,Qk];cases hp:p x with
  |false=>
   obtain⟨e',h4,p4⟩:=ih e2 (p2 hp);refine⟨e',?_,p4⟩;rw[Qb (by simp),Tu (by simp[hp])];exact h4
  |true=>
   obtain⟨e3,h5,p5⟩:=h3 hp;obtain⟨e',h4,p4⟩:=ih e3 p5;refine⟨e',?_,p4⟩;rw[Qg rfl,h5,Qk,h4,Tp hp,Vq];rfl
theorem QE{α:Type}{g:OX}{a:Mo bb}{q:α->D}{z:α->bb}{P:a9->Prop}:∀{l:List α},(∀x∈l,∀e,P e->∃e1 e2,g (q x) e=some e1/\a e1=some (z x,e2)/\P e2)->
  ∀e,P e->∃e',N2 g F7 a (l.map q) e=some (l.flatMap z,e')/\P e'
 |[],_,e,p=>⟨e,rfl,p⟩
 |x::l,h,e,p=>by
  obtain⟨e1,e2,h1,h2,p2⟩:=h x (Zv ..) e p;obtain⟨e',h3,p3⟩:=QE (l:=l) (fun y hy=>h y (Qo _ hy)) e2 p2;refine⟨e',?_,p3⟩;show((g (q x) e).bind fun e1=>(F7 e1).bind fun p=>if p.1 then(a p.2).bind fun q'=>(N2 g F7 a (l.map q) q'.2).map fun r=>(q'.1++r.1,r.2)else N2 g F7 a (l.map q) p.2)=_;rw[h1];show((a e1).bind fun q'=>(N2 g F7 a (l.map q) q'.2).map fun r=>(q'.1++r.1,r.2))=_;rw[h2];show(N2 g F7 a (l.map q) e2).map (fun r=>(z x++r.1,r.2))=_;rw[h3,Vq];rfl
theorem kU{α:Type}(z:α->aq):∀l:List α,(l.flatMap z).sum=(l.map fun x=>(z x).sum).sum
 |[]=>rfl
 |x::l=>by rw[Vq,List.sum_append,kU z l,Qm,List.sum_cons]
theorem kW(l:aq):Dc [.lst (l.map D.int)]=some (.int l.sum):=by
 show(i9 _).map _=_;rw[Cu];rfl
theorem kX{keep:ay}{more:Nat}{g:OX}{t:Mo Bool}{a:Mo bb}{e1 e2 e3:a9}{ds r:bb}(h:mi env=some (ds,e1))(hc:N2 g t a ds (K5 keep more e1)=some (r,e2))(hl:r.length≤100000)(ho:K6 keep e1 e2=some e3):
  V5 mi keep more g t a env=some (r,e3):=by
 unfold V5;rw[h,Qk,hc,Qk];simp only[hl,Yw];rw[ho];rfl
theorem QF{α β:Type}(f:α->β):∀l:List α,(l.flatMap fun x=>[f x])=l.map f
 |[]=>rfl
 |x::l=>by rw[Vq,QF f l];rfl
theorem kY(h:base.length=k):(base++[w,w2]).set k v=base++[v,w2]:=by
 subst h;rw[Xx _ _ (Qy _),Nat.sub_self];rfl
theorem kZ(h:base.length=k):(base++[w,w2]).set (k+1) v=base++[w,v]:=by
 subst h;rw[Xx _ _ (by omega)];have:base.length+1-base.length=1:=by omega
 rw[this];rfl
theorem lA{e1:a9}(h:m e=some (d,e1)):L8 m e=some ([d],e1):=by unfold L8;rw[h];rfl
theorem lB{keep:ay}{t:Mo Bool}{l:List α}{l2:α->List β}{q:α->D}{q2:α->β->D}{p:α->β->Bool}{f:α->β->D}(hi:mi env=some (l.map q,env))(hb:K5 keep 0 env=base)(hk:base.length=k)
  (h2:∀a∈l,∀w,mi2 (base++[.dat (q a),w])=some ((l2 a).map (q2 a),base++[.dat (q a),w]))
  (h:∀a∈l,∀b∈l2 a,t (base++[.dat (q a),.dat (q2 a b)])=some (p a b,base++[.dat (q a),.dat (q2 a b)])/\(p a b=true->m (base++[.dat (q a),.dat (q2 a b)])=some (f a b,base++[.dat (q a),.dat (q2 a b)])))
  (hl:(l.flatMap fun a=>((l2 a).filter (p a)).map (f a)).length≤100000)(ho:∀w w2,K6 keep env (base++[w,w2])=some env):
  V5 mi keep 2 (gN k) F7 (sQ mi2 (gN (k+1)) t (L8 m)) env=some (l.flatMap fun a=>((l2 a).filter (p a)).map (f a),env):=by
 have hx:K5 keep 2 env=base++[.nil,.nil]:=by rw[←hb];unfold K5;simp
 obtain⟨e',h1,w,w2,rfl⟩:=QE (g:=gN k) (a:=sQ mi2 (gN (k+1)) t (L8 m)) (q:=q) (z:=fun a=>((l2 a).filter (p a)).map (f a)) (l:=l) (P:=fun e=>∃w w2,e=base++[w,w2])
  (fun a ha e ⟨w,w2,he⟩=>by
   subst he;obtain⟨e2,h4,w3,rfl⟩:=QD (g:=gN (k+1)) (t:=t) (a:=L8 m) (q:=q2 a) (p:=p a) (z:=fun b=>[f a b]) (l:=l2 a) (P:=fun e=>∃w,e=base++[.dat (q a),w])
    (fun b hb e ⟨w,he⟩=>by
     subst he;obtain⟨h5,h6⟩:=h a ha b hb;exact⟨_,_,by unfold gN;rw[kZ hk],h5,fun _=>⟨_,rfl⟩,fun hp=>⟨_,lA (h6 hp),_,rfl⟩⟩) (base++[.dat (q a),w2]) ⟨_,rfl⟩
   refine⟨base++[.dat (q a),w2],base++[.dat (q a),w3],by unfold gN;rw[kY hk],?_,_,_,rfl⟩
   ·unfold sQ;rw[h2 a ha,Qk];dsimp only;rw[h4,QF]) (base++[.nil,.nil]) ⟨_,_,rfl⟩
 exact kX hi (by rw[hx];exact h1) hl (ho _ _)
theorem lC{keep:ay}{l:List α}{l2:α->List β}{q:α->D}{q2:α->β->D}{f:α->β->D}(hi:mi env=some (l.map q,env))(hb:K5 keep 0 env=base)(hk:base.length=k)
  (h2:∀a∈l,∀w,mi2 (base++[.dat (q a),w])=some ((l2 a).map (q2 a),base++[.dat (q a),w]))
  (h:∀a∈l,∀b∈l2 a,m (base++[.dat (q a),.dat (q2 a b)])=some (f a b,base++[.dat (q a),.dat (q2 a b)]))
  (hl:(l.flatMap fun a=>(l2 a).map (f a)).length≤100000)(ho:∀w w2,K6 keep env (base++[w,w2])=some env):
  V5 mi keep 2 (gN k) F7 (sQ mi2 (gN (k+1)) F7 (L8 m)) env=some (l.flatMap fun a=>(l2 a).map (f a),env):=by
 have e:(fun a=>((l2 a).filter fun _=>true).map (f a))=fun a=>(l2 a).map (f a):=by
  funext a;rw[Po.mpr (fun _ _=>rfl)]
 have:=lB (p:=fun _ _=>true) (f:=f) (t:=F7) hi hb hk h2 (fun a ha b hb=>⟨rfl,fun _=>h a ha b hb⟩) (by rw[e];exact hl) ho;rw[e]at this;exact this
theorem QG(l:List α)(p q:α->D):Az (l.map p) (l.map q)=l.map fun a=>.tup [p a,q a]:=by
 unfold Az
 induction l with
 |nil=>rfl
 |cons a l ih=>rw[Qm,Qm,Rw,Qm,ih,Qm]
theorem lD{ms:Mo bb}{e1:a9}{a b:D}{l:List α}{p q:α->D}(h:ms e=some ([a,b],e1))(ha:a.items=some (l.map p))(hb:b.items=some (l.map q)):CN ms e=some (l.map fun a=>.tup [p a,q a],e1):=by
 unfold CN;rw[h];show a.items.bind _=_;rw[ha];show b.items.map _=_;rw[hb,Zi,QG]
theorem AJ{e1 e2:a9}(h:m env=some (d,e1))(he:e1.set i (.dat d)=e2):E3 i m env=some (.nx,e2):=by rw[Ab h,he]
theorem GW{m:Mo bb}{e1 e2:a9}{d:bb}(h:m env=some (d,e1))(he:e1.set i (.own d)=e2):K8 i m env=some (.nx,e2):=by rw[Hj h,he]
abbrev up(a n:Nat):List Nat:=(List.range (n-a)).map (a+ ·)
end L2.Mir
namespace K33
open PySem L2 L2.Mir
variable{M:List (OO)}{d:D}{e:a9}{es:bb}{i j k m:Nat}{l u:aq}{p:aq×Int}{w0 w2:W}
abbrev Ct:=List (aq×Int)
variable{T:Ct}
def M1:Ct->aq->Int->Ct
 |[],u,n=>[(u,0+n)]
 |p::t,u,n=>if p.1=u then(p.1,p.2+n)::t else p::M1 t u n
def lk:Ct->aq->Int
 |[],_=>0
 |p::t,u=>if p.1=u then p.2 else lk t u
def kS(S:Ct):List KX:=S.map fun p=>KX.t p.1
def vS(S:Ct):bb:=S.map fun p=>D.int p.2
def Nd(S:Ct):Prop:=(S.map Prod.fst).Nodup
theorem Cz{a b:aq}(h:a≠b):KX.t a≠KX.t b:=fun e=>h (by cases e;rfl)
theorem QH(u:aq):∀S:Ct,(qA (kS S) (vS S) (.t u)).getD (.int 0)=.int (lk S u)
 |[]=>rfl
 |p::t=>by
  show(if KX.t p.1=KX.t u then some (D.int p.2)else qA (kS t) (vS t) (.t u)).getD (.int 0)=.int (if p.1=u then p.2 else lk t u)
  by_cases h:p.1=u
  ·rw[Qg (by rw[h]),Qg h];rfl
  ·rw[Qb (Cz h),Qb h];exact QH u t
theorem QI{u:aq}:∀{S:Ct},u∈S.map Prod.fst->qA (kS S) (vS S) (.t u)=some (.int (lk S u))
 |[],h=>by simp at h
 |p::t,h=>by
  show(if KX.t p.1=KX.t u then some (D.int p.2)else qA (kS t) (vS t) (.t u))=some (.int (if p.1=u then p.2 else lk t u))
  by_cases e:p.1=u
  ·rw[Qg (by rw[e]),Qg e]
  ·rw[Qb (Cz e),Qb e];refine QI ?_;rw[Qm]at h;exact(Qp.mp h).resolve_left fun z=>e z.symm
theorem QJ:∀{S:Ct}{p:aq×Int},Nd S->p∈S->lk S p.1=p.2
 |[],p,_,h=>by cases h
 |q::t,p,nd,h=>by
  unfold Nd at nd;rw[Qm,Ud]at nd;show(if q.1=p.1 then q.2 else lk t p.1)=_;rcases Qp.mp h with rfl|h
  ·rw[Qg rfl]
  ·rw[Qb fun e=>nd.1 (by rw[e];exact Xg h)];exact QJ nd.2 h
theorem GX{u:aq}:∀{S:Ct},u∉S.map Prod.fst->Q4 (kS S) (.t u)=false/\lk S u=0/\(∀n,M1 S u n=S++[(u,0+n)])/\∀d,rL (kS S) (vS S) (.t u) d=vS S
 |[],_=>⟨rfl,rfl,fun _=>rfl,fun _=>rfl⟩
 |p::t,h=>by
  rw[Qm,Qp,not_or]at h;obtain⟨a,b,c,d⟩:=GX h.2;have e:p.1≠u:=fun z=>h.1 z.symm;refine⟨?_,?_,fun n=>?_,fun x=>?_⟩
  ·show(if KX.t p.1=KX.t u then true else Q4 (kS t) (.t u))=_;rw[Qb (Cz e)];exact a
  ·show(if p.1=u then p.2 else lk t u)=_;rw[Qb e];exact b
  ·show(if p.1=u then _ else p::M1 t u n)=_;rw[Qb e,c];rfl
  ·show(if KX.t p.1=KX.t u then x::rL (kS t) (vS t) (.t u) x else D.int p.2::rL (kS t) (vS t) (.t u) x)=_;rw[Qb (Cz e),d];rfl
theorem KO{u:aq}:∀{S:Ct},Nd S->u∈S.map Prod.fst->Q4 (kS S) (.t u)=true/\∀n,(M1 S u n).map Prod.fst=S.map Prod.fst/\rL (kS S) (vS S) (.t u) (.int (lk S u+n))=vS (M1 S u n)
 |[],_,h=>by simp at h
 |p::t,nd,h=>by
  have nd':=nd;unfold Nd at nd';rw[Qm,Ud]at nd'
  by_cases e:p.1=u
  ·subst e;obtain⟨a,b,c,d⟩:=GX nd'.1;refine⟨?_,fun n=>⟨?_,?_⟩⟩
   ·show(if KX.t p.1=KX.t p.1 then true else Q4 (kS t) (.t p.1))=_;rw[Qg rfl]
   ·show(if p.1=p.1 then(p.1,p.2+n)::t else p::M1 t p.1 n).map Prod.fst=_;rw[Qg rfl];rfl
   ·show(if KX.t p.1=KX.t p.1 then D.int ((if p.1=p.1 then p.2 else lk t p.1)+n)::rL (kS t) (vS t) (.t p.1) _ else _)=vS (if p.1=p.1 then(p.1,p.2+n)::t else p::M1 t p.1 n);rw[Qg rfl,Qg rfl,Qg rfl,d];rfl
  ·have hm:u∈t.map Prod.fst:=(Qp.mp (by rw[Qm]at h;exact h)).resolve_left fun z=>e z.symm;obtain⟨a,b⟩:=KO nd'.2 hm;refine⟨?_,fun n=>⟨?_,?_⟩⟩
   ·show(if KX.t p.1=KX.t u then true else Q4 (kS t) (.t u))=_;rw[Qb (Cz e)];exact a
   ·show(if p.1=u then(p.1,p.2+n)::t else p::M1 t u n).map Prod.fst=_;rw[Qb e,Qm,(b n).1];rfl
   ·show(if KX.t p.1=KX.t u then _ else D.int p.2::rL (kS t) (vS t) (.t u) (.int ((if p.1=u then p.2 else lk t u)+n)))=vS (if p.1=u then(p.1,p.2+n)::t else p::M1 t u n);rw[Qb (Cz e),Qb e,Qb e,(b n).2];rfl
theorem lE{S:Ct}(h:S.map Prod.fst=T.map Prod.fst):kS S=kS T:=by
 have e:∀S:Ct,kS S=(S.map Prod.fst).map KX.t:=fun S=>by rw[Ys];rfl
 rw[e,e,h]
theorem QK{S:Ct}(nd:Nd S)(u:aq)(n:Int):Y7 (kS S) (.t u)=kS (M1 S u n)/\BJ (kS S) (vS S) (.t u) (.int (lk S u+n))=vS (M1 S u n):=by
 unfold Y7 BJ
 by_cases h:u∈S.map Prod.fst
 ·obtain⟨a,b⟩:=KO nd h;rw[a,Qg rfl,Qg rfl];exact⟨lE (b n).1.symm,(b n).2⟩
 ·obtain⟨a,b,c,d⟩:=GX h;rw[a,c,b];refine⟨?_,?_⟩
  ·unfold kS;rw[Ju];rfl
  ·unfold vS;rw[Ju];rfl
theorem lF(S:Ct)(u:aq)(n:Int)(nd:Nd S):Nd (M1 S u n)/\∀k∈(M1 S u n).map Prod.fst,k∈S.map Prod.fst\/k=u:=by
 by_cases h:u∈S.map Prod.fst
 ·obtain⟨a,b⟩:=KO nd h;unfold Nd;rw[(b n).1];exact⟨nd,fun k hk=>.inl hk⟩
 ·obtain⟨a,b,c,d⟩:=GX h;unfold Nd;rw[c,Ju];refine⟨Xq.mpr ⟨nd,by simp,fun x hx y hy=>?_⟩,fun k hk=>?_⟩
  ·simp at hy;subst hy;exact fun z=>h (z ▸ hx)
  ·rcases Xf.mp hk with q|q
   ·exact .inl q
   ·simp at q;exact .inr q
structure Gd(m:Nat)(S:Ct):Prop where
 nd:Nd S
 ok:∀k∈S.map Prod.fst,RS k/\k.length=m
theorem Gd.nil:Gd m []:=⟨Rj,fun k hk=>by cases hk⟩
theorem Gd.add{S:Ct}(h:Gd m S)(n:Int)(hu:RS u/\u.length=m):Gd m (M1 S u n):=by
 obtain⟨a,b⟩:=lF S u n h.nd;exact⟨a,fun k hk=>(b k hk).elim (h.ok k) fun e=>e ▸ hu⟩
theorem QL{α:Type}[DecidableEq α]:∀{l m:List α},l.Nodup->(∀x∈l,x∈m)->l.length≤m.length
 |[],m,_,_=>Yt _
 |x::l,m,nd,h=>by
  rw[Ud]at nd;have hx:=h x (Zv ..);have:=QL (l:=l) (m:=m.erase x) nd.2 fun y hy=>(List.mem_erase_of_ne fun(e:y=x)=>nd.1 (e ▸ hy)).mpr (h y (Qo _ hy));rw[Xa hx]at this;have:0<m.length:=List.length_pos_of_mem hx;rw[Zd];omega
theorem Gd.len{S:Ct}(h:Gd m S):S.length≤256:=by
 have:=QL h.nd fun k hk=>(h.ok k hk).1.mem;rw[Qv]at this;have e:(pW b8).length=256:=by rfl'
 omega
def ins(n:Int)(T:Ct)(us:OO):Ct:=us.foldl (fun T u=>M1 T u n) T
def stp(S:Ct):Ct:=S.foldl (fun T p=>ins p.2 T (ov p.1)) []
def lvl(l:aq):Nat->Ct
 |0=>[(l,1)]
 |j+1=>stp (lvl l j)
def cnt(l:aq):Int:=((lvl l (l.length-1)).map Prod.snd).sum
theorem Gd.ins{m:Nat}(n:Int):∀{us:OO}{T:Ct},Gd m T->(∀u∈us,RS u/\u.length=m)->Gd m (ins n T us)
 |[],T,h,_=>h
 |u::us,T,h,hu=>Gd.ins n (us:=us) (T:=M1 T u n) (h.add n (hu u (Zv ..))) fun v hv=>hu v (Qo _ hv)
theorem GY(h:RS l/\l.length=m+1)(hm:1≤m):∀u∈ov l,RS u/\u.length=m:=fun u hu=>by
 have:=kP h.1 (by omega) u hu;exact⟨this.1,by omega⟩
theorem Gd.foldl{m:Nat}(hm:1≤m):∀{S:Ct}{T:Ct},(∀k∈S.map Prod.fst,RS k/\k.length=m+1)->Gd m T->Gd m (S.foldl (fun T p=>K33.ins p.2 T (ov p.1)) T)
 |[],T,_,h=>h
 |p::S,T,hk,h=>Gd.foldl hm (S:=S) (T:=K33.ins p.2 T (ov p.1)) (fun k q=>hk k (Qo _ q)) (Gd.ins p.2 h (GY (hk p.1 (Zv ..)) hm))
theorem Gd.stp{S:Ct}(hm:1≤m)(h:Gd (m+1) S):Gd m (stp S):=Gd.foldl hm h.ok .nil
theorem GZ{l:aq}(h:RS l):∀j,j<l.length->Gd (l.length-j) (lvl l j)
 |0,_=>⟨by simp[Nd,lvl],fun k hk=>by simp[lvl]at hk;subst hk;exact⟨h,by omega⟩⟩
 |j+1,hj=>by
  have:=GZ h j (by omega);rw[show l.length-j=(l.length-(j+1))+1 by omega]at this;exact this.stp (by omega)
def xK(L:List (OO)):List (OO):=L.flatMap fun t=>(ov (t.headD [])).map fun u=>u::t
def nZ(l:aq):Nat->List (OO)
 |0=>[[l]]
 |j+1=>xK (nZ l j)
def xM(m k:Nat)(t:OO):Prop:=t.length=k/\(RS (t.headD [])/\(t.headD []).length=m)/\∀r∈t,r.length≤6
theorem DA{l:aq}(h:RS l):∀j,j<l.length->∀t∈nZ l j,xM (l.length-j) (j+1) t
 |0,_,t,ht=>by
  have ht:t=[l]:=by simpa [nZ]using ht
  subst ht;exact⟨rfl,⟨h,rfl⟩,fun r hr=>by have:=h.hi;simp at hr;subst hr;exact this⟩
 |j+1,hj,t,ht=>by
  obtain⟨s,hs,hm⟩:=List.mem_flatMap.mp (show t∈(nZ l j).flatMap _ from ht);obtain⟨u,hu,rfl⟩:=Zm.mp hm;obtain⟨a,b,c⟩:=DA h j (by omega) s hs;have q:=GY (m:=l.length-(j+1)) ⟨b.1,by omega⟩ (by omega) u hu;refine⟨by rw[Zd,a],q,fun r hr=>?_⟩;rcases Qp.mp hr with rfl|hr
  ·exact q.1.hi
  ·exact c r hr
def few(l:aq):Bool:=(List.range l.length).all fun j=>decide ((nZ l j).length≤400)
def xO(l:aq):Bool:=if l.length≤3 then few l else if l.length=4 then decide (400<cnt l)||few l else true
theorem QM:(pW b8).all xO=true:=by rfl'
theorem KP(h:few l=true):∀j<l.length,(nZ l j).length≤400:=fun j hj=>by
 have:=Zb.mp h j (Yp.mpr hj);simpa using this
theorem QN(h:RS l)(h3:l.length≤3):few l=true:=by
 have:=Zb.mp QM l h.mem;unfold xO at this;rw[Qg h3]at this;exact this
theorem lG(h:RS l)(h4:l.length≤4)(hc:¬ 400<cnt l):few l=true:=by
 by_cases h3:l.length≤3
 ·exact QN h h3
 ·have:=Zb.mp QM l h.mem;unfold xO at this;rw[Qb h3,Qg (by omega),Zg hc]at this;exact this
theorem lI:cnt [1,2,3,4,5,6]=7436:=by rfl'
theorem lJ:cnt [1,3]=3:=by rfl'
theorem lK:cnt [8]=1:=by rfl'
theorem Ei{α σ:Type}{g:OX}{b:Mo Fl}{q:α->D}{f:σ->α->σ}{P:σ->a9->Prop}:∀{l:List α},(∀x∈l,∀s e,P s e->∃e1 e2,g (q x) e=some e1/\b e1=some (.nx,e2)/\P (f s x) e2)->
  ∀s e,P s e->∃e',loop g b (l.map q) e=some (.nx,e')/\P (l.foldl f s) e'
 |[],_,s,e,p=>⟨e,rfl,p⟩
 |x::l,h,s,e,p=>by
  obtain⟨e1,e2,h1,h2,p2⟩:=h x (Zv ..) s e p;obtain⟨e',h3,p3⟩:=Ei (l:=l) (fun y hy=>h y (Qo _ hy)) (f s x) e2 p2;refine⟨e',?_,p3⟩;rw[Qm];unfold loop;rw[h1,Qk,h2];exact h3
theorem Ga:∀u:aq,Y6 (dR u)=some (.t u)
 |[]=>rfl
 |x::u=>by
  show(i9 ((x::u).map D.int)).map KX.t=_;rw[Cu];rfl
theorem KQ(u:aq):∀T:Ct,qW (kS T) (.t u)=true
 |[]=>rfl
 |_::_=>rfl
theorem QO{ku:Nat}{mv:Mo D}{n:Int}(hl:T.length≤256)(nd:Nd T)(hi:e[i]? =some (.ownX (kS T) (vS T)))(hu:A0 ku e=some (dR u,e))(hv:mv e=some (.int n,e)):(R0 (B5 E7 (AD i (A0 ku) (mC (.int 0))) mv) (sS i (A0 ku))) e=some (.nx,e.set i (.ownX (kS (M1 T u n)) (vS (M1 T u n)))):=by
 have g:AD i (A0 ku) (mC (.int 0)) e=some (.int (lk T u),e):=by
  unfold AD;rw[hi,Qk];show(A0 ku e).bind _=_;rw[hu,Qk];show((e[i]?).bind W.mutX).bind _=_;rw[hi,Qk];show((Y6 (dR u)).bind fun k=>if qW (kS T) k then some ((qA (kS T) (vS T) k).getD (.int 0),e)else none)=_;rw[Ga,Qk,Qg (KQ u T),QH]
 have s:sS i (A0 ku) (.int (lk T u+n)) e=some (e.set i (.ownX (kS (M1 T u n)) (vS (M1 T u n)))):=by
  unfold sS;rw[hi,Qk];show(A0 ku e).bind _=_;rw[hu,Qk];show(e[i]?).bind _=_;rw[hi,Qk];show((Y6 (dR u)).bind fun k=>if qW (kS T) k&&decide ((kS T).length<100000)then some (e.set i (.ownX (Y7 (kS T) k) (BJ (kS T) (vS T) k (.int (lk T u+n)))))else none)=_;have hz:(kS T).length<100000:=by unfold kS;rw[Qv];omega
  rw[Ga,Qk,KQ,Yb hz,(QK nd u n).1,(QK nd u n).2];rfl
 unfold R0;rw[D6 g hv (show E7 (.int (lk T u)) (.int n)=some (.int (lk T u+n))from rfl),Qk];dsimp only;rw[s];rfl
theorem QP:∀S:Ct,BI (kS S) (vS S)=S.map fun p=>.tup [dR p.1,.int p.2]
 |[]=>rfl
 |p::S=>by
  show D.tup [dR p.1,.int p.2]::BI (kS S) (vS S)=_;rw[QP S];rfl
theorem QQ(S:Ct):(kS S).map KX.toD=S.map fun p=>dR p.1:=by unfold kS;rw[Ys];rfl
abbrev dS(S:Ct):D:=.dcx (kS S) (vS S)
abbrev yW:Mo Fl:=(J1 (G8 (i7 1 W5 (B8 (A0 2) C5))) (gN 4) (R0 (B5 E7 (AD 1 (A0 4) (mC (.int 0))) (A0 3)) (sS 1 (A0 4))))
theorem lL(hm:1≤m){S:Ct}(hT:Gd m T)(hp:RS p.1/\p.1.length=m+1)(w4:W):∃w4',yW [w0,.ownX (kS T) (vS T),.dat (dR p.1),.dat (.int p.2),w4]=some (.nx,[w0,.ownX (kS (ins p.2 T (ov p.1))) (vS (ins p.2 T (ov p.1))),.dat (dR p.1),.dat (.int p.2),w4'])/\Gd m (ins p.2 T (ov p.1)):=by
 obtain⟨ws,er⟩:=PV hp.1 (by omega);have ho:=GY hp hm;obtain⟨e',l,gd,w4',rfl⟩:=Ei (g:=gN 4) (b:=R0 (B5 E7 (AD 1 (A0 4) (mC (.int 0))) (A0 3)) (sS 1 (A0 4))) (q:=dR) (l:=ov p.1) (f:=fun T u=>M1 T u p.2) (P:=fun T e=>Gd m T/\∃w4,e=[w0,.ownX (kS T) (vS T),.dat (dR p.1),.dat (.int p.2),w4])
  (fun u hu T e ⟨g,w4,he⟩=>by
   subst he;exact⟨[w0,.ownX (kS T) (vS T),.dat (dR p.1),.dat (.int p.2),.dat (dR u)],_,rfl,QO (u:=u) (n:=p.2) (i:=1) (ku:=4) (mv:=A0 3) g.len g.nd rfl rfl rfl,g.add p.2 (ho u hu),_,rfl⟩) T [w0,.ownX (kS T) (vS T),.dat (dR p.1),.dat (.int p.2),w4] ⟨hT,w4,rfl⟩
 exact⟨w4',(X4 (Bd (J7 (av:=[.d (dR p.1)]) rfl rfl rfl er) rfl)).trans l,gd⟩
theorem lM(hm:1≤m){S:Ct}(h:Gd (m+1) S):∃ws,Bo [.dat (dS S)]=some (.d (dS (stp S)),ws):=by
 obtain⟨e',l,gd,w2,w3,w4,rfl⟩:=Ei (g:=gT 2 (qF (gN 2) (qF (gN 3) sY))) (b:=yW) (q:=fun(p:aq×Int)=>.tup [dR p.1,.int p.2]) (l:=S) (f:=fun T p=>ins p.2 T (ov p.1)) (P:=fun T e=>Gd m T/\∃w2 w3 w4,e=[.dat (dS S),.ownX (kS T) (vS T),w2,w3,w4])
  (fun p hp T e ⟨g,w2,w3,w4,he⟩=>by
   subst he;obtain⟨w4',q,gd⟩:=lL hm (w0:=.dat (dS S)) (S:=S) g (h.ok p.1 (Xg hp)) w4;exact⟨_,_,rfl,q,gd,_,_,_,rfl⟩) [] [.dat (dS S),.ownX [] [],.nil,.nil,.nil] ⟨.nil,_,_,_,rfl⟩
 refine⟨_,O1 (d:=dS (stp S)) (env:=[.dat (dS S),.dat (dS (stp S)),w2,w3,w4]) ?_⟩;show JP [.dat (dS S),.nil,.nil,.nil,.nil]=_;unfold JP;refine E8 (e1:=[.dat (dS S),.ownX [] [],.nil,.nil,.nil]) rfl (E8 ((X4 (ds:=S.map fun p=>.tup [dR p.1,.int p.2]) (e1:=[.dat (dS S),.ownX [] [],.nil,.nil,.nil]) (by show some (BI (kS S) (vS S),_)=_;rw[QP])).trans l) rfl)
theorem QR(h:RS l):tR l=true:=kE h.up h.bd
abbrev yX:Mo Bool:=(O5 (F5 (mT (pB "tuple" (A0 0)))) (F5 (mT (Q8 oZ oZ (mC (.int 1)) (j1 F2 (B0 (A0 0) B6)) (mC (.int 6))))))
theorem KR(h:RS l):∃ws,AH [.dat (dR l)]=some (.d .non,ws):=by
 have h1:=h.lo;have h6:=h.hi;have t:=KD (dR l) l.length (by omega);rw[Ot,PN,QR h]at t;refine⟨_,YL (env:=[.dat (dR l)]) ?_⟩;show JO [.dat (dR l)]=_;unfold JO;have a:yX [.dat (dR l)]=some (false,[.dat (dR l)]):=by
  refine(KE (es:=l.map D.int)).trans ?_;rw[Qv,Yb (by omega),Yb (by omega)];rfl
 refine E8 (M5 a rfl) (M5 (X3 (b:=true) (L7 (J7 (av:=[.d (dR l),.d (.int (l.length:Int))]) ?_ rfl rfl t))) rfl);exact Y5 rfl (Y5 (U8 (F1 rfl rfl) (by show some (D.int ((l.map D.int).length:Int))=_;rw[Qv])) rfl)
theorem lN(S:Ct):i9 (vS S)=some (S.map Prod.snd):=by
 have:vS S=(S.map Prod.snd).map D.int:=by unfold vS;rw[Ys];rfl
 rw[this,Cu]
theorem QS(h:A0 0 e=some (dR l,e)):CZ (A0 0) (mC (.int 1)) e=some (dS (lvl l 0),e):=by
 unfold CZ;rw[h];show(Y6 (dR l)).map _=_;rw[Ga];rfl
theorem Bs(h:A0 0 e=some (dR l,e)):j1 F2 (B0 (A0 0) B6) e=some (.int (l.length:Int),e):=U8 (F1 h rfl) (by show some (D.int ((l.map D.int).length:Int))=_;rw[Qv])
theorem Gb(h:RS l):∃ws,Y0 [.dat (dR l)]=some (.d (.int (cnt l)),ws):=by
 have h1:=h.lo;have h6:=h.hi;obtain⟨wm,em⟩:=KR h;obtain⟨e',lp,w2,rfl⟩:=GR (g:=gN 2) (b:=E3 1 (i7 1 Bo (B8 (A0 1) C5))) (ds:=(List.range (l.length-1)).map fun(k:Nat)=>D.int (1+(k:Int))) (P:=fun j e=>∃w2,e=[.dat (dR l),.dat (dS (lvl l j)),w2]) (fun j d e hj he=>by
  obtain⟨w2,rfl⟩:=he;have hj:j<l.length-1:=by
   have:=(Qc.mp hj).1;simpa using this
  have gd:=GZ h j (by omega);rw[show l.length-j=(l.length-(j+1))+1 by omega]at gd;obtain⟨wc,ec⟩:=lM (by omega) gd;exact⟨_,_,rfl,AJ (e1:=[.dat (dR l),.dat (dS (lvl l j)),.dat d]) (J7 (av:=[.d (dS (lvl l j))]) rfl rfl rfl ec) rfl,_,rfl⟩) (env:=[.dat (dR l),.dat (dS (lvl l 0)),.nil]) ⟨_,rfl⟩
 rw[Qv,Ve]at lp;refine⟨_,O1 (d:=.int (cnt l)) (env:=[.dat (dR l),.dat (dS (lvl l (l.length-1))),w2]) ?_⟩;show JQ [.dat (dR l),.nil,.nil]=_;unfold JQ;refine E8 (e1:=[.dat (dR l),.nil,.nil]) (Hm (J7 (av:=[.d (dR l)]) rfl rfl rfl em)) ?_;refine E8 (AJ (e1:=[.dat (dR l),.nil,.nil]) (QS rfl) rfl) ?_;refine E8 ((X4 (GS (n:=l.length) rfl (Bs rfl) rfl rfl (by omega))).trans lp) (V0 ?_);show(i9 (vS (lvl l (l.length-1)))).map _=_;rw[lN];rfl
abbrev xP:Mo Fl:=(J1 (G8 (i7 1 Z1 (B8 (A0 4) C5))) (gN 5) (R0 (B5 E7 (AD 3 (A0 5) (mC (.int 0))) (B5 Ag (A0 1) (A0 4))) (sS 3 (A0 5))))
abbrev yY:Mo Fl:=(C1 (Fq 3) (C1 (J1 (Dp (A0 1)) (gN 4) xP) (E3 1 (A0 3))))
theorem QT{S:Ct}(nd:Nd S)(hp:p∈S):Ag (dS S) (dR p.1)=some (.int p.2):=by
 show(Y6 (dR p.1)).bind (fun k=>if qW (kS S) k then qA (kS S) (vS S) k else none)=_;rw[Ga,Qk,Qg (KQ p.1 S),QI (Xg hp),QJ nd hp]
theorem lO(hm:1≤m){S:Ct}(nd:Nd S)(hT:Gd m T)(hpS:p∈S)(hp:RS p.1/\p.1.length=m+1)(w5:W):∃w5',xP [w0,.dat (dS S),w2,.ownX (kS T) (vS T),.dat (dR p.1),w5]=some (.nx,[w0,.dat (dS S),w2,.ownX (kS (ins p.2 T (ov p.1))) (vS (ins p.2 T (ov p.1))),.dat (dR p.1),w5'])/\Gd m (ins p.2 T (ov p.1)):=by
 obtain⟨ws,er⟩:=PU hp.1 (by omega);have ho:=GY hp hm;obtain⟨e',l,gd,w5',rfl⟩:=Ei (g:=gN 5) (b:=R0 (B5 E7 (AD 3 (A0 5) (mC (.int 0))) (B5 Ag (A0 1) (A0 4))) (sS 3 (A0 5))) (q:=dR) (l:=ov p.1) (f:=fun T u=>M1 T u p.2) (P:=fun T e=>Gd m T/\∃w5,e=[w0,.dat (dS S),w2,.ownX (kS T) (vS T),.dat (dR p.1),w5])
  (fun u hu T e ⟨g,w5,he⟩=>by
   subst he;exact⟨[w0,.dat (dS S),w2,.ownX (kS T) (vS T),.dat (dR p.1),.dat (dR u)],_,rfl,QO (u:=u) (n:=p.2) (i:=3) (ku:=5) (mv:=B5 Ag (A0 1) (A0 4)) g.len g.nd rfl rfl (D6 rfl rfl (QT nd hpS)),g.add p.2 (ho u hu),_,rfl⟩) T [w0,.dat (dS S),w2,.ownX (kS T) (vS T),.dat (dR p.1),w5] ⟨hT,w5,rfl⟩
 exact⟨w5',(X4 (Bd (J7 (av:=[.d (dR p.1)]) rfl rfl rfl er) rfl)).trans l,gd⟩
theorem lP(hm:1≤m){w3 w4 w5:W}{S:Ct}(h:Gd (m+1) S):∃w4' w5',yY [w0,.dat (dS S),w2,w3,w4,w5]=some (.nx,[w0,.dat (dS (stp S)),w2,.dat (dS (stp S)),w4',w5']):=by
 obtain⟨e',l,gd,w4',w5',rfl⟩:=Ei (g:=gN 4) (b:=xP) (q:=fun(p:aq×Int)=>dR p.1) (l:=S) (f:=fun T p=>ins p.2 T (ov p.1)) (P:=fun T e=>Gd m T/\∃w4 w5,e=[w0,.dat (dS S),w2,.ownX (kS T) (vS T),w4,w5])
  (fun p hp T e ⟨g,w4,w5,he⟩=>by
   subst he;obtain⟨w5',q,gd⟩:=lO hm (w0:=w0) (w2:=w2) (S:=S) h.nd g hp (h.ok p.1 (Xg hp)) w5;exact⟨_,_,rfl,q,gd,_,_,rfl⟩) [] [w0,.dat (dS S),w2,.ownX [] [],w4,w5] ⟨.nil,_,_,rfl⟩
 refine⟨w4',w5',?_⟩;refine E8 (e1:=[w0,.dat (dS S),w2,.ownX [] [],w4,w5]) rfl (E8 ((X4 (ds:=S.map fun p=>dR p.1) (e1:=[w0,.dat (dS S),w2,.ownX [] [],w4,w5]) (by show some ((kS S).map KX.toD,_)=_;rw[QQ])).trans l) rfl)
theorem QU(h:RS l):∃ws,Ai [.dat (dR l)]=some (.d (.int (cnt l)),ws):=by
 have h1:=h.lo;have h6:=h.hi;obtain⟨e',lp,w2,w3,w4,w5,rfl⟩:=KB (g:=gN 2) (b:=yY) (n:=l.length-1) (fun j e=>∃w2 w3 w4 w5,e=[.dat (dR l),.dat (dS (lvl l j)),w2,w3,w4,w5]) (fun j hj e he=>by
  obtain⟨w2,w3,w4,w5,rfl⟩:=he;have gd:=GZ h j (by omega);rw[show l.length-j=(l.length-(j+1))+1 by omega]at gd;obtain⟨w4',w5',q⟩:=lP (w0:=.dat (dR l)) (w2:=.dat (.int (j:Int))) (w3:=w3) (w4:=w4) (w5:=w5) (by omega) gd;exact⟨_,_,rfl,q,_,_,_,_,rfl⟩) (env:=[.dat (dR l),.dat (dS (lvl l 0)),.nil,.nil,.nil,.nil]) ⟨_,_,_,_,rfl⟩
 have gd:=GZ h (l.length-1) (by omega);refine⟨_,O1 (d:=.int (cnt l)) (env:=[.dat (dR l),.dat (dS (lvl l (l.length-1))),w2,w3,w4,w5]) ?_⟩;show JW [.dat (dR l),.nil,.nil,.nil,.nil,.nil]=_;unfold JW;refine E8 (AJ (e1:=[.dat (dR l),.nil,.nil,.nil,.nil,.nil]) (QS rfl) rfl) ?_;refine E8 ((X4 (Eh (n:=l.length-1) (D6 (Bs rfl) rfl (show Y2 (.int (l.length:Int)) (.int 1)=some (.int ((l.length:Int)-1))from rfl)) (by omega) (by omega))).trans lp) (V0 ?_);have c:=GQ (mi:=Dp (A0 1)) (keep:=[false,true,false,false,false,false]) (m:=B5 Ag (A0 1) (A0 6)) (env:=[.dat (dR l),.dat (dS (lvl l (l.length-1))),w2,w3,w4,w5]) (base:=[.nil,.dat (dS (lvl l (l.length-1))),.nil,.nil,.nil,.nil]) (l:=lvl l (l.length-1)) (q:=fun p=>dR p.1) (f:=fun p=>D.int p.2) (k:=6)
  (by show some ((kS (lvl l (l.length-1))).map KX.toD,_)=_;rw[QQ]) (by have:=gd.len;omega) rfl rfl (fun p hp=>D6 rfl rfl (QT gd.nd hp)) (fun w=>rfl)
 refine U8 (F1 (U9 c) rfl) ?_;have e:((lvl l (l.length-1)).map fun p=>D.int p.2)=((lvl l (l.length-1)).map Prod.snd).map D.int:=by rw[Ys];rfl
 rw[e];exact kW _
theorem QV:∀R:OO,pH (R.map dR)=some R
 |[]=>rfl
 |r::R=>by
  show(i9 (r.map D.int)).bind (fun a=>(pH (R.map dR)).map fun l=>a::l)=_;rw[Cu,QV R];rfl
theorem QW:∀L:List (OO),(∀t∈L,t≠[])->Bj (L.map dT)=some L
 |[],_=>rfl
 |t::L,h=>by
  show(pH (t.map dR)).bind (fun t=>if t.isEmpty then none else(Bj (L.map dT)).map fun l=>t::l)=_;have ht:=h t (Zv ..);rw[QV,Qk,QW L fun s hs=>h s (Qo _ hs),Qb (by simpa using ht)];rfl
theorem QX{L:List (OO)}:∀{p:List Nat},(∀i∈p,i<L.length)->p.mapM (fun i=>(L.map dT)[i]?)=some ((p.map fun i=>L.getD i []).map dT)
 |[],_=>rfl
 |i::p,h=>by
  have hi:=h i (Zv ..);have e:(L.map dT)[i]? =some (dT (L.getD i [])):=by
   rw[Zw,Qe hi,Zl,Qe hi];rfl
  rw[List.mapM_cons,e,QX fun j hj=>h j (Qo _ hj)];rfl
theorem srt{L:List (OO)}(h:∀t∈L,t≠[])(hl:L.length≤1000):∃M:List (OO),Ci [.lst (L.map dT)]=some (M.map dT)/\M.length=L.length/\∀t∈M,t∈L:=by
 obtain⟨p,hp,h1,h2⟩:∃p,EJ L=some p/\p.length=L.length/\∀i∈p,i<L.length:=by
  unfold EJ
  by_cases h2:L.length<2
  ·exact⟨_,Qg h2,by simp,fun i hi=>by simpa using hi⟩
  ·rw[Qb h2,Qg hl];obtain⟨p,a,b,c⟩:=gW L.length fun i j=>AB (L.getD i []) (L.getD j []);rw[a];exact⟨p.toList,Qg (by omega),b,c⟩
 refine⟨p.map fun i=>L.getD i [],?_,by rw[Qv,h1],fun t ht=>?_⟩
 ·show(Bj (L.map dT)).bind (fun ks=>(EJ ks).bind fun p=>p.mapM fun i=>(L.map dT)[i]?)=_;rw[QW L h,Qk,hp,Qk];exact QX h2
 ·obtain⟨i,hi,rfl⟩:=Zm.mp ht;have:=h2 i hi;rw[Zl,Qe this];exact Px this
theorem QY{α β:Type}{g:OX}{b:Mo Fl}{q:α->D}{z:α->List β}{N:Nat}{P:List β->a9->Prop}:∀{L:List α},(∀t∈L,∀acc e,P acc e->acc.length+(z t).length≤N->∃e1 e2,g (q t) e=some e1/\b e1=some (.nx,e2)/\P (acc++z t) e2)->∀acc e,acc.length+(L.flatMap z).length≤N->P acc e->∃e',loop g b (L.map q) e=some (.nx,e')/\P (acc++L.flatMap z) e'
 |[],_,acc,e,_,p=>⟨e,rfl,by simpa using p⟩
 |x::l,h,acc,e,hl,p=>by
  rw[Vq,Zx]at hl;obtain⟨e1,e2,h1,h2,p2⟩:=h x (Zv ..) acc e p (by omega);obtain⟨e',h3,p3⟩:=QY (L:=l) (fun y hy=>h y (Qo _ hy)) (acc++z x) e2 (by rw[Zx];omega) p2;refine⟨e',?_,by rw[Vq,←Ue];exact p3⟩;rw[Qm];unfold loop;rw[h1,Qk,h2];exact h3
theorem lQ{m:Mo bb}{ds xs:bb}(hi:e[i]? =some (.own ds))(hm:m e=some (xs,e))(hl:ds.length+xs.length≤100000):Dg i m e=some (.nx,e.set i (.own (ds++xs))):=by
 unfold Dg;rw[hi,Qk];show(m e).bind _=_;rw[hm,Qk];show(e[i]?).bind _=_;rw[hi,Qk];show(if ds.length+xs.length≤100000 then _ else none)=_;rw[Qg hl];rfl
theorem QZ{t:OO}(h:xM m (k+1) t):oI (dT t) (.int 0)=some (dR (t.headD [])):=by
 obtain⟨a,_,_⟩:=h;cases t with
 |nil=>simp at a
 |cons r t=>exact ixD (es:=dR r::t.map dR) (j:=0) rfl (by simp)
theorem RA(L:List (OO)):(L.flatMap fun t=>(ov (t.headD [])).map fun u=>dT (u::t))=(xK L).map dT:=by
 unfold xK;rw[List.map_flatMap]
 congr 1
 funext t
 rw[Ys];rfl
theorem RB{t:OO}(h:xM m k t)(hk:k≤6)(u:aq):E7 (.tup [dR u]) (dT t)=some (dT (u::t)):=Cq (xs:=[dR u]) (ys:=t.map dR) (by have:=h.1;simp;omega)
abbrev yZ:Mo Fl:=(K8 1 (V5 (G8 (A0 1)) [false,false,false] 2 (gN 3) F7 (sQ (G8 (i7 1 W5 (B8 (B5 oI (A0 3) (mC (.int 0))) C5))) (gN 4) F7 (L8 (B5 E7 (G9 (B0 (A0 4) B6)) (A0 3))))))
theorem lR(h:RS l)(hf:few l=true)(hj:j+1<l.length)(w0 w2:W):yZ [w0,.dat (.lst ((nZ l j).map dT)),w2]=some (.nx,[w0,.own ((nZ l (j+1)).map dT),w2]):=by
 have hl:=KP hf (j+1) hj;have h6:=h.hi;have c:=lC (mi:=G8 (A0 1)) (keep:=[false,false,false]) (mi2:=G8 (i7 1 W5 (B8 (B5 oI (A0 3) (mC (.int 0))) C5))) (m:=B5 E7 (G9 (B0 (A0 4) B6)) (A0 3)) (env:=[w0,.dat (.lst ((nZ l j).map dT)),w2]) (base:=[.nil,.nil,.nil]) (l:=nZ l j) (l2:=fun t=>ov (t.headD [])) (q:=dT) (q2:=fun _=>dR) (f:=fun t u=>dT (u::t)) (k:=3) (Bd rfl rfl) rfl rfl
  (fun t ht w=>by
   have o:=DA h j (by omega) t ht;obtain⟨ws,er⟩:=PV o.2.1.1 (by have:=o.2.1.2;omega);exact Bd (J7 (av:=[.d (dR (t.headD []))]) (Y5 (D6 rfl rfl (QZ o)) rfl) rfl rfl er) rfl)
  (fun t ht u hu=>D6 rfl rfl (RB (DA h j (by omega) t ht) (by omega) u)) (by rw[RA,Qv];exact Qn hl (by decide)) (fun w w2=>rfl)
 rw[RA]at c;exact GW c rfl
abbrev xQ:Mo Fl:=(Dg 3 (N1 (G8 (i7 1 Z1 (B8 (B5 oI (A0 4) (mC (.int 0))) C5))) [false,false,false,false,true] 1 (gN 5) F7 (B5 E7 (G9 (B0 (A0 5) B6)) (A0 4))))
abbrev y0:Mo Fl:=(C1 (K8 3 (K3 B6)) (C1 (J1 (G8 (A0 1)) (gN 4) xQ) (E3 1 (A0 3))))
theorem lS(h:RS l)(hj:j+1<l.length){t:OO}(ht:t∈nZ l j){acc:List (OO)}(ha:acc.length+((ov (t.headD [])).map fun u=>u::t).length≤400)(w0 w1 w2:W):xQ [w0,w1,w2,.own (acc.map dT),.dat (dT t)]=some (.nx,[w0,w1,w2,.own ((acc++(ov (t.headD [])).map fun u=>u::t).map dT),.dat (dT t)]):=by
 have o:=DA h j (by omega) t ht;have h6:=h.hi;rw[Qv]at ha;obtain⟨ws,er⟩:=PU o.2.1.1 (by have:=o.2.1.2;omega);have c:=GQ (mi:=G8 (i7 1 Z1 (B8 (B5 oI (A0 4) (mC (.int 0))) C5))) (keep:=[false,false,false,false,true]) (m:=B5 E7 (G9 (B0 (A0 5) B6)) (A0 4)) (env:=[w0,w1,w2,.own (acc.map dT),.dat (dT t)]) (base:=[.nil,.nil,.nil,.nil,.dat (dT t)]) (l:=ov (t.headD [])) (q:=dR) (f:=fun u=>dT (u::t)) (k:=5)
  (Bd (J7 (av:=[.d (dR (t.headD []))]) (Y5 (D6 rfl rfl (QZ o)) rfl) rfl rfl er) rfl) (by omega) rfl rfl (fun u hu=>D6 rfl rfl (RB o (by omega) u)) (fun w=>rfl)
 refine(lQ (i:=3) (ds:=acc.map dT) rfl c (by rw[Qv,Qv];omega)).trans ?_;rw[Ju,Ys];rfl
theorem lT(h:RS l)(hf:few l=true)(hj:j+1<l.length)(w0 w2 w3 w4:W):∃w4',y0 [w0,.dat (.lst ((nZ l j).map dT)),w2,w3,w4]=some (.nx,[w0,.dat (.lst ((nZ l (j+1)).map dT)),w2,.dat (.lst ((nZ l (j+1)).map dT)),w4']):=by
 have hl:=KP hf (j+1) hj;obtain⟨e',lp,w4',rfl⟩:=QY (g:=gN 4) (b:=xQ) (q:=dT) (z:=fun t=>(ov (t.headD [])).map fun u=>u::t) (N:=400) (P:=fun acc e=>∃w4,e=[w0,.dat (.lst ((nZ l j).map dT)),w2,.own (acc.map dT),w4]) (L:=nZ l j)
  (fun t ht acc e ⟨w4,he⟩ ha=>by
   subst he;exact⟨_,_,rfl,lS h hj ht ha _ _ _,_,rfl⟩) [] [w0,.dat (.lst ((nZ l j).map dT)),w2,.own [],w4] (by rw[Uq,Yu];exact hl) ⟨_,rfl⟩
 rw[Pl]at lp;refine⟨w4',E8 (e1:=[w0,.dat (.lst ((nZ l j).map dT)),w2,.own [],w4]) (GW (Cs rfl (by simp)) rfl) (E8 ((X4 (Bd rfl rfl)).trans lp) rfl)⟩
theorem lU(h:RS l)(h4:l.length≤4)(hf:few l=true):∃M:List (OO),(M.length≤400/\∀t∈M,t∈nZ l (l.length-1))/\(∃ws,W6 [.dat (dR l)]=some (.l (M.map dT),ws))/\∃ws,Cp [.dat (dR l)]=some (.l (M.map dT),ws):=by
 have h1:=h.lo;obtain⟨wm,em⟩:=KR h;have hl:=KP hf (l.length-1) (by omega);obtain⟨M,m1,m2,m3⟩:=srt (L:=nZ l (l.length-1)) (fun t ht z=>by have:=(DA h (l.length-1) (by omega) t ht).1;subst z;simp at this) (by omega);refine⟨M,⟨by omega,m3⟩,?_,?_⟩
 ·obtain⟨e',lp,w1,w2,rfl,hw⟩:=GR (g:=gN 2) (b:=yZ) (ds:=(List.range (l.length-1)).map fun(k:Nat)=>D.int (1+(k:Int))) (P:=fun j e=>∃w1 w2,e=[.dat (dR l),w1,w2]/\(w1=.dat (.lst ((nZ l j).map dT))\/w1=.own ((nZ l j).map dT))) (fun j d e hj he=>by
   obtain⟨w1,w2,rfl,hw⟩:=he;have hj:j<l.length-1:=by
    have:=(Qc.mp hj).1;simpa using this
   have q:=lR h hf (j:=j) (by omega) (.dat (dR l)) (.dat d);rcases hw with rfl|rfl
   ·exact⟨_,_,rfl,q,_,_,rfl,.inr rfl⟩
   ·exact⟨_,_,rfl,q,_,_,rfl,.inr rfl⟩) (env:=[.dat (dR l),.dat (.lst ((nZ l 0).map dT)),.nil]) ⟨_,_,rfl,.inl rfl⟩
  rw[Qv,Ve]at hw;have fin:(AV (rE Ci (B0 (A0 1) B6))) [.dat (dR l),w1,w2]=some (.retL (M.map dT),[.dat (dR l),.dat (.lst ((nZ l (l.length-1)).map dT)),w2]):=by
   rcases hw with rfl|rfl
   ·exact FY (FX (F1 rfl rfl) m1)
   ·exact FY (FX (F1 rfl rfl) m1)
  refine⟨_,FW (env:=[.dat (dR l),.dat (.lst ((nZ l (l.length-1)).map dT)),w2]) ?_⟩;show JS [.dat (dR l),.nil,.nil]=_;unfold JS;refine E8 (e1:=[.dat (dR l),.nil,.nil]) (Hm (J7 (av:=[.d (dR l)]) rfl rfl rfl em)) ?_;refine E8 (e1:=[.dat (dR l),.nil,.nil]) (M5 (L7 (b:=false) (D6 (Bs rfl) rfl (by show some (D.bl (decide ((l.length:Int)>4)))=_;rw[Zg (by omega)]))) rfl) ?_;refine E8 (e1:=[.dat (dR l),.dat (.lst ((nZ l 0).map dT)),.nil]) (AJ (U9 (Cs rfl (by simp))) rfl) ?_;exact E8 ((X4 (GS (n:=l.length) rfl (Bs rfl) rfl rfl (by omega))).trans lp) fin
 ·obtain⟨e',lp,w2,w3,w4,rfl⟩:=KB (g:=gN 2) (b:=y0) (n:=l.length-1) (fun j e=>∃w2 w3 w4,e=[.dat (dR l),.dat (.lst ((nZ l j).map dT)),w2,w3,w4]) (fun j hj e he=>by
   obtain⟨w2,w3,w4,rfl⟩:=he;obtain⟨w4',q⟩:=lT h hf (j:=j) (by omega) (.dat (dR l)) (.dat (.int (j:Int))) w3 w4;exact⟨_,_,rfl,q,_,_,_,rfl⟩) (env:=[.dat (dR l),.dat (.lst ((nZ l 0).map dT)),.nil,.nil,.nil]) ⟨_,_,_,rfl⟩
  refine⟨_,FW (env:=[.dat (dR l),.dat (.lst ((nZ l (l.length-1)).map dT)),w2,w3,w4]) ?_⟩;show JX [.dat (dR l),.nil,.nil,.nil,.nil]=_;unfold JX;refine E8 (e1:=[.dat (dR l),.dat (.lst ((nZ l 0).map dT)),.nil,.nil,.nil]) (AJ (U9 (Cs rfl (by simp))) rfl) ?_;exact E8 ((X4 (Eh (n:=l.length-1) (D6 (Bs rfl) rfl (show Y2 (.int (l.length:Int)) (.int 1)=some (.int ((l.length:Int)-1))from rfl)) (by omega) (by omega))).trans lp) (FY (FX (F1 rfl rfl) m1))
def AK(d:D):Bool:=match d with
 |.tup es=>(decide (1≤(es.length:Int))&&decide ((es.length:Int)≤6))&&(qD (.tup es) es.length&&tR (pV (.tup es)))
 |_=>false
theorem lV(l k:aq):nW false (.lst (l.map D.int)) (.lst (k.map D.int))=some (.bl (decide (l=k))):=by
 unfold nW;rw[Ow,Ow];show some (D.bl (PyData.eqvAll (R5 (l.map D.int)) (R5 (k.map D.int))))=_;rw[GO,GO,Ov]
abbrev wD:Mo Fl:=(E2 (F5 (mT (i7 3 Co (B8 (A0 1) (B8 (mC (.int 1)) (B8 (mC (.int 8)) C5)))))) (E1 (mC (.bl false))) m8)
theorem lW(d:D)(w0:W):wD [w0,.dat d]=some (stop (uQ d 1 8) (.bl false),[w0,.dat d]):=by
 have t:=X3 (L7 (J7 (n:=3) (f:=Co) (as:=B8 (A0 1) (B8 (mC (.int 1)) (B8 (mC (.int 8)) C5))) (env:=[w0,.dat d]) (av:=[.d d,.d (.int 1),.d (.int 8)]) rfl rfl rfl (jL d 1 8)));unfold wD;cases h:uQ d 1 8<;>rw[h]at t
 ·exact BP t rfl
 ·exact M5 t rfl
theorem lX(es:bb):∃ws,Br [.dat (.tup es)]=some (.d (.bl (AK (.tup es))),ws):=by
 have t:(O5 (F5 (mT (pB "tuple" (A0 0)))) (F5 (mT (Q8 oZ oZ (mC (.int 1)) (j1 F2 (B0 (A0 0) B6)) (mC (.int 6)))))) [.dat (.tup es),.nil]=some (!(decide (1≤(es.length:Int))&&decide ((es.length:Int)≤6)),[.dat (.tup es),.nil]):=
  PK rfl (X3 (L7 (GP rfl (U8 (F1 rfl rfl) rfl) rfl)))
 have gd:AK (.tup es)=((decide (1≤(es.length:Int))&&decide ((es.length:Int)≤6))&&(qD (.tup es) es.length&&tR (pV (.tup es)))):=rfl;cases hb:(decide (1≤(es.length:Int))&&decide ((es.length:Int)≤6))with
 |false=>
  rw[hb]at t gd;rw[gd];refine⟨_,O1 (d:=.bl false) (env:=[.dat (.tup es),.nil]) ?_⟩;show Bq [.dat (.tup es),.nil]=_;unfold Bq;exact Aa (BP t rfl)
 |true=>
  rw[hb]at t gd;rw[Qr,Yk,Yk]at hb;obtain⟨e3,l3,x1,rfl⟩:=MI (g:=gN 1) (b:=wD) (ok:=fun x=>uQ x 1 8) (r:=.bl false) (P:=fun e=>∃x1,e=[.dat (.tup es),x1]) (ds:=es) (env:=[.dat (.tup es),.nil])
   (fun x _ e ⟨x1,he⟩=>by
    subst he;exact⟨_,_,rfl,lW x _,_,rfl⟩) ⟨_,rfl⟩
  have s3:=(X4 (mi:=G8 (A0 0)) (g:=gN 1) (b:=wD) (env:=[.dat (.tup es),.nil]) (Bd rfl rfl)).trans l3;have isr:qD (.tup es) (es.length:Int)=es.all rG:=by
   show((es.length:Int)==_&&_)=_;simp
  have ai:=QC es;rw[isr,Ru]at gd;cases hal:es.all (fun x=>uQ x 1 8)with
  |false=>
   rw[hal]at s3 ai;have df:AK (.tup es)=false:=by
    rw[gd];show(es.all rG&&(List.all (es.map rQ) sU&&_))=false;rw[←Bool.and_assoc,←ai];rfl
   rw[df];refine⟨_,O1 (d:=.bl false) (env:=[.dat (.tup es),x1]) ?_⟩;show Bq [.dat (.tup es),.nil]=_;unfold Bq;exact E8 (M5 t rfl) (Aa s3)
  |true=>
   rw[hal]at s3 ai;have ai':=(Qr _ _).mp ai.symm;have ex:=Oo ai'.1;have aw:=ai'.2;generalize es.map rQ=l at ex aw;subst ex;have hl:l.length≤6:=by have:=hb.2;rw[Qv]at this;omega
   have s4:(B5 (nW false) (mF (rE DN (B0 (A0 0) B6))) (mF (Fu (B0 (A0 0) B6)))) [.dat (.tup (l.map D.int)),x1]=some (.bl (decide (l=K9 (R8 l))),[.dat (.tup (l.map D.int)),x1]):=
    D6 (a:=.lst (l.map D.int)) (b:=.lst ((K9 (R8 l)).map D.int)) rfl (U9 (by
     unfold Fu;rw[F1 rfl rfl,Qk];show(i9 (l.map D.int)).bind _=_;rw[Cu,Qk,Qg (by omega)])) (lV _ _)
   have g2:AK (.tup (l.map D.int))=decide (l=K9 (R8 l)):=by
    rw[gd,ai'.1,kT];show(true&&tR (pV (dR l)))=_;rw[Oq,Ru];unfold tR;rw[aw,Ru]
   rw[g2];refine⟨_,O1 (d:=.bl (decide (l=K9 (R8 l)))) (env:=[.dat (.tup (l.map D.int)),x1]) ?_⟩;show Bq [.dat (.tup (l.map D.int)),.nil]=_;unfold Bq;exact E8 (M5 t rfl) (E8 s3 (V0 s4))
theorem lY(d:D):∃ws,Br [.dat d]=some (.d (.bl (AK d)),ws):=by
 by_cases h:∃es,d=.tup es
 ·obtain⟨es,rfl⟩:=h;exact lX es
 ·cases d with
  |tup es=>exact absurd ⟨es,rfl⟩ h
  |_=>exact⟨_,rfl⟩
theorem RC(h:AK d=false):Bn [.dat d]=some "NoRow":=by
 by_cases ht:∃es,d=.tup es
 ·obtain⟨es,rfl⟩:=ht;show EV [.dat (.tup es)]=_;unfold EV;have t:=KE (es:=es);cases hb:(decide (1≤(es.length:Int))&&decide ((es.length:Int)≤6))with
  |false=>
   rw[hb]at t;exact GU ((KG t).trans rfl)
  |true=>
   rw[hb]at t;have h':(qD (.tup es) es.length&&tR (pV (.tup es)))=false:=by
    have:AK (.tup es)=((decide (1≤(es.length:Int))&&decide ((es.length:Int)≤6))&&(qD (.tup es) es.length&&tR (pV (.tup es)))):=rfl;rw[hb,h]at this;exact this.symm
   rw[Qr,Yk,Yk]at hb;have q:=KD (.tup es) es.length (by omega);rw[h']at q;refine KH ((KI t).trans rfl) (M5 t rfl) ((KG (X3 (b:=false) (L7 (J7 (av:=[.d (.tup es),.d (.int (es.length:Int))]) rfl rfl rfl q)))).trans rfl)
 ·cases d with
  |tup es=>exact absurd ⟨es,rfl⟩ ht
  |_=>rfl
theorem lZ(h:AK d=false):Cn [.dat d]=some "NoRow":=by
 show JR [.dat d,.nil,.nil]=_;unfold JR;exact GU (Cv (av:=[.d d]) rfl rfl rfl (RC h))
theorem tW(h:AK d=false):AI [.dat d]=some "NoRow":=by
 show EX [.dat d,.nil,.nil]=_;unfold EX;exact GU (Cv (av:=[.d d]) rfl rfl rfl (RC h))
theorem mB(h:RS l):Bn [.dat (dR l)]=none:=by
 have h1:=h.lo;have h6:=h.hi;have q:=KD (dR l) l.length (by omega);rw[Ot,PN,QR h]at q;have t:yX [.dat (dR l)]=some (false,[.dat (dR l)]):=by
  refine(KE (es:=l.map D.int)).trans ?_;rw[Qv,Yb (by omega),Yb (by omega)];rfl
 show EV [.dat (dR l)]=_;unfold EV;refine KH ((KI t).trans rfl) (M5 t rfl) ((KI (e1:=[.dat (dR l)]) (X3 (b:=true) (L7 (J7 (av:=[.d (dR l),.d (.int (l.length:Int))]) (Y5 rfl (Y5 (Bs rfl) rfl)) rfl rfl q)))).trans rfl)
theorem mD(h:RS l)(h4:4<l.length):AI [.dat (dR l)]=some "TooMany":=by
 obtain⟨wm,em⟩:=KR h;show EX [.dat (dR l),.nil,.nil]=_;unfold EX;refine KH (Cv (av:=[.d (dR l)]) rfl rfl rfl (mB h)) (Hm (J7 (av:=[.d (dR l)]) rfl rfl rfl em)) ?_;exact GU ((KG (L7 (b:=true) (D6 (Bs rfl) rfl (by show some (D.bl (decide ((l.length:Int)>4)))=_;rw[Yb (by omega)])))).trans rfl)
theorem RD:W7 (some "NoRow")=some (.int 5):=PR (by rfl')
theorem mE:W7 (some "TooMany")=some (.int 11):=PR (by rfl')
theorem mG{a:Int}{b:Bool}(h1:1≤l.length)(h6:l.length≤6)(ha:0≤a):∃d a',Ee [.par [.int a,.bl b],.dat (dR l)]=some (.d d,[.par [.int a',.bl b],.dat (dR l)])/\0≤a':=by
 obtain⟨v1,a1,t1,p1,q1,a10⟩:=Eg (i:=0) (e:=[.par [.int a,.bl b],.dat (dR l),.nil,.nil,.nil]) (w:=.par [.int a,.bl b]) (k:=(l.length:Int)+1) (M:=B5 E7 (j1 F2 (B0 (A0 1) B6)) (mC (.int 1))) rfl rfl
  (by show some (D.int (((l.map D.int).length:Nat)+1),_)=_;rw[Qv]) ha (by omega) (by omega)
 have s1:=Ab (i:=2) t1;change E3 2 _ _=some (.nx,[.par [.int a1,.bl b],.dat (dR l),.dat (.int v1),.nil,.nil])at s1;obtain⟨v3,a3,t3,p3,q3,a30⟩:=Eg (i:=0) (e:=[.par [.int a1,.bl b],.dat (dR l),.dat (.int v1),.nil,.nil]) (w:=.par [.int a1,.bl b]) (k:=10) (M:=mC (.int 10)) rfl rfl rfl a10 (by omega) (by omega);change i7 2 _ _ _=some (_,[.par [.int a3,.bl b],.dat (dR l),.dat (.int v1),.nil,.nil])at t3;obtain⟨odd,_,hodd⟩:=Oz (ds:=[.int 0,.int 9,.int (-1),.bl true,.non,.str "1",.tup [.int 1],.int 100000000000000000000000000000,.int 1,.int 8]) p3 q3;have pow29:Y3 (.int 10) (.int 29)=some (.int 100000000000000000000000000000):=Ox (by rfl') (by rfl');have s2:(E3 3 (B5 oI (mF (K3 (B0 (mC (.int 0)) (B0 (mC (.int 9)) (B0 (Ak (mC (.int 1))) (B0 (mC (.bl true)) (B0 (mC .non) (B0 (mC (.str "1")) (B0 (G9 (B0 (mC (.int 1)) B6)) (B0 (B5 Y3 (mC (.int 10)) (mC (.int 29))) (B0 (mC (.int 1)) (B0 (mC (.int 8)) B6)))))))))))) (i7 2 Y1 (Q9 0 (B8 (mC (.int 10)) C5))))) [.par [.int a1,.bl b],.dat (dR l),.dat (.int v1),.nil,.nil]=some (.nx,[.par [.int a3,.bl b],.dat (dR l),.dat (.int v1),.dat odd,.nil]):=
  Ab (e1:=[.par [.int a3,.bl b],.dat (dR l),.dat (.int v1),.nil,.nil]) (D6 (U9 (Cs (F1 rfl (F1 rfl (F1 rfl (F1 rfl (F1 rfl (F1 rfl (F1 rfl (F1 (D6 rfl rfl pow29) (F1 rfl (F1 rfl rfl)))))))))) (by simp))) t3 hodd)
 have cl:∀lo hi,(X2 (l.map D.int) lo hi).length≤6:=fun lo hi=>Qn (jR _ _ _) (by rw[Qv];omega);obtain⟨o6,hrows5,s3⟩:∃o6:bb,o6.length=5/\(E3 4 (mF (K3 (B0 (B5 E7 (B5 E7 (pC (A0 1) P4 (P5 (A0 2))) (G9 (B0 (A0 3) B6))) (pC (A0 1) (P5 (B5 E7 (A0 2) (mC (.int 1)))) P4)) (B0 (B5 E7 (B5 E7 (pC (A0 1) P4 (P5 (A0 2))) (G9 (B0 (A0 3) B6))) (pC (A0 1) (P5 (A0 2)) P4)) (B0 (He (A0 1)) (B0 (B5 E7 (A0 1) (pC (A0 1) (P5 (Ak (mC (.int 1)))) P4)) (B0 (mF (rE DN (B0 (A0 1) B6))) B6)))))))) [.par [.int a3,.bl b],.dat (dR l),.dat (.int v1),.dat odd,.nil]=some (.nx,[.par [.int a3,.bl b],.dat (dR l),.dat (.int v1),.dat odd,.dat (.lst o6)]):=by
  refine⟨[_,_,_,_,_],?_,Ab (e1:=[.par [.int a3,.bl b],.dat (dR l),.dat (.int v1),.dat odd,.nil]) (U9 (Cs (F1
   (D6 (D6 (Cr rfl rfl rfl) rfl (Cq ?_)) (Cr rfl rfl rfl) (Cq ?_)) (F1
   (D6 (D6 (Cr rfl rfl rfl) rfl (Cq ?_)) (Cr rfl rfl rfl) (Cq ?_)) (F1 rfl (F1
   (D6 (a:=dR l) rfl (Cr (e:=[.par [.int a3,.bl b],.dat (dR l),.dat (.int v1),.dat odd,.nil]) (lo:=some (-1)) (hi:=none) rfl rfl rfl) (Cq ?_)) (F1 rfl rfl))))) (by simp)))⟩
  ·rfl
  ·have:=cl none (some v1);simp;omega
  ·have:=cl none (some v1);have:=cl (some (v1+1)) none;simp;omega
  ·have:=cl none (some v1);simp;omega
  ·have:=cl none (some v1);have:=cl (some v1) none;simp;omega
  ·have:=cl (some (-1)) none;rw[Qv];omega
 obtain⟨v5,a5,t5,p5,q5,a50⟩:=Eg (i:=0) (e:=[.par [.int a3,.bl b],.dat (dR l),.dat (.int v1),.dat odd,.dat (.lst o6)]) (w:=.par [.int a3,.bl b]) (k:=10) (M:=mC (.int 10)) rfl rfl rfl a30 (by omega) (by omega);change i7 2 _ _ _=some (_,[.par [.int a5,.bl b],.dat (dR l),.dat (.int v1),.dat odd,.dat (.lst o6)])at t5;obtain⟨fin,_,t6⟩:=Oz (ds:=o6++[.non,.emp,.tup [],dR (xI 7),.lst [odd]]) (v:=v5) p5 (by simp;omega);refine⟨fin,a5,(O1 (d:=fin) (env:=[.par [.int a5,.bl b],.dat (dR l),.dat (.int v1),.dat odd,.dat (.lst o6)]) ?_).trans rfl,a50⟩;show JY [.par [.int a,.bl b],.dat (dR l),.nil,.nil,.nil]=_;unfold JY;refine E8 s1 (E8 s2 (E8 s3 (V0 (D6 (U9 (jS rfl (U9 (Cs (F1 rfl (F1 rfl (F1 rfl (F1 (kF (n:=7) rfl rfl (by decide)) (F1 rfl rfl))))) (by simp))) (by simp;omega))) t5 t6))))
theorem RE(k:Nat)(i:Int):L4 (k+1) [.dat (.int i),.dat (.int i)]=some (.d (.bl true),[.dat (.int i),.dat (.int i)]):=by
 refine(O1 (d:=.bl true) (env:=[.dat (.int i),.dat (.int i)]) ?_).trans rfl;show Bp (L4 k) [.dat (.int i),.dat (.int i)]=_;unfold Bp;refine E8 (M5 rfl rfl) (V0 ?_);refine Cw (e1:=[.dat (.int i),.dat (.int i)]) rfl (D6 rfl rfl ?_);rw[YJ];simp
theorem RF(hl:es.length≤1000)(h:∀x∈es,∃ws,L4 k [.dat x,.dat x]=some (.d (.bl true),ws)):∃ws,L4 (k+1) [.dat (.tup es),.dat (.tup es)]=some (.d (.bl true),ws):=by
 refine⟨_,(O1 (d:=.bl true) (env:=[.dat (.tup es),.dat (.tup es)]) ?_)⟩;show Bp (L4 k) [.dat (.tup es),.dat (.tup es)]=_;unfold Bp;refine Aa (BP (e1:=[.dat (.tup es),.dat (.tup es)]) rfl (E8 (e1:=[.dat (.tup es),.dat (.tup es)]) (M5 (e1:=[.dat (.tup es),.dat (.tup es)]) rfl rfl) (V0 ?_)));have e1:(B5 (nW false) (j1 F2 (B0 (A0 0) B6)) (j1 F2 (B0 (A0 1) B6))) [.dat (.tup es),.dat (.tup es)]=some (.bl ((es.length:Int)==(es.length:Int)),[.dat (.tup es),.dat (.tup es)]):=rfl;have c:=PH (mi:=CN (B0 (A0 0) (B0 (A0 1) B6))) (keep:=[false,false]) (m:=i7 2 (L4 k) (B8 (A0 2) (B8 (A0 3) C5))) (env:=[.dat (.tup es),.dat (.tup es)]) (base:=[.nil,.nil]) (l:=es) (q:=fun p=>p) (q2:=fun p=>p) (f:=fun p=>.bl true) (k:=2) (lD (a:=.tup es) (b:=.tup es) rfl (by show some es=some (es.map fun p=>p);simp) (by show some es=some (es.map fun p=>p);simp)) (by omega) rfl rfl (fun p hp=>by
   obtain⟨ws,q⟩:=h p hp;exact J7 (av:=[.d p,.d p]) rfl rfl rfl q) (fun w w2=>rfl)
 refine(Cw (e1.trans ?_) (U8 (d:=.bl true) (F1 (U9 c) rfl) ?_))
 ·rw[Pj]
 ·show(U4 _).map _=_;rw[FV];simp
theorem mH(hl:es.length≤1000)(h:∀x∈es,∃ws,L4 k [.dat x,.dat x]=some (.d (.bl true),ws)):L4 (k+1) [.dat (.lst es),.dat (.lst es)]=some (.d (.bl true),[.dat (.lst es),.dat (.lst es)]):=by
 refine(O1 (d:=.bl true) (env:=[.dat (.lst es),.dat (.lst es)]) ?_).trans rfl;show Bp (L4 k) [.dat (.lst es),.dat (.lst es)]=_;unfold Bp;refine Aa (BP (e1:=[.dat (.lst es),.dat (.lst es)]) rfl (E8 (e1:=[.dat (.lst es),.dat (.lst es)]) (M5 (e1:=[.dat (.lst es),.dat (.lst es)]) rfl rfl) (V0 ?_)));have e1:(B5 (nW false) (j1 F2 (B0 (A0 0) B6)) (j1 F2 (B0 (A0 1) B6))) [.dat (.lst es),.dat (.lst es)]=some (.bl ((es.length:Int)==(es.length:Int)),[.dat (.lst es),.dat (.lst es)]):=rfl;rw[Pj]at e1;have z:Az es es=es.map fun a=>.tup [a,a]:=by have:=QG es id id;simpa using this
 have c:=PH (mi:=CN (B0 (A0 0) (B0 (A0 1) B6))) (keep:=[false,false]) (m:=i7 2 (L4 k) (B8 (A0 2) (B8 (A0 3) C5))) (env:=[.dat (.lst es),.dat (.lst es)]) (base:=[.nil,.nil]) (l:=es) (q:=fun p=>p) (q2:=fun p=>p) (f:=fun _=>.bl true) (k:=2) (by rw[←z];rfl) (by omega) rfl rfl (fun p hp=>by
   obtain⟨ws,q⟩:=h p hp;exact J7 (av:=[.d p,.d p]) rfl rfl rfl q) (fun w w2=>rfl)
 refine Cw e1 (U8 (d:=.bl true) (F1 (U9 c) rfl) ?_);show(U4 _).map _=_;rw[FV];simp
theorem mI{m n:Mo Fl}{e2:a9}(h:C1 m n e=some (.nx,e2)):∃e1,m e=some (.nx,e1)/\n e1=some (.nx,e2):=by
 unfold C1 at h;cases hm:m e with
 |none=>rw[hm]at h;cases h
 |some p=>
  obtain⟨f,e1⟩:=p;rw[hm]at h;cases f with
  |nx=>exact⟨e1,rfl,h⟩
  |_=>cases h
theorem mJ{r:aq}(h:r.length≤1000):∃ws,L4 (k+2) [.dat (dR r),.dat (dR r)]=some (.d (.bl true),ws):=
 RF (k:=k+1) (by rw[Qv];exact h) fun z hz=>by
  obtain⟨i,_,rfl⟩:=Zm.mp hz;exact⟨_,RE k i⟩
theorem mK(hl:M.length≤400)(h:∀t∈M,t.length≤6/\∀r∈t,r.length≤6):L4 6 [.dat (.lst (M.map dT)),.dat (.lst (M.map dT))]=some (.d (.bl true),[.dat (.lst (M.map dT)),.dat (.lst (M.map dT))]):=
 mH (k:=5) (by rw[Qv];omega) fun x hx=>by
  obtain⟨t,ht,rfl⟩:=Zm.mp hx;have q:=h t ht;exact RF (k:=4) (by rw[Qv];omega) fun y hy=>by
   obtain⟨r,hr,rfl⟩:=Zm.mp hy;exact mJ (k:=2) (by have:=q.2 r hr;omega)
theorem RS.take(h:RS l){n:Nat}(hn:1≤n):RS (l.take n):=by
 have h1:=h.lo;have h6:=h.hi;exact⟨h.up.sublist (Rb n l),fun x hx=>h.bd x (List.mem_of_mem_take hx),by rw[Yr];omega,by rw[Yr];omega⟩
section
variable{Z:D}{k:Int}{b:Bool}{w3 w4 w5 w6 w7 w8:W}
theorem mL(h:RS l):((E2 (F5 (mT (i7 2 (L4 6) (B8 (i7 1 Y0 (B8 (A0 3) C5)) (B8 (i7 1 Ai (B8 (A0 3) C5)) C5))))) (E1 (mC (.bl false))) m8)) [.dat Z,.dat (.int k),w2,.dat (dR l),w4,w5,w6,w7,w8]=some (.nx,[.dat Z,.dat (.int k),w2,.dat (dR l),w4,w5,w6,w7,w8]):=by
 obtain⟨w,e⟩:=Gb h;obtain⟨v,f⟩:=QU h;exact M5 (X3 (b:=true) (L7 (J7 (av:=[.d (.int (cnt l)),.d (.int (cnt l))]) (Y5 (J7 (av:=[.d (dR l)]) rfl rfl rfl e) (Y5 (J7 (av:=[.d (dR l)]) rfl rfl rfl f) rfl)) rfl rfl (RE 5 (cnt l))))) rfl
theorem RG:(j1 F2 (B0 (A0 3) B6)) [.dat Z,.dat (.int k),w2,.dat (dR l),w4,w5,w6,w7,w8]=some (.int (l.length:Int),[.dat Z,.dat (.int k),w2,.dat (dR l),w4,w5,w6,w7,w8]):=U8 (F1 rfl rfl) (by show some (D.int ((l.map D.int).length:Int))=_;rw[Qv])
theorem mM(h:RS l):((E2 (Z3 (mT (B5 rY (j1 F2 (B0 (A0 3) B6)) (mC (.int 4)))) (mT (B5 (nW true) (X6 xN [false,false,false,true,false,false,false,false,false] (mF (O7 1 W6 (B8 (A0 3) C5))) (V2 1 AI (B8 (A0 3) C5)) W7) (mC (.int 11))))) (E1 (mC (.bl false))) m8)) [.dat Z,.dat (.int k),w2,.dat (dR l),w4,w5,w6,w7,w8]=some (.nx,[.dat Z,.dat (.int k),w2,.dat (dR l),w4,w5,w6,w7,w8]):=by
 by_cases h4:4<l.length
 ·refine M5 (e1:=[.dat Z,.dat (.int k),w2,.dat (dR l),w4,w5,w6,w7,w8]) (kA (L7 (b:=true) (D6 RG rfl (by show some (D.bl (decide ((l.length:Int)>4)))=_;rw[Yb (by omega)]))) (L7 (b:=false) (D6 (a:=.int 11) (b:=.int 11) (KC (lw:=[.nil,.nil,.nil,.dat (dR l),.nil,.nil,.nil,.nil,.nil]) rfl (Cv (av:=[.d (dR l)]) rfl rfl rfl (mD h h4)) (by rfl') mE) rfl rfl))) rfl
 ·exact M5 (e1:=[.dat Z,.dat (.int k),w2,.dat (dR l),w4,w5,w6,w7,w8]) (kB (L7 (b:=false) (D6 RG rfl (by show some (D.bl (decide ((l.length:Int)>4)))=_;rw[Zg (by omega)])))) rfl
theorem RH(n:Nat):(pC (A0 3) P4 (P5 (mC (.int (n:Int))))) [.dat Z,.dat (.int k),w2,.dat (dR l),w4,w5,w6,w7,w8]=some (dR (l.take n),[.dat Z,.dat (.int k),w2,.dat (dR l),w4,w5,w6,w7,w8]):=by
 refine(Cr (xs:=l.map D.int) (lo:=none) (hi:=some (n:Int)) rfl rfl rfl).trans ?_;rw[jY,←Pq];rfl
theorem mO(h:RS l):∃f,(RS f/\f.length≤4/\few f=true)/\((E2 (mT (B5 rY (i7 1 Ai (B8 (A0 4) C5)) (mC (.int 400)))) (E3 4 (pC (A0 3) P4 (P5 (mC (.int 3))))) m8)) [.dat Z,.dat (.int k),w2,.dat (dR l),.dat (dR (l.take 4)),w5,w6,w7,w8]=some (.nx,[.dat Z,.dat (.int k),w2,.dat (dR l),.dat (dR f),w5,w6,w7,w8]):=by
 have h4:=h.take (n:=4) (by decide);have h3:=h.take (n:=3) (by decide);have l4:(l.take 4).length≤4:=by rw[Yr];omega
 have l3:(l.take 3).length≤3:=by rw[Yr];omega
 obtain⟨v,e⟩:=QU h4
 by_cases hc:400<cnt (l.take 4)
 ·refine⟨l.take 3,⟨h3,by omega,QN h3 l3⟩,BP (e1:=[.dat Z,.dat (.int k),w2,.dat (dR l),.dat (dR (l.take 4)),w5,w6,w7,w8]) (L7 (b:=true) (D6 (J7 (av:=[.d (dR (l.take 4))]) rfl rfl rfl e) rfl (by show some (D.bl (decide (cnt (l.take 4)>400)))=_;rw[Yb hc]))) ?_⟩;exact AJ (RH 3) rfl
 ·exact⟨l.take 4,⟨h4,l4,lG h4 l4 hc⟩,M5 (e1:=[.dat Z,.dat (.int k),w2,.dat (dR l),.dat (dR (l.take 4)),w5,w6,w7,w8]) (L7 (b:=false) (D6 (J7 (av:=[.d (dR (l.take 4))]) rfl rfl rfl e) rfl (by show some (D.bl (decide (cnt (l.take 4)>400)))=_;rw[Zg hc]))) rfl⟩
abbrev xR:Mo Fl:=(C1 (K8 8 (O7 1 W6 (B8 (A0 4) C5))) (C1 (E2 (F5 (mT (Dj 2 (L4 6) [8,5]))) (E1 (mC (.bl false))) m8) (Ao 8 (G9 B6))))
theorem mP{f:aq}(hl:M.length≤400)(hM:∀t∈M,t.length≤6/\∀r∈t,r.length≤6){ws:bf}(ea:W6 [.dat (dR f)]=some (.l (M.map dT),ws)):∃z8,xR [.dat Z,.dat (.int k),w2,w3,.dat (dR f),.dat (.lst (M.map dT)),w6,w7,w8]=some (.nx,[.dat Z,.dat (.int k),w2,w3,.dat (dR f),.dat (.lst (M.map dT)),w6,w7,z8]):=by
 refine⟨.own (M.map dT++[.tup []]),?_⟩;refine E8 (e1:=[.dat Z,.dat (.int k),w2,w3,.dat (dR f),.dat (.lst (M.map dT)),w6,w7,.own (M.map dT)]) (GW (Hl (CP (av:=[.d (dR f)]) rfl rfl rfl ea)) rfl) ?_;refine E8 (e1:=[.dat Z,.dat (.int k),w2,w3,.dat (dR f),.dat (.lst (M.map dT)),w6,w7,.own (M.map dT)]) (M5 (X3 (b:=true) (L7 ?_)) rfl) ?_
 ·unfold Dj;show(L4 6 [.dat (.lst (M.map dT)),.dat (.lst (M.map dT))]).bind _=_;rw[mK hl hM];rfl
 ·exact(jZ (i:=8) (d:=.tup []) (w:=.own (M.map dT)) (w':=.own (M.map dT)) rfl rfl rfl rfl rfl (by rw[Qv];omega)).trans rfl
theorem mQ{f:aq}(h:RS f)(h4:f.length≤4)(hf:few f=true):∃z5 z6 z8,(C1 ((E3 5 (mF (O7 1 Cp (B8 (A0 4) C5))))) ((J1 (U1 (B0 (mC (.int 2)) B6)) (gN 6) (C1 (K8 8 (O7 1 W6 (B8 (A0 4) C5))) (C1 (E2 (F5 (mT (Dj 2 (L4 6) [8,5]))) (E1 (mC (.bl false))) m8) (Ao 8 (G9 B6))))))) [.dat Z,.dat (.int k),w2,w3,.dat (dR f),w5,w6,w7,w8]=some (.nx,[.dat Z,.dat (.int k),w2,w3,.dat (dR f),z5,z6,w7,z8]):=by
 obtain⟨M,⟨hl,hm⟩,⟨wa,ea⟩,⟨wl,el⟩⟩:=lU h h4 hf;have hM:∀t∈M,t.length≤6/\∀r∈t,r.length≤6:=fun t ht=>by
  have h1:=h.lo;have o:=DA h (f.length-1) (by omega) t (hm t ht);exact⟨by have:=o.1;omega,o.2.2⟩
 obtain⟨e',lp,z6,z8,rfl⟩:=MH (g:=gN 6) (b:=xR) (P:=fun e=>∃z6 z8,e=[.dat Z,.dat (.int k),w2,w3,.dat (dR f),.dat (.lst (M.map dT)),z6,w7,z8]) (ds:=sT 2) (env:=[.dat Z,.dat (.int k),w2,w3,.dat (dR f),.dat (.lst (M.map dT)),w6,w7,w8])
  (fun d hd e ⟨z6,z8,he⟩=>by
   subst he;obtain⟨y8,q⟩:=mP (Z:=Z) (k:=k) (w2:=w2) (w3:=w3) (w6:=.dat d) (w7:=w7) (w8:=z8) hl hM ea;exact⟨_,_,rfl,q,_,_,rfl⟩) ⟨w6,w8,rfl⟩
 refine⟨.dat (.lst (M.map dT)),z6,z8,E8 (e1:=[.dat Z,.dat (.int k),w2,w3,.dat (dR f),.dat (.lst (M.map dT)),w6,w7,w8]) (AJ (U9 (Hl (CP (av:=[.d (dR f)]) rfl rfl rfl el))) rfl) ?_⟩;exact(X4 (Eh (n:=2) (j:=2) rfl rfl (by decide))).trans lp
theorem mR(d:D):((E2 (F5 (mT (i7 1 Br (B8 (A0 7) C5)))) (C1 (E2 (mT (B5 (nW true) (X6 xN [false,false,false,false,false,false,false,true,false] (i7 1 Y0 (B8 (A0 7) C5)) (V2 1 Cn (B8 (A0 7) C5)) W7) (mC (.int 5)))) (E1 (mC (.bl false))) m8) (E2 (mT (B5 (nW true) (X6 xN [false,false,false,false,false,false,false,true,false] (mF (O7 1 W6 (B8 (A0 7) C5))) (V2 1 AI (B8 (A0 7) C5)) W7) (mC (.int 5)))) (E1 (mC (.bl false))) m8)) m8)) [.dat Z,.dat (.int k),w2,w3,w4,w5,w6,.dat d,w8]=some (.nx,[.dat Z,.dat (.int k),w2,w3,w4,w5,w6,.dat d,w8]):=by
 obtain⟨w,e⟩:=lY d;cases hg:AK d with
 |true=>
  rw[hg]at e;exact M5 (e1:=[.dat Z,.dat (.int k),w2,w3,w4,w5,w6,.dat d,w8]) (X3 (b:=true) (L7 (J7 (av:=[.d d]) rfl rfl rfl e))) rfl
 |false=>
  rw[hg]at e;refine BP (e1:=[.dat Z,.dat (.int k),w2,w3,w4,w5,w6,.dat d,w8]) (X3 (b:=false) (L7 (J7 (av:=[.d d]) rfl rfl rfl e))) ?_;refine E8 (e1:=[.dat Z,.dat (.int k),w2,w3,w4,w5,w6,.dat d,w8]) (M5 (e1:=[.dat Z,.dat (.int k),w2,w3,w4,w5,w6,.dat d,w8]) (L7 (b:=false) (D6 (a:=.int 5) (b:=.int 5) (KC (lw:=[.nil,.nil,.nil,.nil,.nil,.nil,.nil,.dat d,.nil]) rfl (Cv (av:=[.d d]) rfl rfl rfl (lZ hg)) (by rfl') RD) rfl rfl)) rfl) ?_;exact M5 (e1:=[.dat Z,.dat (.int k),w2,w3,w4,w5,w6,.dat d,w8]) (L7 (b:=false) (D6 (a:=.int 5) (b:=.int 5) (KC (lw:=[.nil,.nil,.nil,.nil,.nil,.nil,.nil,.dat d,.nil]) rfl (Cv (av:=[.d d]) rfl rfl rfl (tW hg)) (by rfl') RD) rfl rfl)) rfl
end
abbrev lw:Mo Fl:=(C1 (K8 2 (O7 2 Eb (B8 (A0 0) (B8 (A0 1) C5)))) (C1 (E3 3 (i7 2 Ed (Q9 2 (B8 (mC (.int 6)) C5)))) (C1 (E2 (F5 (mT (i7 2 (L4 6) (B8 (i7 1 Y0 (B8 (A0 3) C5)) (B8 (i7 1 Ai (B8 (A0 3) C5)) C5))))) (E1 (mC (.bl false))) m8) (C1 (E2 (Z3 (mT (B5 rY (j1 F2 (B0 (A0 3) B6)) (mC (.int 4)))) (mT (B5 (nW true) (X6 xN [false,false,false,true,false,false,false,false,false] (mF (O7 1 W6 (B8 (A0 3) C5))) (V2 1 AI (B8 (A0 3) C5)) W7) (mC (.int 11))))) (E1 (mC (.bl false))) m8) (C1 (E3 4 (pC (A0 3) P4 (P5 (mC (.int 4))))) (C1 (E2 (mT (B5 rY (i7 1 Ai (B8 (A0 4) C5)) (mC (.int 400)))) (E3 4 (pC (A0 3) P4 (P5 (mC (.int 3))))) m8) (C1 (E3 5 (mF (O7 1 Cp (B8 (A0 4) C5)))) (C1 (J1 (U1 (B0 (mC (.int 2)) B6)) (gN 6) xR) (C1 (E3 7 (i7 2 Ee (Q9 2 (B8 (A0 3) C5)))) (E2 (F5 (mT (i7 1 Br (B8 (A0 7) C5)))) (C1 (E2 (mT (B5 (nW true) (X6 xN [false,false,false,false,false,false,false,true,false] (i7 1 Y0 (B8 (A0 7) C5)) (V2 1 Cn (B8 (A0 7) C5)) W7) (mC (.int 5)))) (E1 (mC (.bl false))) m8) (E2 (mT (B5 (nW true) (X6 xN [false,false,false,false,false,false,false,true,false] (mF (O7 1 W6 (B8 (A0 7) C5))) (V2 1 AI (B8 (A0 7) C5)) W7) (mC (.int 5)))) (E1 (mC (.bl false))) m8)) m8))))))))))
theorem mS(ns:aq)(k:Nat)(hk:k<1000)(w2 w3 w4 w5 w6 w7 w8:W):∃ws':bf,ws'.length=8/\lw [.dat (.lst (ns.map .int)),.dat (.int k),w2,w3,w4,w5,w6,w7,w8]=some (.nx,.dat (.lst (ns.map .int))::ws'):=by
 obtain⟨a,b,a0,est⟩:=jO ns k hk;generalize D.lst (ns.map .int)=Z at *;obtain⟨l,a2,el,a20,h⟩:=kR (a:=a) (b:=b) a0;obtain⟨f,⟨hf,f4,fw⟩,t3⟩:=mO (Z:=Z) (k:=(k:Int)) (w2:=.own [.int a2,.bl b]) (w5:=w5) (w6:=w6) (w7:=w7) (w8:=w8) h;obtain⟨z5,z6,z8,t4⟩:=mQ (Z:=Z) (k:=(k:Int)) (w2:=.own [.int a2,.bl b]) (w3:=.dat (dR l)) (w5:=w5) (w6:=w6) (w7:=w7) (w8:=w8) hf f4 fw;obtain⟨d,a3,eb,a30⟩:=mG (b:=b) h.lo h.hi a20;refine⟨[.dat (.int k),.own [.int a3,.bl b],.dat (dR l),.dat (dR f),z5,z6,.dat d,z8],rfl,?_⟩;refine E8 (e1:=[.dat Z,.dat (.int k),.own [.int a,.bl b],w3,w4,w5,w6,w7,w8]) (GW (e1:=[.dat Z,.dat (.int k),w2,w3,w4,w5,w6,w7,w8]) (Hl (CP (av:=[.d Z,.d (.int k)]) rfl rfl rfl est)) rfl) ?_;refine E8 (e1:=[.dat Z,.dat (.int k),.own [.int a2,.bl b],.dat (dR l),w4,w5,w6,w7,w8]) (AJ (e1:=[.dat Z,.dat (.int k),.own [.int a2,.bl b],w3,w4,w5,w6,w7,w8]) (CQ ((Hk (e1:=[.dat Z,.dat (.int k),.own [.int a,.bl b],w3,w4,w5,w6,w7,w8]) (w:=.own [.int a,.bl b]) (av:=[.sl 2,.d (.int 6)]) (i:=2) (c:=[.int a,.bl b]) (c':=[.int a2,.bl b]) rfl rfl rfl rfl rfl el rfl).trans rfl)) rfl) ?_;refine E8 (mL h) (E8 (mM h) ?_);refine E8 (e1:=[.dat Z,.dat (.int k),.own [.int a2,.bl b],.dat (dR l),.dat (dR (l.take 4)),w5,w6,w7,w8]) (AJ (RH 4) rfl) (E8 t3 ?_);obtain⟨e7,p1,p2⟩:=mI t4;refine E8 p1 (E8 p2 ?_);refine E8 (e1:=[.dat Z,.dat (.int k),.own [.int a3,.bl b],.dat (dR l),.dat (dR f),z5,z6,.dat d,z8]) (AJ (e1:=[.dat Z,.dat (.int k),.own [.int a3,.bl b],.dat (dR l),.dat (dR f),z5,z6,w7,z8]) (CQ ((Hk (e1:=[.dat Z,.dat (.int k),.own [.int a2,.bl b],.dat (dR l),.dat (dR f),z5,z6,w7,z8]) (w:=.own [.int a2,.bl b]) (av:=[.sl 2,.d (dR l)]) (i:=2) (c:=[.int a2,.bl b]) (c':=[.int a3,.bl b]) rfl rfl rfl rfl rfl eb rfl).trans rfl)) rfl) ?_;exact mR d
theorem RS.of(h:(o5 l&&(l.all sU&&(decide (1≤l.length)&&decide (l.length≤6))))=true):RS l:=by
 simp only[Qr,Yk,Zb]at h;exact⟨GV h.1,fun x hx=>h.2.1 x hx,h.2.2.1,h.2.2.2⟩
theorem mU:∀ns:aq,ns.length≤63->∃ws',GL [.dat (.lst (ns.map D.int))]=some (.d (.bl true),ws'):=by
 intro ns hns;refine kC (C:=6) (N:=7) (by decide) (by decide) (fun k hk ws hw=>?_) fun ws hw=>?_
 ·rcases ws with _|⟨w2,_|⟨w3,_|⟨w4,_|⟨w5,_|⟨w6,_|⟨w7,_|⟨w8,_|_⟩⟩⟩⟩⟩⟩⟩<;>first|exact mS ns k hk w2 w3 w4 w5 w6 w7 w8|cases hw
 ·obtain⟨x1,q1⟩:=Gb (l:=[1,2,3,4,5,6]) (.of (by decide));obtain⟨x2,q2⟩:=Gb (l:=[1,3]) (.of (by decide));obtain⟨x3,q3⟩:=Gb (l:=[8]) (.of (by decide));rw[lI]at q1;rw[lJ]at q2;rw[lK]at q3;exact⟨_,V0 (Cw (D6 (J7 (av:=[.d (dR [1,2,3,4,5,6])]) rfl rfl rfl q1) rfl rfl) (Cw (D6 (J7 (av:=[.d (dR [1,3])]) rfl rfl rfl q2) rfl rfl) (D6 (J7 (av:=[.d (dR [8])]) rfl rfl rfl q3) rfl rfl)))⟩
end K33
namespace K33
open L2 L2.Mir PySem
abbrev xS:aj:=.str "turnsigns.grids" 415
abbrev uZ:aj:=.str "turnsigns.triangles" 439
abbrev rH:aj:=.str "law_turnsigns_k33_triangles_by_last_rows" 492
theorem mV{P:af}(w:ag)(mg:OI)(fa:ah)(h:Heap)(X:(hK w.params).In h)(G:h.Ns mainGlobals mg)(hfa:mg "law"=some (.ref fa)):
 ∃fd:FuncData,(∀(s:ak) (v:aj),BindsTo s fd ⟨[v],[]⟩ [("_law_script",v)])/\PySem.W.noTabs (hK w.params)=true/\(∀p∈[326],∃c,PySem.W.codeHdIn (hK w.params) c p=true)/\∀base:Heap,(hK w.params).In base->base.Ns mainGlobals mg->Ae mg base->i4 P w (hK w.params) mg base mZ 8 fa fd ["_law_script"] (uM (hK w.params) [326] 1 GL):=by
 obtain⟨A1,A2,A3,A4,A5,A6,A7,A8,A9,A10,A11,A12,A13,A14,A15,A16,A17,A18,A19,A20,A21,A22⟩:j7 (hK w.params) "is_whole" Iq 190 xS 189/\j7 (hK w.params) "is_within" Ir 197 xS 196/\j7 (hK w.params) "is_row" Iu 202 xS 201/\j7 (hK w.params) "is_triangle_row" Iv 207 uZ 206/\j7 (hK w.params) "must_be_last_row" GG 214 uZ 213/\j7 (hK w.params) "rows_over" Iw 219 uZ 218/\j7 (hK w.params) "counted_over" Iy 226 uZ 225/\j7 (hK w.params) "many_triangles" GH 233 uZ 232/\j7 (hK w.params) "all_triangles" GI 238 uZ 237/\j7 (hK w.params) "_law_cell_at" Iz 245 rH 244/\j7 (hK w.params) "_law_state" JA 252 rH 251/\j7 (hK w.params) "_law_take" JB 259 rH 258/\j7 (hK w.params) "_law_refused" JC 264 rH 263/\j7 (hK w.params) "_law_over" JD 276 rH 275/\j7 (hK w.params) "_law_last" JE 288 rH 287/\j7 (hK w.params) "_law_whole" JF 295 rH 294/\j7 (hK w.params) "_law_same" JG 300 rH 299/\j7 (hK w.params) "_law_many" JH 305 rH 304/\j7 (hK w.params) "_law_all" JI 310 rH 309/\j7 (hK w.params) "_law_bent_row" JJ 317 rH 316/\j7 (hK w.params) "_law_good" JK 324 rH 323/\j7 (hK w.params) "law" Ck 331 rH 330:=by refine⟨?_,?_,?_,?_,?_,?_,?_,?_,?_,?_,?_,?_,?_,?_,?_,?_,?_,?_,?_,?_,?_,?_⟩<;>constructor<;>kernel_rfl
 have e:=hfa.symm.trans (Xy X G A22.a);cases e;have T:Txt (hK w.params) mg:=⟨by kernel_rfl,Zn X G (by kernel_rfl),Zn X G (by kernel_rfl),Zn X G (by kernel_rfl),Zn X G (by kernel_rfl),Zn X G (by kernel_rfl),Zn X G (by kernel_rfl),Zn X G (by kernel_rfl),Zn X G (by kernel_rfl),Zn X G (by kernel_rfl),Zn X G (by kernel_rfl),Zn X G (by kernel_rfl),Zn X G (by kernel_rfl),Zn X G (by kernel_rfl),Zn X G (by kernel_rfl),Zn X G (by kernel_rfl),⟨443,Xy X G (by kernel_rfl)⟩,⟨441,Xy X G (by kernel_rfl)⟩,⟨445,Xy X G (by kernel_rfl)⟩⟩;have b1:=A1.f.binds (ps:=["thing"]) fun _ _ _ _ _ _=>rK fun _=>rfl;have b2:=A2.f.binds (ps:=["thing","least","greatest"]) fun _ _ _ _ _ _=>yG fun _ _ _=>rfl;have b3:=A3.f.binds (ps:=["thing","width"]) fun _ _ _ _ _ _=>tT fun _ _=>rfl;have b4:=A4.f.binds (ps:=["thing","width"]) fun _ _ _ _ _ _=>tT fun _ _=>rfl;have b5:=A5.f.binds (ps:=["thing"]) fun _ _ _ _ _ _=>rK fun _=>rfl;have b6:=A6.f.binds (ps:=["row"]) fun _ _ _ _ _ _=>rK fun _=>rfl;have b7:=A7.f.binds (ps:=["counts"]) fun _ _ _ _ _ _=>rK fun _=>rfl;have b8:=A8.f.binds (ps:=["row"]) fun _ _ _ _ _ _=>rK fun _=>rfl;have b9:=A9.f.binds (ps:=["row"]) fun _ _ _ _ _ _=>rK fun _=>rfl;have b10:=A10.f.binds (ps:=["_law_script","_law_k"]) fun _ _ _ _ _ _=>tT fun _ _=>rfl;have b11:=A11.f.binds (ps:=["_law_script","_law_k"]) fun _ _ _ _ _ _=>tT fun _ _=>rfl;have b12:=A12.f.binds (ps:=["_law_state_here","_law_many_here"]) fun _ _ _ _ _ _=>tT fun _ _=>rfl;have b13:=A13.f.binds (ps:=["_law_call"]) fun _ _ _ _ _ _=>rK fun _=>rfl;have b14:=A14.f.binds (ps:=["_law_row"]) fun _ _ _ _ _ _=>rK fun _=>rfl;have b15:=A15.f.binds (ps:=["_law_state_here","_law_most"]) fun _ _ _ _ _ _=>tT fun _ _=>rfl;have b16:=A16.f.binds (ps:=["_law_thing","_law_least","_law_most"]) fun _ _ _ _ _ _=>yG fun _ _ _=>rfl;have b17:=A17.f.binds (ps:=["_law_found","_law_due"]) fun _ _ _ _ _ _=>tT fun _ _=>rfl;have b18:=A18.f.binds (ps:=["_law_row"]) fun _ _ _ _ _ _=>rK fun _=>rfl;have b19:=A19.f.binds (ps:=["_law_row"]) fun _ _ _ _ _ _=>rK fun _=>rfl;have b20:=A20.f.binds (ps:=["_law_state_here","_law_row"]) fun _ _ _ _ _ _=>tT fun _ _=>rfl;have b21:=A21.f.binds (ps:=["_law_thing"]) fun _ _ _ _ _ _=>rK fun _=>rfl;have b22:=A22.f.binds (ps:=["_law_script"]) fun _ _ _ _ _ _=>rK fun _=>rfl;have tc_law:Fe (hK w.params) (.ref 330) 326=true:=by kernel_rfl
 refine⟨PySem.W.fnOf "law" "law" (BU Ck) (W9 Ck) (E5 Ck) .none .none .none (.str "law_turnsigns_k33_triangles_by_last_rows" 492) none (.ref 330) .none,fun s v=>.of_eq rfl,by kernel_rfl,fun p hp=>?_,fun base _ _ hBm=>?_⟩
 ·obtain rfl:=Jg.mp hp;obtain⟨c,_,hc⟩:=Mf tc_law;exact⟨c,hc⟩
 have nF:=dM P w base (hG A1.f T ) A1 X G b1;have oJ:=dM P w base (hW A2.f T nF) A2 X G b2;have qC:=dM P w base (iB A3.f T nF) A3 X G b3;have i8:=dM P w base (iD A4.f T qC oJ) A4 X G b4;have d8:=dM P w base (iE A5.f T i8) A5 X G b5;have i5:=dX P w base (iF A5.f T i8 ) A5 X G b5;have j2:=dM P w base (iH A6.f T ) A6 X G b6;have j5:=dM P w base (iI A7.f T j2) A7 X G b7;have nA:=dM P w base (iJ A8.f T d8 j5) A8 X G b8;have mX:=dX P w base (iK A8.f T d8 j5 i5) A8 X G b8;have nH:=dM P w base (iL A9.f T d8 j2) A9 X G b9;have nB:=dX P w base (iM A9.f T d8 j2 i5) A9 X G b9;have nM:=dM P w base (iO A10.f T ) A10 X G b10;have oC:=dM P w base (iP A11.f T nM) A11 X G b11;have k9:=dM P w base (iQ A12.f T ) A12 X G b12;have nO:=iT (P:=P) (w:=w) (mg:=mg) (base:=base) A13.f T (A13.g X G) b13;have l0:=dM P w base (iV A14.f T ) A14 X G b14;have oK:=dM P w base (iW A15.f T k9) A15 X G b15;have oB:=dM P w base (iY A16.f T ) A16 X G b16;have nN:Def P w (hK w.params) mg base "_law_same" 7 2 (L4 6):=⟨_,_,_,Oe A17.f T (A17.g X G) A17.k b17 6,rfl,A17.g X G,A17.k,b17⟩;have oN:=dM P w base (jB A18.f T l0) A18 X G b18;have o4:=dM P w base (jD A19.f T l0) A19 X G b19;have nG:=dM P w base (jE A20.f T k9) A20 X G b20;have oO:=dM P w base (jF A21.f T oB) A21 X G b21;exact jG A22.f rfl T (aO tc_law A22.c (by kernel_rfl) hBm) oC oK o4 nG nN oN nH oO nA nO nB mX
end K33
theorem PySem.Challenge.cw_turnsigns_k33_triangles_by_last_rows_holds : PySem.Challenge.rw_turnsigns_k33_triangles_by_last_rows.Holds :=
 K33.SE (L2.Mir.aM (l:=PySem.Challenge.rw_turnsigns_k33_triangles_by_last_rows) (k:=8) (x := "_law_script") (fn:=K33.GL) rfl rfl ⟨rfl,by decide,by decide⟩ (fun w h Y=>⟨PySem.W.km_in_of Y,PySem.W.km_tabs_of Y⟩) K33.mV K33.mU)
