import PyProof.Rows.All
import Wide.All
import OpenK.AllK
import Wide.FinOn
import Lean
import PyProof.EqAt
import PyProof.EqKinds
import PyProof.TupleCall
import PySem.Challenge.RW_turnsigns_k23_whole_nets
set_option Elab.async false
set_option linter.all false
set_option maxRecDepth 100000
set_option maxHeartbeats 0
abbrev Qq:=PySem.W.Frag
abbrev Qz:=@PySem.wpAny_bind
abbrev Qj:=@PySem.wpAny_pure
abbrev Qx:=@PySem.Heap.get?_push_of_some
abbrev Qk:=@Option.bind_some
abbrev Qv:=@List.length_map
abbrev Qw:=@if_neg
abbrev Qy:=@List.getElem?_eq_some_iff
abbrev Qu:=@Nat.le_refl
abbrev Qp:=@Bool.and_eq_true
abbrev Qb:=@if_pos
abbrev Qg:=@PySem.Heap.get?_push_size
abbrev Qh:=@PySem.Heap.lt_size
abbrev Qm:=@List.map_cons
abbrev Qn:=@List.size_toArray
abbrev Qc:=@List.getElem?_set_ne
abbrev Ql:=@List.length_append
abbrev Qd:=@Nat.lt_of_lt_of_le
abbrev Qr:=@List.mem_cons
abbrev Qs:=@decide_eq_true_eq
abbrev Qi:=@List.all_eq_true
abbrev Qt:=@PyProof.Rows.slot_tuple_getitem
abbrev Qa:=@List.map_map
abbrev Qe:=@PySem.W.kia_one
abbrev Qo:=@PySem.wpAny_newObj_type
abbrev Zq:=@PySem.boot_len
abbrev Zz:=@decide_eq_false
abbrev Zj:=@Nat.ne_of_lt
abbrev Zx:=@Bool.false_eq_true
abbrev Zk:=@Bool.false_ne_true
abbrev Zv:=@PySem.W.mg_none_of
abbrev Zw:=@Option.some.inj
abbrev Zy:=@List.mem_append_right
abbrev Zu:=@PySem.mem_of_lookup
abbrev Zp:=@PySem.wpAny_field
abbrev Zb:=@List.map_congr_left
abbrev Zg:=@PySem.wpAny_callSpecial?_slot
abbrev Zf:=@Option.some.injEq
abbrev Zh:=@Ne.symm
abbrev Zm:=@List.map_append
abbrev Zn:=@Nat.le_trans
abbrev Zc:=@List.getElem?_map
abbrev Zl:=@List.length_set
abbrev Zd:=@List.contains_cons
abbrev Zr:=@List.not_mem_nil
abbrev Zs:=@if_true
abbrev Zi:=@List.replicate_succ
abbrev Zt:=@List.mem_range
abbrev Za:=@PySem.Heap.size_push
abbrev Ze:=@PySem.PassesOwn.never
abbrev Zo:=@PySem.wpAny_call_entry
abbrev Yq:=@List.mem_map
abbrev Yz:=@PySem.wpAny_truthy_bool
abbrev Yj:=@Int.toNat_natCast
abbrev Yx:=@if_false
abbrev Yk:=@List.getElem?_eq_getElem
abbrev Yv:=@PySem.F.slot_dict_valueiterator_next
abbrev Yw:=@PySem.W.mg_of
abbrev Yy:=@PySem.W.Fast.te14364793385576792824
abbrev Yu:=@List.mem_cons_of_mem
abbrev Yp:=@PySem.wpAny_mono
abbrev Yb:=@List.getElem?_set_self
abbrev Yg:=@Nat.lt_irrefl
abbrev Yh:=@congrArg
abbrev Ym:=@PySem.F.slot_tuple_iterator_next
abbrev Yn:=@List.length_replicate
abbrev Yc:=@List.getElem?_append_left
abbrev Yl:=@PySem.wpAny_loadPart'
abbrev Yd:=@PySem.wpAny_typeNameOfWhole_valiter
abbrev Yr:=@decide_eq_true
abbrev Ys:=@List.length_cons
abbrev Yi:=@PySem.wpAny_seqItems
abbrev Yt:=@PyProof.Rows.callWith_type1
abbrev Ye:=@PySem.wpAny_setField_rec
abbrev Yo:=@List.getElem?_zipWith
abbrev Jq:=@congrFun
abbrev Jz:=@List.sum_cons
abbrev Jj:=@Nat.le_of_succ_le
abbrev Jx:=@Array.getElem?_eq_getElem
abbrev Jk:=@Prod.ext
abbrev Jv:=@Option.isSome_iff_exists
abbrev Jw:=@PySem.wpAny_typeNameOf_valiter
abbrev Jy:=@List.getElem_mem
abbrev Ju:=@List.filterMap_cons
abbrev Jp:=@List.length_zipWith
abbrev Jb:=@PySem.wpAny_holding
abbrev Jg:=@List.mem_cons_self
abbrev Jf:=@List.find?_cons
abbrev Jh:=@PySem.wpAny_ite_false
abbrev Jm:=@beq_iff_eq
abbrev Jn:=@Int.emod_nonneg
abbrev Jc:=@PySem.W.cellsFrom_some
abbrev Jl:=@or_false
abbrev Jd:=@PySem.SeqAt.canLay_of_shaped
abbrev Jr:=@List.take_of_length_le
abbrev Js:=@List.flatten_cons
abbrev Ji:=@List.count_append
abbrev Jt:=@List.map_nil
abbrev Ja:=@PySem.F.slot_zip_next
abbrev Je:=@List.mem_of_getElem?
abbrev Jo:=@List.ext_getElem
abbrev Uq:=@Bool.true_and
abbrev Uz:=@beq_eq_false_iff_ne
abbrev Uj:=@Array.length_toList
abbrev Ux:=@PySem.Heap.SameBut.update
abbrev Uk:=@PySem.F.args_dict_valueiterator_next_1
abbrev Uv:=@PySem.wpAny_passesOwn
abbrev Uw:=@List.append_nil
abbrev Uy:=@List.nodup_cons
abbrev Uu:=@Classical.byContradiction
abbrev Up:=@Bool.or_eq_true
abbrev Ub:=@List.range_succ
abbrev Ug:=@PySem.F.entry_dict_valueiterator_next
abbrev Uf:=@Nat.le_of_lt
abbrev Uh:=@PySem.wpAny_Call_Name_kw
abbrev Um:=@PySem.F.args_tuple_add_2
abbrev Uc:=@PySem.Obj.data_mapFields
abbrev Ul:=@Int.emod_lt_of_pos
abbrev Ud:=@List.getElem_range
abbrev Ur:=@List.getElem?_replicate
abbrev Us:=@PySem.F.entry_tuple_add
abbrev Ui:=@PySem.F.plainAttrs_dict
abbrev Ut:=@PySem.W.kitx_dict
abbrev Ua:=@PySem.wpAny_pyIter_list
abbrev Ue:=@PySem.F.args_tuple_iterator_next_1
abbrev Uo:=@PySem.F.slot_tuple_add
abbrev Vq:=@PySem.F.entry_tuple_iterator_next
abbrev Vz:=@List.length_take
abbrev Vj:=@PySem.F.slot_tuple_mul
abbrev Vx:=@Nat.le_add_right
abbrev Vk:=@List.getElem_map
abbrev Vv:=@PySem.Heap.get?_update_self
abbrev Vw:=@PySem.F.slot_dict_get
abbrev Vy:=@PySem.wpAny_isOneOf_valiter
abbrev Vu:=@List.mem_filter
abbrev Vp:=@Nat.lt_trans
abbrev Vb:=@List.cons.injEq
abbrev Vg:=@PySem.pushCells_keeps
abbrev Vf:=@Option.map_some
abbrev Vh:=@PySem.wpAny_updateSeq_pair
abbrev Vm:=@Bool.or_eq_false_iff
abbrev Vn:=@List.count_singleton
abbrev Vc:=@PySem.F.slot_dict_values_iter
abbrev Vl:=@PySem.wpAny_setField
abbrev Vd:=@List.map_id
abbrev Vr:=@PySem.wpAny_pyIter_tuple
abbrev Vs:=@List.all_cons
abbrev Vi:=@List.any_cons
abbrev Vt:=@Bool.false_or
abbrev Va:=@PySem.wpAny_onRaise
abbrev Ve:=@PySem.wpAny_attempt
abbrev Vo:=@PySem.W.kitx_list
abbrev Xq:=@List.reverse_cons
abbrev Xz:=@List.append_assoc
abbrev Xj:=@Nat.lt_succ_of_lt
abbrev Xx:=@Nat.ne_of_gt
abbrev Xk:=@List.mem_append
abbrev Xv:=@List.of_mem_zip
abbrev Xw:=@Nat.zero_le
abbrev OO:=Nat->Nat->Int
abbrev OI:=List (List Int)
abbrev OU:=PySem.Str->Option PySem.Value
abbrev OE:=PySem.Value->PySem.Shared->Prop
abbrev OA:=PySem.Addr->Prop
abbrev OX:=List (PySem.Addr×PySem.Obj)
namespace HG
open PySem PySem.W PySem.Calls PyProof.Rows
noncomputable def hnth {α:Type}(l:List α) (i:Nat) (d:α):α:=@List.rec α (fun _=>Nat->α) (fun _=>d) (fun a _ ih i=>@Nat.rec (fun _=>α) a (fun j _=>ih j) i) l i
def hsN(s:Stmt):Str:=match s with
 |.FunctionDef n ..=>n
 |.ClassDef n ..=>n
 |_=>Str.empty
def hsA(s:Stmt):Arguments:=match s with
 |.FunctionDef _ a ..=>a
 |_=>default
def hsB(s:Stmt):List Stmt:=match s with
 |.FunctionDef _ _ b ..=>b
 |.ClassDef _ _ _ b ..=>b
 |_=>[]
def hsS(s:Stmt):Scope:=match s with
 |.FunctionDef _ _ _ _ _ _ c ..=>c
 |_=>default
def hsP(s:Stmt):Pos:=match s with
 |.FunctionDef _ _ _ _ _ _ _ _ _ p=>p
 |_=>⟨0,0,0,0⟩
def hdep{α:Sort u}(_:α):Bool:=true
def hE(P:Params)(x:Str)(t:Tok)(v:Value):DictEntry:=⟨PyData.keyHash P x,.str x t,v⟩
def hZ:Obj:=⟨.type "tuple",none,.seq ⟨[]⟩ 0,⟨[]⟩⟩
def hU(l:List Value):Obj:=⟨.type "tuple",none,.seq ⟨l⟩ 0,⟨[]⟩⟩
def hN:Obj:=⟨.none,none,.fields ⟨[]⟩,⟨[]⟩⟩
def hC(n:Str)(t t2:Nat)(ln na fl:Int)(a:Addr)(g:Bool)(b:Addr)(v1 v2 v3 v4:Value):Obj:=
 ⟨.type "code",none,.fields ⟨[.str n t,.str n (Nat.add t 1),.str "/claim/cut.py" (Nat.add t 2),.int ln 0,.int na 0,.int 0 0,.int 0 0,.int fl 0,.ref a,.bool g,.int 181 0,.ref b,v1,v2,v3,v4,.int (Int.ofNat t2) 0,.int ln 0,.str "/claim/cut.py" (Nat.add t2 1)]⟩,⟨[]⟩⟩
def hX(s:Stmt)(q:Str)(g:Addr)(cl:List (Str×Addr))(d k dc m:Value)(an:Option Addr)(c ct:Value)(b:Addr):FuncData:=
 ⟨hsN s,q,hsA s,.stmts (hsB s),hsS s,g,cl,d,k,dc,m,an,c,ct,b⟩
def hR(s:Stmt):Obj:=⟨.none,none,.func (hX s (hsN s) 0 [] .none .none .none .none none .none .none 0),⟨[]⟩⟩
def hF(s:Stmt)(m c:Value):Obj:=⟨.type "function",none,.func (hX s (hsN s) 3 [] .none .none .none m none c .none 0),⟨[]⟩⟩
def hD5(s:Stmt)(a t:Nat)(ln na:Int)(m:Value):List Obj:=[hZ,hN,hR s,hC (hsN s) t (Nat.add t 3) ln na 3 a true (Nat.add a 1) .none .none .none (.ref (Nat.add a 2)),hF s m (.ref (Nat.add a 3))]
noncomputable def hvs (l:List Str) (t:Nat):List Value:=@List.rec Str (fun _=>Nat->List Value) (fun _=>[]) (fun x _ ih t=>.str x t::ih (Nat.succ t)) l t
noncomputable def hD7 (s:Stmt) (a t:Nat) (ln na:Int) (m:Value) (l:List Str):List Obj:=[hZ,hN,hU (hvs l (Nat.add t 3)),hZ,hR s,hC (hsN s) t (Nat.add (Nat.add t 3) l.length) ln na 3 a true (Nat.add a 1) .none (.ref (Nat.add a 2)) (.ref (Nat.add a 3)) (.ref (Nat.add a 4)),hF s m (.ref (Nat.add a 5))]
def hCl(P:Params)(s:Stmt)(a t:Nat)(ln:Int)(m:Value):List Obj:=
 [⟨.type "builtin_function_or_method",none,.fields ⟨[.builtin "type.__prepare__",.type "type"]⟩,⟨[]⟩⟩,
  ⟨.type "dict",none,.dict ⟨[hE P "__module__" (Nat.add t 7) m,hE P "__qualname__" (Nat.add t 9) (.str (hsN s) (Nat.add t 8)),hE P "__firstlineno__" (Nat.add t 11) (.int ln (Nat.add t 10)),hE P "__static_attributes__" (Nat.add t 12) (.ref (Nat.add a 6))]⟩ 4,⟨[]⟩⟩,
  hZ,hN,hC (hsN s) (Nat.add t 2) (Nat.add t 5) ln 0 0 (Nat.add a 2) false (Nat.add a 3) .none .none .none .none,
  ⟨.type "frame",none,.plain,⟨[some (.ref (Nat.add a 4)),some (.ref 3),some (.ref (Nat.add a 1)),none,some m,none,some (.ref 0)]⟩⟩,hZ,
  ⟨.type "dict",none,.dict ⟨[hE P "__module__" (Nat.add t 7) m,hE P "__firstlineno__" (Nat.add t 11) (.int ln (Nat.add t 10)),hE P "__static_attributes__" (Nat.add t 12) (.ref (Nat.add a 6)),hE P "__doc__" (Nat.add t 13) .none]⟩ 2,⟨[]⟩⟩,
  ⟨.type "type",none,.cls ⟨hsN s,[.ref 24],[.ref (Nat.add a 8),.ref 24,.type "ValueError",.type "Exception",.type "BaseException",.type "object"],Nat.add a 7,hsN s,true,[],[],false,none,false⟩,⟨[some (.ref (Nat.sub a 1)),none,some (.str (hsN s) t),some (.str (hsN s) (Nat.add t 8)),some (.builtin "ValueError.__new__"),some (.bool true)]⟩⟩,
  ⟨.type "super",none,.fields ⟨[.ref (Nat.add a 8),.ref (Nat.add a 8),.ref (Nat.add a 8)]⟩,⟨[]⟩⟩,
  ⟨.type "builtin_function_or_method",none,.fields ⟨[.builtin "object.__init_subclass__",.ref (Nat.add a 8)]⟩,⟨[]⟩⟩]
noncomputable def hfd (l:List (Nat×List Obj)) (b:Nat):Obj:=@List.rec (Nat×List Obj) (fun _=>Nat->Obj) (fun _=>hZ) (fun x _ ih b=>@Bool.rec (fun _=>Obj) (ih (Nat.sub b x.1)) (hnth x.2 b hZ) (Nat.blt b x.1)) l b
def hL3(l:List (Int×Addr)):List Value:=l.flatMap fun x=>[.int x.1 0,.int 0 0,.ref x.2]
noncomputable def hmk (f:Nat->Obj) (n:Nat) (fuel:Nat):Nat->Nat->BT:=
 @Nat.rec (fun _=>Nat->Nat->BT) (fun _ _=>.nil) (fun _ ih a b=>@Bool.rec (fun _=>BT) .nil (.node (f b) (ih (Nat.mul 2 a) (Nat.add a b)) (ih (Nat.mul 2 a) (Nat.add (Nat.mul 2 a) b))) (Nat.blt b n)) fuel
def hEnv(p:Program)(c:Value)(f:Addr):Env:={scope:=p.main.scope,locals:=mainNs,globals:=mainNs,cells:=[],code:=c,frame:=some f}
def hVw(p:Program)(l:List Nat):Program:={p with main:={p.main with body:=l.map fun i=>p.main.body.getD i (.Pass ⟨0,0,0,0⟩)}}
abbrev hSt(tr:Nat->Params->BT)(k n t:Nat)(w:World)(os:OsState):SharedT:=⟨tr k w.params,n,{},⟨[]⟩,{},t,os⟩
abbrev hCd(p:Program)(ev:Env):Code:=.body (behindTheImports p) ev
def hPre(m0:Nat)(ann:Option Value)(n n0 t0:Nat)(q q0:Pos)(tg:(String->Option Builtin)->Program->World->Nat->Option Value->Nat->Shared->Thread->Option (Shared×Thread))(dn:(String->Option Builtin)->Code->Sem Fin)(tb:String->Option Builtin)(p:Program)(tr:Nat->Params->BT)(ev:Env):Prop:=
 ∀w:World,(fun os=>tg tb p w m0 ann n ⟨boot_heap w.params,⟨[]⟩,boot_drawn,boot_toks,os⟩ (topStub p))=fun os=>some ((hSt tr 0 n0 t0 w os).abs,Thread.mk (dn tb (hCd p ev)) (hCd p ev) q0 [topFrame q])
def hBlk(m0:Nat)(ann:Option Value)(n n0 t0:Nat)(q q0 q1:Pos)(sr:(String->Option Builtin)->Program->World->Nat->Option Value->Nat->Nat->Shared->Thread->Option (Flow×Shared×Code×Pos))(tb:String->Option Builtin)(p:Program)(tr:Nat->Params->BT)(ev:Env):Prop:=
 ∀w:World,(fun os=>sr tb p w m0 ann 1 n (hSt tr 0 n0 t0 w os).abs (blockOf (behindTheImports p) ev (hCd p ev) q0 [topFrame q]))=fun os=>some (.next,(hSt tr 0 n0 t0 w os).abs,hCd p ev,q1)
def hPc(m0:Nat)(ann:Option Value)(n i j k n0 t0 n1 t1:Nat)(q q0 q1:Pos)(sr:(String->Option Builtin)->Program->World->Nat->Option Value->Nat->Nat->SharedT->Thread->Option (Flow×SharedT×Code×Pos))(tb:String->Option Builtin)(p:Program)(tr:Nat->Params->BT)(ev:Env):Prop:=
 ∀w:World,(fun os=>sr tb p w m0 ann 1 n (hSt tr k n0 t0 w os) (piecesOf (((behindTheImports p).drop i).take j) ev (hCd p ev) q0 [topFrame q]))=fun os=>some (.next,hSt tr (Nat.succ k) n1 t1 w os,hCd p ev,q1)
def hFin(m0:Nat)(ann:Option Value)(n k n0 t0:Nat)(q q0:Pos)(sr:(String->Option Builtin)->Program->World->Nat->Option Value->Nat->Shared->Thread->Option Shared)(tb:String->Option Builtin)(p:Program)(tr:Nat->Params->BT)(ev:Env):Prop:=
 ∀w:World,(fun os=>sr tb p w m0 ann n (hSt tr k n0 t0 w os).abs (Thread.mk (doneF .next) (hCd p ev) q0 [topFrame q]))=fun os=>some (hSt tr k n0 t0 w os).abs
variable{m0:Nat}{ann:Option Value}{q q0 q1:Pos}{tb:String->Option Builtin}{p:Program}{tr:Nat->Params->BT}{ev:Env}{n N i j k n0 t0 n1 t1:Nat}{r:Shared}
theorem hgo(h:hPre m0 ann n n0 t0 q q0 topGo denote tb p tr ev)(w:World)(os:OsState)(g:topRun tb p w m0 ann N (hSt tr 0 n0 t0 w os).abs (Thread.mk (denote tb (hCd p ev)) (hCd p ev) q0 [topFrame q])=some r):
  topRun tb p w m0 ann (Nat.add n N) ⟨boot_heap w.params,⟨[]⟩,boot_drawn,boot_toks,os⟩ (topStub p)=some r:=go_top (Jq (h w) os) g
theorem hblkk(h:hBlk m0 ann n n0 t0 q q0 q1 segRun tb p tr ev)(w:World)(os:OsState)(g:topRun tb p w m0 ann N (hSt tr 0 n0 t0 w os).abs (restOf ((behindTheImports p).drop 0) ev (hCd p ev) q1 [topFrame q])=some r):
  topRun tb p w m0 ann (Nat.add n N) (hSt tr 0 n0 t0 w os).abs (Thread.mk (denote tb (hCd p ev)) (hCd p ev) q0 [topFrame q])=some r:=piece_block (Jq (h w) os) g
theorem hpcs(h:hPc m0 ann n i j k n0 t0 n1 t1 q q0 q1 segRunT tb p tr ev)(w:World)(os:OsState)(g:topRun tb p w m0 ann N (hSt tr (Nat.succ k) n1 t1 w os).abs (restOf ((behindTheImports p).drop (Nat.add i j)) ev (hCd p ev) q1 [topFrame q])=some r):
  topRun tb p w m0 ann (Nat.add n N) (hSt tr k n0 t0 w os).abs (restOf ((behindTheImports p).drop i) ev (hCd p ev) q0 [topFrame q])=some r:=by
 have a:=piece_app (segRun_of (Jq (h w) os)) g
 have e:((behindTheImports p).drop i).take j++(behindTheImports p).drop (Nat.add i j)=(behindTheImports p).drop i:=by
  have:=List.take_append_drop j ((behindTheImports p).drop i);rw[List.drop_drop]at this;exact this
 rw[e]at a;exact a
theorem hfin'(e:(behindTheImports p).drop i=[])(h:hFin m0 ann n k n0 t0 q q0 topRun tb p tr ev)(w:World)(os:OsState):
  topRun tb p w m0 ann n (hSt tr k n0 t0 w os).abs (restOf ((behindTheImports p).drop i) ev (hCd p ev) q0 [topFrame q])=some (hSt tr k n0 t0 w os).abs:=by
 rw[e];exact Jq (h w) os
abbrev hSh(H:Params->Heap)(t:Nat)(w:World)(os:OsState):Shared:=⟨H w.params,⟨[]⟩,{},t,os⟩
structure hLk(p v:Program)(H:Params->Heap)(K:Params->Frag)(as ts:List Addr)(t:Nat)(ls:List Str:=[]):Prop where
 l1:∀w:World,(fun os=>staticsOk (PySem.W.Fast.tw5923862056798008813 p.main.body) (boot_heap w.params) (H w.params)&&namesBound p (H w.params)&&gensDone (hSh H t w os)&&laidKept (boot_heap w.params) (H w.params))=fun _=>true
 l2:∀w:World,(fun os=>PySem.W.Fast.tw5160383126252970620 (PySem.W.R.mapR (fun x=>x.name) (PySem.W.Fast.tw3399658132070893891 v)) (PySem.W.Fast.tw5991557255702980513 v) [] (hSh H t w os))=fun _=>expectedOf v
 l3:∀w:World,(H w.params).bltView=bltViewBooted
 l4:∀w:World,(fun os=>PySem.W.Fast.tw10880121769531294198 (H w.params) (PySem.W.Fast.tw821141287760084731 v ls) (PySem.W.R.mapR (fun x=>x.name) (PySem.W.Fast.tw3399658132070893891 v)) (PySem.W.R.mapR (fun x=>x.1) (PySem.W.Fast.tw7409074990110511671 v)) (PySem.W.R.mapR (fun x=>x.name) (PySem.W.Fast.tw13664370479719496447 v (PySem.W.Fast.tw821141287760084731 v ls)))&&PySem.W.Fast.tw14722251495701143533 (H w.params) (PySem.W.Fast.tw5923862056798008813 p.main.body)&&(H w.params).isNs mainGlobals&&(H w.params).isNs builtinsNs&&PySem.W.Fast.tw10994771534591457954 v (H w.params)&&(xlAt v [] (hSh H t w os)&&recOk [] (hSh H t w os))&&(if true then(hSh H t w os).gens.size==0 else !leftWithCleanup (hSh H t w os).gens))=fun _=>true
 l5:∀w:World,(fun os=>PySem.W.Fast.tw479339242167458305 v (hSh H t w os))=fun _=>true
 l6:∀w:World,(fun os=>PySem.W.Fast.tw16090120013241838585 v (PySem.W.Fast.tw3247288618530077131 v) (hSh H t w os))=fun _=>pinGoodD (PySem.W.Fast.tw3247288618530077131 v)
 l7:∀w:World,(fun os=>PySem.W.Fast.tw2386780881361962483 v (PySem.W.Fast.tw821141287760084731 v ls) (hSh H t w os))=fun _=>plainGoodE v (PySem.W.Fast.tw821141287760084731 v ls)
 l8:∀w:World,(fun os=>PySem.W.Fast.tw11698064438423848299 v ls (hSh H t w os))=fun _=>plainGoodD v ls
 l9:∀w:World,(fun os=>PySem.W.Fast.tw7317090234206586261 v (hSh H t w os))=fun _=>wideGood v
 l10:∀w:World,(fun os=>PySem.W.Fast.tw7369524293546568484 v ls (hSh H t w os))=fun _=>clsGoodW v ls
 l11:∀w:World,PySem.W.R.mapR (H w.params).get? as=PySem.W.R.mapR (fun p=>some p.2) (K w.params)
 l12:∀w:World,PySem.W.R.mapR (H w.params).get? ts=PySem.W.R.mapR (fun _=>some (tabObj #[])) ts
def setRow(w:World)(x:String)(b:Bool):World:={w with params:={w.params with followText:=fun s=>bif s==x then b else w.params.followText s}}
theorem setRow_eq(w:World)(x:String):setRow w x (w.params.followText x)=w:=by
 have e:(fun s=>bif s==x then w.params.followText x else w.params.followText s)=w.params.followText:=by
  funext s
  by_cases h:s=x
  ·subst h
   rw[beq_self_eq_true]
   rfl
  ·have:(s==x)=false:=by rw[Uz];exact h
   rw[this]
   rfl
 unfold setRow;rw[e]
theorem splitW{Pr:World->Prop}(x:String)(h:∀(b:Bool) (w:World),Pr (setRow w x b))(w:World):Pr w:=by
 have:=h (w.params.followText x) w;rwa [setRow_eq]at this
theorem hsize(w:World):((boot_heap w.params).isNs mainGlobals&&(Array.mk []:Array GenState).size==0,(boot_heap w.params).objs.size,(boot_heap w.params).nsMap mainGlobals "__annotations__")=(true,11,some (.ref 6)):=by
 rw[PySem.W.Fast.te8920871248978507458,show("__annotations__":Str)=⟨⟨[95,95,97,110,110,111,116,97,116,105,111,110,115,95,95]⟩⟩from PySem.W.Fast.ofString_ofList ['_','_','a','n','n','o','t','a','t','i','o','n','s','_','_']]
 kernel_rfl
theorem hleft{v:Program}{H:Params->Heap}{K:Params->Frag}{as ts:List Addr}{t M:Nat}(e:∀P,as=(K P).map (·.1))(eo:opening p=plainProg p.main.scope.names)(hf:∀s,fenceModules? p s=some s)(hN:Nat.ble 600 N=true)(le:Nat.ble M N=true)
  (run:∀(w:World) (os:OsState),topRun treeTable p w 11 (some (.ref 6)) M ⟨boot_heap w.params,⟨[]⟩,boot_drawn,boot_toks,os⟩ (topStub p)=some (hSh H t w os)){ls:List Str}(L:hLk p v H K as ts t ls):
  LeftO p v ls (fun s=>xlAt v [] s&&recOk [] s) (Hook.obs (kmHook K as e ts)) (Hook.val (kmHook K as e ts)) N:=by
 refine LeftO.of_pieces (boot_open eo hN hf) hsize run le fun w=>?_
 have q1:=L.l1 w;have q2:=L.l2 w;have q3:=L.l3 w;have q4:=L.l4 w;have q5:=L.l5 w;have q6:=L.l6 w;have q7:=L.l7 w;have q8:=L.l8 w;have q9:=L.l9 w;have q10:=L.l10 w;have q11:=L.l11 w;have q12:=L.l12 w
 simp only[←PySem.W.Fast.te5923862056798008813,←PySem.W.Fast.te5160383126252970620,←PySem.W.R.mapR_eq,←PySem.W.Fast.te3399658132070893891,←PySem.W.Fast.te5991557255702980513,←PySem.W.Fast.te10880121769531294198,←PySem.W.Fast.te821141287760084731,←PySem.W.Fast.te7409074990110511671,←PySem.W.Fast.te13664370479719496447,←PySem.W.Fast.te14722251495701143533,←PySem.W.Fast.te10994771534591457954,←PySem.W.Fast.te479339242167458305,←PySem.W.Fast.te16090120013241838585,←PySem.W.Fast.te3247288618530077131,←PySem.W.Fast.te2386780881361962483,←PySem.W.Fast.te11698064438423848299,←PySem.W.Fast.te7317090234206586261,←PySem.W.Fast.te7369524293546568484]at q1 q2 q4 q5 q6 q7 q8 q9 q10 q11 q12
 funext os
 unfold openSeen openGood;refine Jk (Jq q1 os) (Jk (Jk (Jq q2 os) (Jk q3 (Jk (Jq q4 os) (Jk (Jq q5 os) (Jk (Jq q6 os) (Jk (Jq q7 os) (Jk (Jq q8 os) (Jk (Jq q9 os) (Jq q10 os))))))))) (Jk q11 q12))
end HG
namespace K23
noncomputable section
open PySem PySem.W PySem.Calls PyProof.Rows HG
def hS(i:Nat):Stmt:=PySem.Challenge.pw_turnsigns_k23_whole_nets.main.body.getD i (.Pass ⟨0,0,0,0⟩)
def hm0:Value:=(.str "turnsigns.errors" 187)
def hm1:Value:=(.str "turnsigns.grids" 271)
def hm2:Value:=(.str "turnsigns.tables" 350)
def hm3:Value:=(.str "turnsigns.nets" 390)
def hm4:Value:=(.str "turnsigns.turned" 471)
def hm5:Value:=(.str "law_turnsigns_k23_whole_nets" 576)
def hc0(P:Params):List (Nat×List Obj):=[(15,[boot_o_0 P,boot_o_1 P,boot_o_2 P,hZ,boot_o_4 P,boot_o_5 P,boot_o_6 P,boot_o_7 P,boot_o_8 P,boot_o_9 P,boot_o_10 P,hZ,hZ,hC "<module>" 182 185 1 0 0 11 false 12 .none .none .none .none,⟨(.type "frame"),none,.plain,⟨[(some (.ref 13)),(some (.ref 3)),(some (.ref 3)),none,(some (.str "__main__" 164)),none,(some (.ref 0))]⟩⟩]),(13,[hU [(.type "ValueError")],⟨(.type "builtin_function_or_method"),none,.fields ⟨[(.builtin "type.__prepare__"),(.type "type")]⟩,⟨[]⟩⟩,⟨(.type "dict"),none,.dict ⟨[hE P "__module__" 196 (.str "turnsigns.errors" 187),hE P "__qualname__" 198 (.str "SignError" 197),hE P "__firstlineno__" 200 (.int 2 199),hE P "__static_attributes__" 201 (.ref 22)]⟩ 4,⟨[]⟩⟩,hZ,hN,hC "SignError" 191 194 2 0 0 18 false 19 .none .none .none .none,⟨(.type "frame"),none,.plain,⟨[(some (.ref 20)),(some (.ref 3)),(some (.ref 17)),none,(some (.str "turnsigns.errors" 187)),none,(some (.ref 0))]⟩⟩,hZ,⟨(.type "dict"),none,.dict ⟨[hE P "__module__" 196 (.str "turnsigns.errors" 187),hE P "__firstlineno__" 200 (.int 2 199),hE P "__static_attributes__" 201 (.ref 22),hE P "__weakref__" 203 (.ref 25),hE P "__doc__" 204 .none]⟩ 3,⟨[]⟩⟩,hZ,⟨(.type "getset_descriptor"),none,.fields ⟨[(.str "__weakref__" 202),(.ref 24),(.builtin "ExceptionGroup.__weakref__"),.none]⟩,⟨[]⟩⟩,⟨(.type "super"),none,.fields ⟨[(.ref 24),(.ref 24),(.ref 24)]⟩,⟨[]⟩⟩,⟨(.type "builtin_function_or_method"),none,.fields ⟨[(.builtin "object.__init_subclass__"),(.ref 24)]⟩,⟨[]⟩⟩]),(1,[hU [.ref 24]]),(11,hCl P (hS 2) 29 207 4 hm0),(1,[hU [.ref 24]]),(11,hCl P (hS 3) 41 223 6 hm0),(1,[hU [.ref 24]]),(11,hCl P (hS 4) 53 239 8 hm0),(1,[hU [.ref 24]]),(11,hCl P (hS 5) 65 255 10 hm0)]
def hc1(P:Params):List (Nat×List Obj):=[(7,hD7 (hS 7) 76 273 13 1 hm1 ["thing"]),(7,hD7 (hS 8) 83 280 15 3 hm1 ["thing","least","greatest"]),(5,hD5 (hS 9) 90 289 17 2 hm1),(5,hD5 (hS 10) 95 295 21 3 hm1),(7,hD7 (hS 11) 100 301 25 3 hm1 ["thing","least","greatest"]),(5,hD5 (hS 12) 107 310 29 1 hm1),(7,hD7 (hS 13) 112 316 31 1 hm1 ["row","sums","number"]),(5,hD5 (hS 14) 119 325 36 1 hm1),(5,hD5 (hS 15) 124 331 38 1 hm1),(7,hD7 (hS 16) 129 337 40 1 hm1 ["grid"])]
def hc2(P:Params):List (Nat×List Obj):=[(5,hD5 (hS 17) 136 344 42 1 hm1),(7,hD7 (hS 20) 141 354 46 1 hm2 ["line","total","number"]),(5,hD5 (hS 21) 148 363 53 1 hm2),(7,hD7 (hS 22) 153 369 57 1 hm2 ["thing"]),(7,hD7 (hS 23) 160 376 60 1 hm2 ["table"]),(7,hD7 (hS 24) 167 383 62 1 hm2 ["table"]),(7,hD7 (hS 26) 174 392 66 1 hm3 ["table"]),(7,hD7 (hS 27) 181 399 68 1 hm3 ["thing","across","down","side"]),(7,hD7 (hS 28) 188 409 76 1 hm3 ["table"]),(7,hD7 (hS 29) 195 416 79 1 hm3 ["thing","table"])]
def hc3(P:Params):List (Nat×List Obj):=[(7,hD7 (hS 30) 202 424 84 1 hm3 ["net"]),(7,hD7 (hS 31) 209 431 88 2 hm3 ["thing","side"]),(7,hD7 (hS 32) 216 439 90 3 hm3 ["net","row","column","across","down"]),(7,hD7 (hS 33) 223 450 93 3 hm3 ["table","row","column"]),(7,hD7 (hS 34) 230 459 100 1 hm3 ["table","net","counts","row","column","kind"]),(7,hD7 (hS 36) 237 473 110 1 hm4 ["table"]),(7,hD7 (hS 37) 244 480 112 1 hm4 ["table"]),(7,hD7 (hS 38) 251 487 114 1 hm4 ["table"]),(7,hD7 (hS 39) 258 494 116 1 hm4 ["table"]),(5,hD5 (hS 40) 265 501 118 1 hm4)]
def hc4(P:Params):List (Nat×List Obj):=[(7,hD7 (hS 41) 270 507 120 1 hm4 ["table"]),(7,hD7 (hS 42) 277 514 122 1 hm4 ["table"]),(7,hD7 (hS 43) 284 521 124 1 hm4 ["table"]),(1,[⟨(.type "dict"),none,.dict ⟨[hE P "stay" 528 (.ref 243),hE P "left" 529 (.ref 250),hE P "half" 530 (.ref 257),hE P "right" 531 (.ref 264),hE P "upright" 532 (.ref 269),hE P "flat" 533 (.ref 276),hE P "slant" 534 (.ref 283),hE P "other" 535 (.ref 290)]⟩ 8,⟨[]⟩⟩]),(7,hD7 (hS 45) 292 545 127 1 hm4 ["thing"]),(7,hD7 (hS 46) 299 552 129 1 hm4 ["thing"]),(7,hD7 (hS 47) 306 559 132 2 hm4 ["table","turn","deed"]),(7,hD7 (hS 48) 313 568 135 2 hm4 ["table","turn"]),(7,hD7 (hS 50) 320 578 140 2 hm5 ["_law_script","_law_k"]),(7,hD7 (hS 51) 327 586 144 2 hm5 ["_law_script","_law_k","_law_cell"])]
def hc5(P:Params):List (Nat×List Obj):=[(7,hD7 (hS 52) 334 595 149 2 hm5 ["_law_state_here","_law_many","_law_found","_law_mixed"]),(5,hD5 (hS 53) 341 605 158 1 hm5),(5,hD5 (hS 54) 346 611 170 2 hm5),(5,hD5 (hS 55) 351 617 172 2 hm5),(5,hD5 (hS 56) 356 623 185 1 hm5),(5,hD5 (hS 57) 361 629 187 1 hm5)]
def hB(P:Params):Nat->Obj:=hfd (hc0 P++hc1 P++hc2 P++hc3 P++hc4 P++hc5 P)
def b1A(P:Params)(v:Value):List DictEntry:=[hE P "__name__" 165 v,hE P "__doc__" 166 .none,hE P "__package__" 167 .none,hE P "__loader__" 168 (.builtin "__main__.__loader__#opaque"),hE P "__spec__" 169 .none,hE P "__annotations__" 170 (.ref 6),hE P "__builtins__" 171 (.ref 4),hE P "__file__" 173 (.str "/claim/cut.py" 172),hE P "__cached__" 174 .none,hE P "SignError" 206 (.ref 24),hE P "NoTable" 222 (.ref 37),hE P "NoNet" 238 (.ref 49),hE P "NoPlace" 254 (.ref 61),hE P "NoTurn" 270 (.ref 73),hE P "is_whole" 279 (.ref 82),hE P "is_within" 288 (.ref 89)]
def b1B(P:Params)(v:Value):List DictEntry:=[hE P "is_row" 294 (.ref 94),hE P "is_grid" 300 (.ref 99),hE P "is_square" 309 (.ref 106),hE P "flipped" 315 (.ref 111),hE P "running_sums" 324 (.ref 118),hE P "rises" 330 (.ref 123),hE P "sums_across" 336 (.ref 128),hE P "sums_down" 343 (.ref 135),hE P "rises_across" 349 (.ref 140),hE P "GREATEST_SIDE" 353 (.int 6 352),hE P "takes_turns" 362 (.ref 147),hE P "is_table" 368 (.ref 152),hE P "must_be_table" 375 (.ref 159),hE P "summed" 382 (.ref 166),hE P "heights_of" 389 (.ref 173),hE P "spun" 398 (.ref 180)]
def b1C(P:Params)(v:Value):List DictEntry:=[hE P "has_net_shape" 408 (.ref 187),hE P "net_of" 415 (.ref 194),hE P "is_net" 423 (.ref 201),hE P "table_of_net" 430 (.ref 208),hE P "is_place" 438 (.ref 215),hE P "kind_in" 449 (.ref 222),hE P "kind_at" 458 (.ref 229),hE P "kinds_of" 470 (.ref 236),hE P "stayed" 479 (.ref 243),hE P "turned_left" 486 (.ref 250),hE P "turned_half" 493 (.ref 257),hE P "turned_right" 500 (.ref 264),hE P "told_upright" 506 (.ref 269),hE P "told_flat" 513 (.ref 276),hE P "told_slant" 520 (.ref 283),hE P "told_other" 527 (.ref 290)]
def b1D(P:Params)(v:Value):List DictEntry:=[hE P "TURNS" 544 (.ref 291),hE P "is_turn" 551 (.ref 298),hE P "must_be_turn" 558 (.ref 305),hE P "brought" 567 (.ref 312),hE P "turned" 575 (.ref 319),hE P "_law_cell_at" 585 (.ref 326),hE P "_law_state" 594 (.ref 333),hE P "_law_take" 604 (.ref 340),hE P "_law_rows" 610 (.ref 345),hE P "_law_held" 616 (.ref 350),hE P "_law_table" 622 (.ref 355),hE P "_law_slant" 628 (.ref 360),hE P "law" 634 (.ref 365)]
def he3(P:Params)(v:Value):List DictEntry:=b1A P v++b1B P v++b1C P v++b1D P v
def ht3(k:Nat):Nat×Nat×Value:=hnth [(9,9,(.str "__main__" 164)),(10,10,(.str "turnsigns.errors" 187)),(11,11,(.str "turnsigns.errors" 187)),(12,12,(.str "turnsigns.errors" 187)),(13,13,(.str "turnsigns.errors" 187)),(20,20,(.str "turnsigns.grids" 271)),(34,34,(.str "turnsigns.nets" 390)),(47,47,(.str "turnsigns.turned" 471)),(56,56,(.str "law_turnsigns_k23_whole_nets" 576)),(61,61,(.str "law_turnsigns_k23_whole_nets" 576))] k (0,0,.none)
def hx3(P:Params)(k:Nat):Obj:=⟨(.type "dict"),none,.dict ⟨(he3 P (ht3 k).2.2).take (ht3 k).1⟩ (ht3 k).2.1,⟨[]⟩⟩
def b1E:List Value:=hL3 [(2,20),(4,33),(6,45),(8,57),(10,69),(13,81),(15,88),(17,93),(21,98),(25,105),(29,110),(31,117),(36,122),(38,127),(40,134),(42,139),(46,146),(53,151),(57,158),(60,165),(62,172),(66,179),(68,186),(76,193),(79,200),(84,207),(88,214),(90,221),(93,228),(100,235),(110,242),(112,249),(114,256),(116,263),(118,268),(120,275),(122,282),(124,289),(127,297),(129,304),(132,311),(135,318),(140,325),(144,332),(149,339),(158,344),(170,349),(172,354),(185,359),(187,364)]
def b1F(_:Params)(k:Nat):Obj:=⟨.none,none,.fields ⟨b1E.take (hnth [0,3,6,9,12,33,72,111,135,150] k 0)⟩,⟨[]⟩⟩
def b1G:List Value:=[(.ref 37),(.ref 49),(.ref 61),(.ref 73)]
def b1H(_:Params)(k:Nat):Obj:=⟨(.type "type"),none,.cls ⟨"SignError",[(.type "ValueError")],[(.ref 24),(.type "ValueError"),(.type "Exception"),(.type "BaseException"),(.type "object")],23,"SignError",true,[],b1G.take (hnth [0,0,1,2,3,4,4,4,4,4] k 0),false,none,false⟩,⟨[(some (.ref 15)),none,(some (.str "SignError" 189)),(some (.str "SignError" 197)),(some (.builtin "ValueError.__new__")),(some (.bool true))]⟩⟩
def hO(P:Params)(k b:Nat):Obj:=match Nat.beq b 3 with|true=>hx3 P k|false=>match Nat.beq b 12 with|true=>b1F P k|false=>match Nat.beq b 24 with|true=>b1H P k|false=>hB P b
def hn(k:Nat):Nat:=hnth [15,28,40,52,64,112,195,284,341,366] k 0
noncomputable def hT (k:Nat) (P:Params):BT:=hmk (hO P k) (hn k) 12 1 0
def hV:Env:=hEnv PySem.Challenge.pw_turnsigns_k23_whole_nets (.ref 13) 14
def hQ:Program:=hVw PySem.Challenge.pw_turnsigns_k23_whole_nets [1,2,3,4,5,7,8,9,10,11,12,13,14,15,16,17,19,20,21,22,23,24,26,27,28,29,30,31,32,33,34,36,37,38,39,40,41,42,43,44,45,46,47,48,50,51,52,53,54,55,56,57]
def hA:List Nat:=[2,3,15,22,23,24,25,28,35,36,37,40,47,48,49,52,59,60,61,64,71,72,73,76,78,79,81,82,83,85,86,88,89,90,93,94,95,98,99,100,102,103,105,106,107,110,111,112,114,115,117,118,119,122,123,124,127,128,129,131,132,134,135,136,139,140,141,143,144,146,147,148,151,152,153,155,156,158,159,160,162,163,165,166,167,169,170,172,173,174,176,177,179,180,181,183,184,186,187,188,190,191,193,194,195,197,198,200,201,202,204,205,207,208,209,211,212,214,215,216,218,219,221,222,223,225,226,228,229,230,232,233,235,236,237,239,240,242,243,244,246,247,249,250,251,253,254,256,257,258,260,261,263,264,265,268,269,270,272,273,275,276,277,279,280,282,283,284,286,287,289,290,291,292,294,295,297,298,299,301,302,304,305,306,308,309,311,312,313,315,316,318,319,320,322,323,325,326,327,329,330,332,333,334,336,337,339,340,341,344,345,346,349,350,351,354,355,356,359,360,361,364,365]
def hK(P:Params):Frag:=hA.map fun a=>(a,hO P 9 a)
def hH(P:Params):Heap:=absHeap (hT 9 P) 366 {}
theorem htw:(hdep hT&&hdep hH&&hdep hV&&hdep hQ&&hdep hK&&hdep PySem.Challenge.pw_turnsigns_k23_whole_nets)=true:=by k_qdec
abbrev hpw:=PySem.Challenge.pw_turnsigns_k23_whole_nets
noncomputable abbrev fb:=PySem.W.Fast.tw14364793385576792824
noncomputable abbrev fp:=PySem.W.Fast.tw7356441607786456535
noncomputable abbrev ft:=PySem.W.Fast.tw11549183867667519938
noncomputable abbrev fv:=PySem.W.Fast.tw17236648359086096290
theorem b1I:hPre 11 (some (.ref 6)) 12 15 187 ⟨0,0,0,0⟩ ⟨0,0,0,0⟩ PySem.W.Fast.tw15667345088766844465 PySem.W.Fast.tw11892475500146522536 fb fp ft fv:=fun w=>by kernel_rfl
theorem hpre:hPre 11 (some (.ref 6)) 12 15 187 ⟨0,0,0,0⟩ ⟨0,0,0,0⟩ topGo denote treeTable PySem.Challenge.pw_turnsigns_k23_whole_nets hT hV:=by rw[PySem.W.Fast.te15667345088766844465,PySem.W.Fast.te11892475500146522536,Yy,PySem.W.Fast.te7356441607786456535,PySem.W.Fast.te11549183867667519938,PySem.W.Fast.te17236648359086096290];exact b1I
theorem b1J:hBlk 11 (some (.ref 6)) 1 15 187 ⟨0,0,0,0⟩ ⟨0,0,0,0⟩ ⟨0,0,0,0⟩ PySem.W.Fast.tw14374325043358763698 fb fp ft fv:=fun w=>by kernel_rfl
theorem hblk:hBlk 11 (some (.ref 6)) 1 15 187 ⟨0,0,0,0⟩ ⟨0,0,0,0⟩ ⟨0,0,0,0⟩ segRun treeTable PySem.Challenge.pw_turnsigns_k23_whole_nets hT hV:=by rw[PySem.W.Fast.te14374325043358763698,Yy,PySem.W.Fast.te7356441607786456535,PySem.W.Fast.te11549183867667519938,PySem.W.Fast.te17236648359086096290];exact b1J
theorem hsl{m0:Nat}{ann:Option Value}{n i j k n0 t0 n1 t1:Nat}{q q0 q1:Pos}(h:hPc m0 ann n i j k n0 t0 n1 t1 q q0 q1 PySem.W.Fast.tw10110043849684766642 fb fp ft fv):hPc m0 ann n i j k n0 t0 n1 t1 q q0 q1 segRunT treeTable PySem.Challenge.pw_turnsigns_k23_whole_nets hT hV:=by rw[PySem.W.Fast.te10110043849684766642,Yy,PySem.W.Fast.te7356441607786456535,PySem.W.Fast.te11549183867667519938,PySem.W.Fast.te17236648359086096290];exact h
theorem hp0:hPc 11 (some (.ref 6)) 196 0 2 0 15 187 28 207 ⟨0,0,0,0⟩ ⟨0,0,0,0⟩ ⟨2,0,3,8⟩ segRunT treeTable hpw hT hV:=hsl fun w=>by kernel_rfl
theorem hp1:hPc 11 (some (.ref 6)) 214 2 1 1 28 207 40 223 ⟨0,0,0,0⟩ ⟨2,0,3,8⟩ ⟨4,0,5,8⟩ segRunT treeTable hpw hT hV:=hsl fun w=>by kernel_rfl
theorem hp2:hPc 11 (some (.ref 6)) 214 3 1 2 40 223 52 239 ⟨0,0,0,0⟩ ⟨4,0,5,8⟩ ⟨6,0,7,8⟩ segRunT treeTable hpw hT hV:=hsl fun w=>by kernel_rfl
theorem hp3:hPc 11 (some (.ref 6)) 214 4 1 3 52 239 64 255 ⟨0,0,0,0⟩ ⟨6,0,7,8⟩ ⟨8,0,9,8⟩ segRunT treeTable hpw hT hV:=hsl fun w=>by kernel_rfl
theorem hp4:hPc 11 (some (.ref 6)) 392 5 8 4 64 255 112 316 ⟨0,0,0,0⟩ ⟨8,0,9,8⟩ ⟨29,0,30,82⟩ segRunT treeTable hpw hT hV:=hsl fun w=>by kernel_rfl
theorem hp5:hPc 11 (some (.ref 6)) 400 13 16 5 112 316 195 416 ⟨0,0,0,0⟩ ⟨29,0,30,82⟩ ⟨76,0,78,22⟩ segRunT treeTable hpw hT hV:=hsl fun w=>by kernel_rfl
theorem hp6:hPc 11 (some (.ref 6)) 397 29 14 6 195 416 284 521 ⟨0,0,0,0⟩ ⟨76,0,78,22⟩ ⟨122,0,123,25⟩ segRunT treeTable hpw hT hV:=hsl fun w=>by kernel_rfl
theorem hp7:hPc 11 (some (.ref 6)) 389 43 10 7 284 521 341 605 ⟨0,0,0,0⟩ ⟨122,0,123,25⟩ ⟨149,0,157,38⟩ segRunT treeTable hpw hT hV:=hsl (by unfold hPc;refine splitW "special-get-raises" fun b w=>?_;cases b<;>kernel_rfl)
theorem hp8:hPc 11 (some (.ref 6)) 131 53 5 8 341 605 366 635 ⟨0,0,0,0⟩ ⟨149,0,157,38⟩ ⟨187,0,214,15⟩ segRunT treeTable hpw hT hV:=hsl fun w=>by kernel_rfl
theorem b1K:hFin 11 (some (.ref 6)) 2 9 366 635 ⟨0,0,0,0⟩ ⟨187,0,214,15⟩ PySem.W.Fast.tw14082659384304107361 fb fp ft fv:=fun w=>by kernel_rfl
theorem hfin:hFin 11 (some (.ref 6)) 2 9 366 635 ⟨0,0,0,0⟩ ⟨187,0,214,15⟩ topRun treeTable PySem.Challenge.pw_turnsigns_k23_whole_nets hT hV:=by rw[PySem.W.Fast.te14082659384304107361,Yy,PySem.W.Fast.te7356441607786456535,PySem.W.Fast.te11549183867667519938,PySem.W.Fast.te17236648359086096290];exact b1K
theorem hrun(w:World)(os:OsState):topRun treeTable PySem.Challenge.pw_turnsigns_k23_whole_nets w 11 (some (.ref 6)) (Nat.add 12 (Nat.add 1 (Nat.add 196 (Nat.add 214 (Nat.add 214 (Nat.add 214 (Nat.add 392 (Nat.add 400 (Nat.add 397 (Nat.add 389 (Nat.add 131 (2)))))))))))) ⟨boot_heap w.params,⟨[]⟩,boot_drawn,boot_toks,os⟩ (topStub PySem.Challenge.pw_turnsigns_k23_whole_nets)=some (SharedT.abs ⟨hT 9 w.params,366,{},⟨[]⟩,{},635,os⟩):=hgo hpre w os (hblkk hblk w os (hpcs hp0 w os (hpcs hp1 w os (hpcs hp2 w os (hpcs hp3 w os (hpcs hp4 w os (hpcs hp5 w os (hpcs hp6 w os (hpcs hp7 w os (hpcs hp8 w os (hfin' (by kernel_rfl) hfin w os)))))))))))
theorem b1L:hLk PySem.W.Fast.tw7356441607786456535 PySem.W.Fast.tw10892373897984150766 PySem.W.Fast.tw2783712924388859215 PySem.W.Fast.tw10693572026785058629 hA [] 635 ["TURNS"]:=⟨fun _=>by kernel_rfl,fun _=>by kernel_rfl,fun _=>by kernel_rfl,fun _=>by kernel_rfl,fun _=>by kernel_rfl,fun _=>by kernel_rfl,fun _=>by kernel_rfl,fun _=>by kernel_rfl,fun _=>by kernel_rfl,fun _=>by kernel_rfl,fun _=>by kernel_rfl,fun _=>by kernel_rfl⟩
theorem hlk:hLk PySem.Challenge.pw_turnsigns_k23_whole_nets hQ hH hK hA [] 635 ["TURNS"]:=by rw[PySem.W.Fast.te7356441607786456535,PySem.W.Fast.te10892373897984150766,PySem.W.Fast.te2783712924388859215,PySem.W.Fast.te10693572026785058629];exact b1L
abbrev hHk:Hook:=kmHook hK hA (fun _=>by kernel_rfl) []
theorem hlf:LeftO PySem.Challenge.pw_turnsigns_k23_whole_nets hQ ["TURNS"] (fun s=>xlAt hQ [] s&&recOk [] s) (Hook.obs hHk) (Hook.val hHk) 5202:=hleft (fun _=>by kernel_rfl) (by kernel_rfl) (fun _=>by kernel_rfl) (by decide) (by decide) hrun hlk
abbrev hDr:DefRec:=⟨"law",hsA (hS 57),hsB (hS 57),hsS (hS 57),hsP (hS 57)⟩
end
end K23
namespace L2
open PySem PySem.Spec PyProof.Rows
abbrev Key:=Sum Int Str
def a2q:Key->Value->Bool
 |.inl k,v=>Value.isInt k v
 |.inr x,v=>Value.isStrOf x v
def b1M(w:World):Key->Int
 |.inl k=>hashInt k
 |.inr x=>hashStr w x
theorem a0T:∀{k:Key}{v:Value},a2q k v=true->(∃i t,k=Sum.inl i/\v=Value.int i t)∨(∃x t,k=Sum.inr x/\v=Value.str x t)
 |.inl i,v,h=>by
  obtain⟨t,e⟩:=Value.isInt_shape (k:=i) (v:=v) h;exact .inl ⟨i,t,rfl,e⟩
 |.inr x,v,h=>by
  obtain⟨t,e⟩:=Value.isStrOf_shape (x:=x) (v:=v) h;exact .inr ⟨x,t,rfl,e⟩
theorem b1N(i:Int)(t:Tok):a2q (.inl i) (.int i t)=true:=by simp[a2q,Value.isInt]
theorem b1O(x:Str)(t:Tok):a2q (.inr x) (.str x t)=true:=by simp[a2q,Value.isStrOf]
theorem b1P(a b:Int):decide ((Sum.inl a:Key)=Sum.inl b)=(a==b):=by
 by_cases e:a=b
 ·subst e;simp
 ·have h:¬ (Sum.inl a:Key)=Sum.inl b:=fun q=>e (Sum.inl.inj q)
  rw[Zz h];exact(Uz.mpr e).symm
theorem b1Q(a b:Str):decide ((Sum.inr a:Key)=Sum.inr b)=decide (a=b):=by
 by_cases e:a=b
 ·subst e;simp
 ·have h:¬ (Sum.inr a:Key)=Sum.inr b:=fun q=>e (Sum.inr.inj q)
  rw[Zz h,Zz e]
theorem b1R(a:Int)(b:Str):decide ((Sum.inl a:Key)=Sum.inr b)=false:=Zz (fun q=>nomatch q)
theorem b1S(a:Str)(b:Int):decide ((Sum.inr a:Key)=Sum.inl b)=false:=Zz (fun q=>nomatch q)
def k5_(prog:Program)(w:World):PySem.KeyKind prog w Key where
 is:=a2q
 hash:=b1M w
 inj:=fun v a b ha hb=>by
  rcases a0T ha with⟨i,t,rfl,rfl⟩|⟨x,t,rfl,rfl⟩
  ·rcases a0T hb with⟨j,u,rfl,e⟩|⟨y,u,rfl,e⟩
   ·injection e with e1 _;rw[e1]
   ·exact nomatch e
  ·rcases a0T hb with⟨j,u,rfl,e⟩|⟨y,u,rfl,e⟩
   ·exact nomatch e
   ·injection e with e1 _;rw[e1]
 byValue:=fun k v h=>by
  rcases a0T h with⟨i,t,rfl,rfl⟩|⟨x,t,rfl,rfl⟩<;>rfl
 pyHash:=fun hv h=>by
  rcases a0T hv with⟨i,t,rfl,rfl⟩|⟨x,t,rfl,rfl⟩
  ·exact wpAny_pyHash_int h
  ·exact wpAny_pyHash_str h
 eqBool:=fun hu hv h=>by
  rcases a0T hu with⟨i,t,rfl,rfl⟩|⟨x,t,rfl,rfl⟩
  ·rcases a0T hv with⟨j,u,rfl,rfl⟩|⟨y,u,rfl,rfl⟩
   ·rw[b1P]at h;exact wpAny_eqBool_int h
   ·rw[b1R]at h;exact SeqAt.EqAt.int_str i t y u _ _ _ _ h
  ·rcases a0T hv with⟨j,u,rfl,rfl⟩|⟨y,u,rfl,rfl⟩
   ·rw[b1S]at h;exact SeqAt.EqAt.str_int x t j u _ _ _ _ h
   ·rw[b1Q]at h;exact wpAny_eqBool_str h
 «strs»:=fun k x t v h=>by
  rcases a0T h with⟨i,u,rfl,e⟩|⟨y,u,rfl,e⟩
  ·exact nomatch e
  ·injection e with e1 _
   subst e1;cases v<;>rfl
theorem b1T(prog:Program)(w:World)(i:Int)(t:Tok):(k5_ prog w).is (.inl i) (.int i t)=true:=b1N i t
theorem b1U(prog:Program)(w:World)(x:Str)(t:Tok):(k5_ prog w).is (.inr x) (.str x t)=true:=b1O x t
inductive V where
 |non|bl (b:Bool)|int (i:Int)|str (x:Str)|byt (b:Array UInt8)|flt (b:UInt64)|ref (a:Addr)|ty (n:String)
 deriving DecidableEq
def v2_:V->Value->Prop
 |.non,u=>u=Value.none
 |.bl b,u=>u=Value.bool b
 |.int i,u=>∃t,u=Value.int i t
 |.str x,u=>∃t,u=Value.str x t
 |.byt b,u=>∃t,u=Value.bytes b t
 |.flt b,u=>∃t,u=Value.float b t
 |.ref a,u=>u=Value.ref a
 |.ty n,u=>u=Value.type n
abbrev q5_:List V->List Value->Prop:=Paired v2_
theorem q5_.length{xs:List V}{us:List Value}(r:q5_ xs us):xs.length=us.length:=Paired.length r
theorem q5_.get:∀{xs:List V}{us:List Value}{i:Nat}{x:V},q5_ xs us->xs[i]? =some x->∃u,us[i]? =some u/\v2_ x u
 |_,_,_,_,.nil,e=>by simp at e
 |_,_,0,_,.cons r _,e=>by simp at e;subst e;exact⟨_,rfl,r⟩
 |_,_,i+1,x,.cons _ t,e=>by
  obtain⟨u,h1,h2⟩:=q5_.get (i:=i) (x:=x) t (by simpa using e)
  exact⟨u,by simpa using h1,h2⟩
theorem q5_.set{x:V}{u:Value}(r:v2_ x u):∀{xs:List V}{us:List Value}(i:Nat),q5_ xs us->q5_ (xs.set i x) (us.set i u)
 |_,_,_,.nil=>.nil
 |_,_,0,.cons _ t=>.cons r t
 |_,_,i+1,.cons q t=>.cons q (q5_.set r i t)
theorem q5_.append:∀{xs ys:List V}{us ws:List Value},q5_ xs us->q5_ ys ws->q5_ (xs++ys) (us++ws)
 |_,_,_,_,.nil,s=>s
 |_,_,_,_,.cons r t,s=>.cons r (q5_.append t s)
theorem q5_.take:∀{xs:List V}{us:List Value}(n:Nat),q5_ xs us->q5_ (xs.take n) (us.take n)
 |_,_,0,_=>.nil
 |_,_,_+1,.nil=>.nil
 |_,_,n+1,.cons r t=>.cons r (q5_.take n t)
theorem q5_.drop:∀{xs:List V}{us:List Value}(n:Nat),q5_ xs us->q5_ (xs.drop n) (us.drop n)
 |_,_,0,r=>r
 |_,_,_+1,.nil=>.nil
 |_,_,n+1,.cons _ t=>q5_.drop n t
def a0J:Option V->Option Value->Prop
 |some v,some u=>v2_ v u
 |none,none=>True
 |_,_=>False
def KV{κ:Type}:List (κ×V)->List (κ×Value)->Prop:=Paired fun(p:κ×V) (q:κ×Value)=>p.1=q.1/\v2_ p.2 q.2
def kV:Key->V
 |.inl i=>.int i
 |.inr x=>.str x
inductive HO where
 |lst (xs:List V)
 |tup (xs:List V)
 |dK (kvs:List (Key×V))|dT (C:Addr->List Key->Prop) (kvs:List (List Key×V))
 |set (S:Int->Bool) (n:Nat)
 |ins (C dx:Addr) (fs:List (Str×V))
 |own (x:Addr)
 |xd (fs:List (Str×V))
 |met (f x:Addr)
 |rng (lo hi:Int)
 |frz (o:Obj) (u:HO)
 |tbl (ps:Array Value)
 |ext (φ:Heap->Prop)
abbrev Hp:=Addr->Option HO
def upd(H:Hp)(a:Addr)(o:HO):Hp:=fun b=>if b=a then some o else H b
theorem x3_{H:Hp}{a:Addr}{o:HO}:upd H a o a=some o:=by unfold upd;rw[Qb rfl]
theorem v4_{H:Hp}{a b:Addr}{o:HO}(h:b≠a):upd H a o b=H b:=by unfold upd;rw[Qw h]
theorem b1V{H:Hp}{a:Addr}{o u:HO}:upd (upd H a o) a u=upd H a u:=by
 funext b;unfold upd;split<;>rfl
theorem a5g{H:Hp}{a b:Addr}{o u:HO}(h:H a=some o)(h':H b=some u)(d:o≠u):a≠b:=by
 intro e;subst e;rw[h]at h';exact d (Zw h')
theorem g9_{H:Hp}{a b:Addr}{o:HO}(h:H a=some o)(h':H b=none):a≠b:=by
 intro e;subst e;rw[h]at h';cases h'
def a0l(h:Heap)(a:Addr)(items:Array Value):Prop:=∃o,h.get? a=some o/\o.cls=.type "tuple"/\o.dict=none/\∃n,o.data=.seq items n
theorem a0l.tup{h:Heap}{a:Addr}{items:Array Value}:a0l h a items->IsTup h a items:=fun⟨o,e,c,_,d⟩=>⟨o,e,c,d⟩
theorem a0l.lt{h:Heap}{a:Addr}{items:Array Value}(p:a0l h a items):a<h.objs.size:=p.tup.lt
theorem a0l.new(h:Heap)(items:Array Value):a0l (h.push {cls:=.type "tuple",data:=.seq items}) h.objs.size items:=⟨_,Qg _ rfl,rfl,rfl,_,rfl⟩
section
variable(P:Program)(w:World)
def k0_(H:Hp)(h:Heap)(a:Addr):HO->Prop
 |.lst xs=>xs.length≤sizeLine/\∃(its:List Value) (n:Nat),q5_ xs its/\h.get? a=some {cls:=.type "list",data:=.seq its.toArray n}
 |.tup xs=>xs.length≤sizeLine/\∃its:List Value,q5_ xs its/\a0l h a its.toArray
 |.dK kvs=>kvs.length≤sizeLine/\(a==sysModules)=false/\∃vs,KV kvs vs/\h.DictOf (k5_ P w) a vs
 |.dT C kvs=>kvs.length≤sizeLine/\(a==sysModules)=false/\∃xs:List (List Key×Addr×Value),
   Paired (fun(p:List Key×V) (q:List Key×Addr×Value)=>p.1=q.1/\(H q.2.1=some (.tup (p.1.map kV))∨C q.2.1 p.1)/\v2_ p.2 q.2.2) kvs xs/\
   ∃o es ep,h.get? a=some o/\o.ExactDict/\o.data=.dict es ep/\es.toList=xs.map (entryOfKey (tupleKind (k5_ P w)))/\(xs.map (·.1)).Nodup
 |.set S n=>h.SetOf (intKind P w) a S n
 |.ins C dx fs=>H dx=some (.own a)/\fs.length≤1000/\dx≠a/\h.get? a=some (PySem.W.instObj C dx)/\
   ∃mA,h.Ns1 dx mA/\(∀f,a0J (fs.lookup f) (mA f))/\PySem.Within mA (fs.map (·.1))
 |.own _=>∃o,h.get? a=some o
 |.xd fs=>∃mA,h.Ns1 a mA/\∀f,a0J (fs.lookup f) (mA f)
 |.rng lo hi=>∃t u v,h.get? a=some {cls:=.type "range",data:=.fields #[.int lo t,.int hi u,.int 1 v]}
 |.frz o u=>h.get? a=some o/\k0_ H h a u
 |.tbl ps=>h.get? a=some {cls:=.none,data:=.fields ps}
 |.met f x=>h.get? a=some (PySem.W.methodObj (.ref f) (.ref x))
 |.ext φ=>φ h/\(∃o,h.get? a=some o)/\∀h1 h2:Heap,φ h1->(∀o,h1.get? a=some o->h2.get? a=some o)->φ h2
def HOk(H:Hp)(h:Heap):Prop:=∀a o,H a=some o->k0_ P w H h a o
end
section
variable{P:Program}{w:World}{H H':Hp}{h h':Heap}{a:Addr}{o:HO}
theorem k0_.lt(x:k0_ P w H h a o):a<h.objs.size:=by
 cases o with
 |lst xs=>obtain⟨_,_,_,_,e⟩:=x;exact Qh e
 |tup xs=>obtain⟨_,_,_,p⟩:=x;exact p.lt
 |dK kvs=>obtain⟨_,_,_,_,o,_,_,e,_⟩:=x;exact Qh e
 |dT C kvs=>obtain⟨_,_,_,_,o,_,_,e,_⟩:=x;exact Qh e
 |set S n=>obtain⟨o,_,_,_,e,_⟩:=x;exact Qh e
 |ins C dx fs=>obtain⟨_,_,_,e,_⟩:=x;exact Qh e
 |own y=>obtain⟨_,e⟩:=x;exact Qh e
 |xd fs=>obtain⟨_,⟨_,_,_,e,_⟩,_⟩:=x;exact Qh e
 |rng lo hi=>obtain⟨_,_,_,e⟩:=x;exact Qh e
 |frz ob u=>obtain⟨e,_⟩:=x;exact Qh e
 |tbl ps=>exact Qh (show h.get? a=some _ from x)
 |met f y=>exact Qh (show h.get? a=some _ from x)
 |ext φ=>obtain⟨_,⟨_,e⟩,_⟩:=x;exact Qh e
theorem Paired.mapP{α β:Type}{F G:α->β->Prop}:∀{l₁:List α}{l₂:List β},Paired F l₁ l₂->(∀a b,F a b->G a b)->Paired G l₁ l₂
 |_,_,.nil,_=>.nil
 |_,_,.cons r t,f=>.cons (f _ _ r) (Paired.mapP t f)
theorem k0_.stay(x:k0_ P w H h a o)(k:∀b u,(b=a∨H b=some (.own a))->h.get? b=some u->h'.get? b=some u)
  (ho:∀b,H b=some (.own a)->H' b=some (.own a))(ht:∀b xs,H b=some (.tup xs)->H' b=some (.tup xs)):k0_ P w H' h' a o:=by
 induction o with
 |lst xs=>obtain⟨z,its,n,r,e⟩:=x;exact⟨z,its,n,r,k _ _ (.inl rfl) e⟩
 |tup xs=>obtain⟨z,its,r,ob,e,c⟩:=x;exact⟨z,its,r,ob,k _ _ (.inl rfl) e,c⟩
 |dK kvs=>obtain⟨z,y,vs,r,ob,es,ep,e,c⟩:=x;exact⟨z,y,vs,r,ob,es,ep,k _ _ (.inl rfl) e,c⟩
 |dT C kvs=>
  obtain⟨z,y,xs,r,ob,es,ep,e,c⟩:=x;exact⟨z,y,xs,Paired.mapP r fun p q z=>⟨z.1,z.2.1.imp (ht _ _) id,z.2.2⟩,ob,es,ep,k _ _ (.inl rfl) e,c⟩
 |set S n=>obtain⟨ob,es,ep,t,e,c⟩:=x;exact⟨ob,es,ep,t,k _ _ (.inl rfl) e,c⟩
 |ins C dx fs=>
  obtain⟨d,z,ne,e,mA,⟨od,es,ep,e2,c⟩,r⟩:=x;exact⟨ho _ d,z,ne,k _ _ (.inl rfl) e,mA,⟨od,es,ep,k _ _ (.inr d) e2,c⟩,r⟩
 |own y=>obtain⟨ob,e⟩:=x;exact⟨ob,k _ _ (.inl rfl) e⟩
 |xd fs=>obtain⟨mA,⟨od,es,ep,e,c⟩,r⟩:=x;exact⟨mA,⟨od,es,ep,k _ _ (.inl rfl) e,c⟩,r⟩
 |rng lo hi=>obtain⟨t,u,v,e⟩:=x;exact⟨t,u,v,k _ _ (.inl rfl) e⟩
 |frz ob u ih=>obtain⟨e,q⟩:=x;exact⟨k _ _ (.inl rfl) e,ih q⟩
 |tbl ps=>
  have e:h.get? a=some {cls:=.none,data:=.fields ps}:=x
  show h'.get? a=some {cls:=.none,data:=.fields ps};exact k a _ (.inl rfl) e
 |met f y=>
  have e:h.get? a=some (PySem.W.methodObj (.ref f) (.ref y)):=x
  show h'.get? a=some (PySem.W.methodObj (.ref f) (.ref y));exact k a _ (.inl rfl) e
 |ext φ=>obtain⟨p,⟨o,e⟩,st⟩:=x;exact⟨st _ _ p fun o q=>k _ _ (.inl rfl) q,⟨o,k _ _ (.inl rfl) e⟩,st⟩
theorem HOk.lt(x:HOk P w H h)(e:H a=some o):a<h.objs.size:=(x a o e).lt
theorem HOk.fresh(x:HOk P w H h)(e:h.objs.size≤a):H a=none:=by
 cases q:H a with
 |none=>rfl
 |some u=>exact absurd (Qd (x.lt q) e) (Yg _)
theorem HOk.kept(x:HOk P w H h)(k:∀b u,h.get? b=some u->h'.get? b=some u):HOk P w H h':=fun a o e=>
 (x a o e).stay (fun b u _ q=>k b u q) (fun _ q=>q) fun _ _ q=>q
theorem HOk.laid(x:HOk P w H h)(k:∀b u,h.get? b=some u->h'.get? b=some u)(hp:h.objs.size≤a)(new:k0_ P w (upd H a o) h' a o):HOk P w (upd H a o) h':=fun b u e=>by
 have hn:=x.fresh hp
 by_cases hb:b=a
 ·subst hb;rw[x3_]at e;cases e;exact new
 ·rw[v4_ hb]at e
  exact(x b u e).stay (fun c v _ q=>k c v q) (fun c q=>by rw[v4_ (g9_ q hn)];exact q) fun c xs q=>by rw[v4_ (g9_ q hn)];exact q
end
def Rd(H:Hp)(a:Addr)(u:HO):Prop:=H a=some u∨ ∃o,H a=some (.frz o u)
theorem Rd.ok{P:Program}{w:World}{H:Hp}{h:Heap}{a:Addr}{u:HO}(r:Rd H a u)(x:HOk P w H h):k0_ P w H h a u:=by
 rcases r with r|⟨o,r⟩
 ·exact x a u r
 ·obtain⟨_,q⟩:=x a _ r
  exact q
def Mut:Option HO->Prop
 |some (.lst _)=>True
 |some (.dK _)=>True
 |some (.dT _ _)=>True
 |some (.set _ _)=>True
 |some (.ins _ _ _)=>True
 |some (.ext _)=>True
 |_=>False
section
variable{P:Program}{w:World}{H:Hp}{h h':Heap}{x e:Addr}{o':HO}
theorem HOk.write(ok:HOk P w H h)(mu:Mut (H x))(he:e=x∨H e=some (.own x))(k:∀b u,b≠e->h.get? b=some u->h'.get? b=some u)(heo:∃u,h'.get? e=some u)
  (new:k0_ P w (upd H x o') h' x o'):HOk P w (upd H x o') h':=fun b u q=>by
 have nown:∀c y,H c=some (.own y)->c≠x:=fun c y r z=>by subst z;rw[r]at mu;exact mu
 have ntup:∀c xs,H c=some (.tup xs)->c≠x:=fun c xs r z=>by subst z;rw[r]at mu;exact mu
 by_cases hb:b=x
 ·subst hb;rw[x3_]at q;cases q;exact new
 ·rw[v4_ hb]at q
  by_cases hbe:b=e
  ·have q':H b=some (.own x):=by
    rcases he with z|z
    ·exact absurd (hbe.trans z) hb
    ·rw[hbe];exact z
   rw[q]at q';cases q';obtain⟨v,hv⟩:=heo;exact⟨v,by rw[hbe];exact hv⟩
  ·refine(ok b u q).stay (fun c v hc r=>k c v ?_ r) (fun c r=>by rw[v4_ (nown c b r)];exact r) fun c xs r=>by rw[v4_ (ntup c xs r)];exact r
   rcases hc with rfl|hc
   ·exact hbe
   ·rintro rfl
    rcases he with z|z
    ·exact nown c b hc z
    ·rw[hc]at z;cases z;exact hb rfl
end
structure Un(fs ex:List Addr)(H H':Hp)(h h':Heap):Prop where
 keep:∀b o,h.get? b=some o->H b=none->b∉fs->b∉ex->h'.get? b=some o
 slot:∀b o,h.get? b=some o->H b=none->b∈fs->b∉ex->∃sl,h'.get? b=some {o with slots:=sl}
 free:∀b o,h.get? b=some o->H b=none->b∉ex->H' b=none
 there:∀b o,h.get? b=some o->b∉ex->∃o',h'.get? b=some o'
 tups:∀b xs,H b=some (.tup xs)->H' b=some (.tup xs)
 frzs:∀b o u,H b=some (.frz o u)->H' b=some (.frz o u)
 tbls:∀b ps,H b=some (.tbl ps)->∃more,H' b=some (.tbl (ps++more))
section
variable{fs fs' ex ex':List Addr}{H H1 H2:Hp}{h h1 h2 h':Heap}{a x e:Addr}{o:HO}
theorem Un.any(u:Un fs ex H H1 h h1){b:Addr}{ob:Obj}(q:h.get? b=some ob)(n:H b=none)(hx:b∉ex):∃sl,h1.get? b=some {ob with slots:=sl}:=by
 by_cases hb:b∈fs
 ·exact u.slot b ob q n hb hx
 ·exact⟨ob.slots,u.keep b ob q n hb hx⟩
theorem Un.kept(k:∀b u,h.get? b=some u->h'.get? b=some u):Un fs ex H H h h':=
 ⟨fun b ob q _ _ _=>k b ob q,fun b ob q _ _ _=>⟨ob.slots,k b ob q⟩,fun _ _ _ n _=>n,fun b ob q _=>⟨ob,k b ob q⟩,fun _ _ q=>q,fun _ _ _ q=>q,fun _ ps q=>⟨#[],by rw[q];simp⟩⟩
theorem Un.refl:Un fs ex H H h h:=Un.kept fun _ _ q=>q
theorem Un.laid(k:∀b u,h.get? b=some u->h'.get? b=some u)(hp:h.objs.size≤a)(hn:H a=none):Un fs ex H (upd H a o) h h' where
 keep:=fun b u q _ _ _=>k b u q
 slot:=fun b u q _ _ _=>⟨u.slots,k b u q⟩
 free:=fun b u q n _=>by rw[v4_ (Zj (Qd (Qh q) hp))];exact n
 there:=fun b u q _=>⟨u,k b u q⟩
 tups:=fun b xs q=>by rw[v4_ (g9_ q hn)];exact q
 frzs:=fun b u xs q=>by rw[v4_ (g9_ q hn)];exact q
 tbls:=fun b ps q=>⟨#[],by rw[v4_ (g9_ q hn),q];simp⟩
theorem Un.write(mu:Mut (H x))(he:e=x∨H e=some (.own x))(k:∀b u,b≠e->h.get? b=some u->h'.get? b=some u)(heo:∃u,h'.get? e=some u):Un fs ex H (upd H x o) h h':=by
 have hx:∀b,H b=none->b≠x:=fun b n z=>by subst z;rw[n]at mu;exact mu
 have hb:∀b,H b=none->b≠e:=fun b n z=>by
  subst z
  rcases he with r|r
  ·exact hx b n r
  ·rw[n]at r;cases r
 have hm:∀b u,H b=some u-> ¬ Mut (some u)->b≠x:=fun b u q nm z=>by subst z;rw[q]at mu;exact nm mu
 refine⟨fun b u q n _ _=>k b u (hb b n) q,fun b u q n _ _=>⟨u.slots,k b u (hb b n) q⟩,fun b u q n _=>by rw[v4_ (hx b n)];exact n,fun b u q _=>?_,
  fun b xs q=>by rw[v4_ (hm b _ q fun z=>z)];exact q,fun b u xs q=>by rw[v4_ (hm b _ q fun z=>z)];exact q,fun b ps q=>⟨#[],by rw[v4_ (hm b _ q fun z=>z),q];simp⟩⟩
 by_cases hbe:b=e
 ·subst hbe;exact heo
 ·exact⟨u,k b u hbe q⟩
end
def trk(h:Heap)(H:Hp):List Addr:=(List.range h.objs.size).filter fun a=>(H a).isSome
def a0U(h:Heap)(H:Hp):Heap:=PySem.W.hideAll h (trk h H)
theorem b1W(h:Heap)(H:Hp):(a0U h H).objs.size=h.objs.size:=PySem.W.hideAll_size _ _
theorem b1X{h:Heap}{H:Hp}{b:Addr}{o:Obj}(e:h.get? b=some o)(n:H b=none):(a0U h H).get? b=some o:=
 PySem.W.hideAll_get _ e fun hm=>by
  have q:(H b).isSome=true:=(Vu.mp hm).2
  rw[n]at q;simp at q
theorem b1Y{h:Heap}{H:Hp}{b:Addr}{o:Obj}(e:(a0U h H).get? b=some o):h.get? b=some o/\H b=none:=by
 have e':h.get? b=some o:=PySem.W.of_hideAll (trk h H) e
 refine⟨e',?_⟩;cases q:H b with
 |none=>rfl
 |some x=>
  have hm:b∈trk h H:=Vu.mpr ⟨Zt.mpr (Qh e'),by simp[q]⟩
  have z:(a0U h H).get? b=none:=PySem.W.hideAll_none (trk h H) hm
  rw[z]at e;cases e
def b1Z(g h:Heap)(L:Addr):OX:=(List.range h.objs.size).filterMap fun a=>if a=L∨(g.get? a).isSome=true then none else(h.get? a).map fun o=>(a,o)
def rest(g h:Heap)(L d:Addr):OX:=(b1Z g h L).filter fun p=>decide (p.1≠d)
structure Mod(K:Qq)(mg:OU)(base:Heap):Prop where
 kin:K.In base
 glob:base.Ns mainGlobals mg
 blt:∃mb,base.Ns builtinsNs mb/\∀x:Str,x≠"__name__"->mb x=bootBuiltins x
 nolimit:base.NoLimit
structure Cx where
 prog:Program
 w:World
 K:Qq
 mg:OU
 base:Heap
 A:Around
 N:List Str
 s₀:Shared
 H₀:Hp
 env:Env
 outer:List Env
 stack:List Env
 ex:List Addr
 fn:Str->Bool
 calm:Bool
 pn:OX
 xe:OE
def frs(l:List Env):List Addr:=l.filterMap (·.frame)
abbrev Cx.fs(X:Cx):List Addr:=frs X.outer
def Vis(sc:Scope)(x:Str):Prop:=sc.names.lookup x=some .local∨sc.names.lookup x=some .cell∨sc.names.lookup x=some .free
def Loc(sc:Scope)(x:Str):Prop:=sc.names.lookup x=some .local∨sc.names.lookup x=some .cell
def b2a(env:Env)(h:Heap)(m:OU)(x:Str)(u:Value):Prop:=
 (env.kindOf x=some .local/\m x=some u)∨((env.kindOf x=some .cell∨env.kindOf x=some .free)/\∃c,env.cells.lookup x=some c/\h.IsCell c (some u))
structure Cx.Ok(X:Cx):Prop where
 mod:Mod X.K X.mg X.base
 kind:X.env.scope.kind=.function
 glob:X.env.globals=mainGlobals
 blt:X.env.builtins=builtinsNs
 above:X.s₀.heap.objs.size≤X.env.locals
 inj:∀x y c,X.env.cells.lookup x=some c->X.env.cells.lookup y=some c->x=y
 has:∀x,(X.env.kindOf x=some .cell∨X.env.kindOf x=some .free)->∃c,X.env.cells.lookup x=some c
 cab:∀x c,X.fn x=true->X.env.cells.lookup x=some c->X.s₀.heap.objs.size≤c
 hd:X.calm=true->X.A.handled=none
 frames:X.A.frames=some X.stack
 stk:X.stack=X.outer∨(X.stack=X.env::X.outer/\X.env.frame=some X.env.locals)
 exf:∀b∈X.ex,b≠X.env.locals/\∀x c,X.env.cells.lookup x=some c->c≠b
 bs:∀b o,X.base.get? b=some o->X.s₀.heap.get? b=some o/\X.H₀ b=none
 bsz:X.base.objs.size≤X.s₀.heap.objs.size
 noex:∀b o,X.base.get? b=some o->b∉X.ex
 exfs:∀b∈X.ex,b∉X.fs
 funs:X.s₀.heap.FunFrames X.base X.outer
 frf:∀b∈X.fs,X.H₀ b=none
structure Inv(X:Cx)(pins:OX)(σ:List (Option V))(H:Hp)(s:Shared):Prop where
 ok:X.Ok
 os:s.os=X.s₀.os
 bare:AllBare s.gens
 base:Un X.fs X.ex X.H₀ H X.s₀.heap s.heap
 loc:∃m,s.heap.Ns X.env.locals m/\∀(i:Nat) (x:Str) (v:V),X.N[i]? =some x->σ[i]? =some (some v)->Vis X.env.scope x->∃u,v2_ v u/\b2a X.env s.heap m x u
 cell:∀x c,X.env.cells.lookup x=some c->∃v,s.heap.IsCell c v
 free:H X.env.locals=none
 freeC:∀x c,X.env.cells.lookup x=some c->H c=none
 pin:∀p∈X.pn++pins,s.heap.get? p.1=some p.2/\H p.1=none/\p.1≠X.env.locals/\p.1∉X.fs/\∀v,p.2.data≠.cell v
 hok:HOk X.prog X.w H s.heap
 len:σ.length=X.N.length
section
variable{X:Cx}{pins:OX}{σ:List (Option V)}{H H':Hp}{s:Shared}{h':Heap}
theorem Cx.Ok.nofr(ok:X.Ok){b:Addr}{o:Obj}(e:X.base.get? b=some o):b∉X.fs:=fun hb=>by
 have:=(ok.funs.mem hb).1;rw[e]at this;cases this
theorem Inv.bs(I:Inv X pins σ H s):∀b o,X.base.get? b=some o->s.heap.get? b=some o/\H b=none:=fun b o e=>
 ⟨I.base.keep b o (I.ok.bs b o e).1 (I.ok.bs b o e).2 (I.ok.nofr e) (I.ok.noex b o e),I.base.free b o (I.ok.bs b o e).1 (I.ok.bs b o e).2 (I.ok.noex b o e)⟩
theorem Inv.bk(I:Inv X pins σ H s):∀b o,X.base.get? b=some o->s.heap.get? b=some o:=fun b o e=>(I.bs b o e).1
theorem Inv.mod(I:Inv X pins σ H s):Mod X.K X.mg X.base:=I.ok.mod
theorem Inv.kIn(I:Inv X pins σ H s):X.K.In s.heap:=I.ok.mod.kin.keeps I.bk
theorem Inv.lt(I:Inv X pins σ H s):X.env.locals<s.heap.objs.size:=let ⟨_,hn,_⟩:=I.loc;hn.lt
theorem Inv.sz(I:Inv X pins σ H s):X.s₀.heap.objs.size≤s.heap.objs.size:=Zn I.ok.above (Uf I.lt)
theorem Inv.nofs(I:Inv X pins σ H s){a:Addr}(h:s.heap.objs.size≤a):a∉X.fs:=fun hb=>by
 obtain⟨_,o,ho,_⟩:=I.ok.funs.mem hb;exact absurd (Qd (Qh ho) (Zn I.sz h)) (Yg _)
theorem Inv.cne(I:Inv X pins σ H s):∀x c,X.env.cells.lookup x=some c->c≠X.env.locals:=fun x c e z=>by
 obtain⟨v,o,ho,hd⟩:=I.cell x c e;obtain⟨m,⟨o',es,ep,ho',hd',_⟩,_⟩:=I.loc;rw[z,ho']at ho;cases ho;rw[hd']at hd;cases hd
theorem Inv.funs(I:Inv X pins σ H s):s.heap.FunFrames X.base X.outer:=by
 have all:∀(l:List Env),(∀b∈frs l,b∈X.fs)->X.s₀.heap.FunFrames X.base l->s.heap.FunFrames X.base l:=by
  intro l
  induction l with
  |nil=>intro _ _;trivial
  |cons env r ih=>
   intro hs hl;obtain⟨hk,⟨L,o,hf,hn,ho,hd⟩,hr⟩:=hl;have hL:L∈X.fs:=hs L (by unfold frs;rw[Ju,hf];exact Jg)
   obtain⟨sl,e⟩:=I.base.slot L o ho (I.ok.frf L hL) hL fun z=>I.ok.exfs L z hL
   exact⟨hk,⟨L,_,hf,hn,e,hd⟩,ih (fun b hb=>hs b (by unfold frs;rw[Ju,hf];exact Yu _ hb)) hr⟩
 exact all X.outer (fun _ hb=>hb) I.ok.funs
theorem Inv.stack(I:Inv X pins σ H s):s.heap.FunFrames X.base X.stack:=by
 rcases I.ok.stk with e|⟨e,hf⟩
 ·rw[e];exact I.funs
 ·rw[e]
  obtain⟨m,hn,_⟩:=I.loc;refine .cons (by rw[I.ok.kind];decide) hf hn ?_ I.funs
  exact Heap.get?_none_of_le (Zn I.ok.bsz I.ok.above)
theorem Inv.stkSub(I:Inv X pins σ H s):∀b∈frs X.stack,b∈X.env.locals::X.fs:=fun b hb=>by
 rcases I.ok.stk with e|⟨e,hf⟩
 ·rw[e]at hb;exact Yu _ hb
 ·rw[e]at hb
  unfold frs at hb;rw[Ju,hf]at hb;exact hb
theorem Inv.stkFree(I:Inv X pins σ H s):∀b∈frs X.stack,H b=none:=fun b hb=>by
 rcases Qr.mp (I.stkSub b hb)with e|hb
 ·rw[e];exact I.free
 ·obtain⟨_,o,ho,_⟩:=I.ok.funs.mem hb
  exact I.base.free b o ho (I.ok.frf b hb) fun z=>I.ok.exfs b z hb
theorem Inv.step{g':Array GenState}{t':Nat}{d':Drawn}{ch:List Addr}(I:Inv X pins σ H s)
  (hch:∀b∈ch,(b∈X.ex∨X.s₀.heap.objs.size≤b)/\b≠X.env.locals/\(∀x c,X.env.cells.lookup x=some c->c≠b)/\∀p∈X.pn++pins,p.1≠b)
  (keep:∀b o,b≠X.env.locals->b∉X.fs->b∉ch->s.heap.get? b=some o->H b=none->h'.get? b=some o)
  (slot:∀b o,b≠X.env.locals->b∈X.fs->b∉ch->s.heap.get? b=some o->H b=none->∃sl,h'.get? b=some {o with slots:=sl})(free:∀b o,b∉ch->s.heap.get? b=some o->H b=none->H' b=none)
  (there:∀b o,b∉ch->s.heap.get? b=some o->∃o',h'.get? b=some o')
  (tups:∀b xs,H b=some (.tup xs)->H' b=some (.tup xs))(frzs:∀b o u,H b=some (.frz o u)->H' b=some (.frz o u))(tbls:∀b ps,H b=some (.tbl ps)->∃more,H' b=some (.tbl (ps++more)))
  (ns:∀m,s.heap.Ns X.env.locals m->h'.Ns X.env.locals m)(hok:HOk X.prog X.w H' h')(hg:AllBare g'):
  Inv X pins σ H' {s with heap:=h',gens:=g',drawn:=d',toks:=t'}:=by
 have neL:∀b o,X.s₀.heap.get? b=some o->b≠X.env.locals:=fun b o e=>Zj (Qd (Qh e) I.ok.above)
 have neC:∀b o,X.s₀.heap.get? b=some o->b∉X.ex->b∉ch:=fun b o e hx hb=>by
  rcases(hch b hb).1 with z|z
  ·exact hx z
  ·exact absurd (Qd (Qh e) z) (Yg _)
 have cellK:∀x c,X.env.cells.lookup x=some c->∀v,s.heap.IsCell c v->h'.IsCell c v:=fun x c e v ⟨o,ho,hd⟩=>by
  have nch:c∉ch:=fun z=>(hch c z).2.2.1 x c e rfl
  by_cases hc:c∈X.fs
  ·obtain⟨sl,q⟩:=slot c o (I.cne x c e) hc nch ho (I.freeC x c e)
   exact⟨_,q,hd⟩
  ·exact⟨o,keep c o (I.cne x c e) hc nch ho (I.freeC x c e),hd⟩
 refine⟨I.ok,I.os,hg,⟨fun b o e n hb hx=>?_,fun b o e n hb hx=>?_,fun b o e n hx=>?_,fun b o e hx=>?_,fun b xs e=>tups b xs (I.base.tups b xs e),fun b o xs e=>frzs b o xs (I.base.frzs b o xs e),fun b ps e=>?_⟩,?_,fun x c e=>?_,?_,fun x c e=>?_,fun p hp=>?_,hok,I.len⟩
 ·exact keep b o (neL b o e) hb (neC b o e hx) (I.base.keep b o e n hb hx) (I.base.free b o e n hx)
 ·obtain⟨sl,e1⟩:=I.base.slot b o e n hb hx
  obtain⟨sl',e2⟩:=slot b _ (neL b o e) hb (neC b o e hx) e1 (I.base.free b o e n hx);exact⟨sl',e2⟩
 ·obtain⟨o',e1⟩:=I.base.there b o e hx
  exact free b o' (neC b o e hx) e1 (I.base.free b o e n hx)
 ·obtain⟨o',e1⟩:=I.base.there b o e hx
  exact there b o' (neC b o e hx) e1
 ·obtain⟨m1,e1⟩:=I.base.tbls b ps e
  obtain⟨m2,e2⟩:=tbls b _ e1;exact⟨m1++m2,by rw[e2,Array.append_assoc]⟩
 ·obtain⟨m,hn,hl⟩:=I.loc
  refine⟨m,ns m hn,fun i x v e1 e2 e3=>?_⟩
  obtain⟨u,r,l⟩:=hl i x v e1 e2 e3;refine⟨u,r,?_⟩
  rcases l with l|⟨k,c,e,z⟩
  ·exact .inl l
  ·exact .inr ⟨k,c,e,cellK x c e _ z⟩
 ·obtain⟨v,z⟩:=I.cell x c e
  exact⟨v,cellK x c e v z⟩
 ·obtain⟨m,⟨o,_,_,ho,_⟩,_⟩:=I.loc
  exact free _ o (fun z=>(hch _ z).2.1 rfl) ho I.free
 ·obtain⟨v,o,ho,hd⟩:=I.cell x c e
  exact free c o (fun z=>(hch c z).2.2.1 x c e rfl) ho (I.freeC x c e)
 ·obtain⟨e,n,ne,nf,d⟩:=I.pin p hp
  have nch:p.1∉ch:=fun z=>(hch p.1 z).2.2.2 p hp rfl
  exact⟨keep p.1 p.2 ne nf nch e n,free p.1 p.2 nch e n,ne,nf,d⟩
theorem Inv.un{t':Nat}(I:Inv X pins σ H s)(u:Un X.fs [] H H' s.heap h')(hok:HOk X.prog X.w H' h'):Inv X pins σ H' {s with heap:=h',toks:=t'}:=by
 obtain⟨m,⟨o,es,ep,ho,r⟩,_⟩:=id I.loc;obtain⟨sl,hL⟩:=u.any ho I.free (by simp)
 exact I.step (g':=s.gens) (d':=s.drawn) (ch:=[]) (fun _ z=>nomatch z) (fun b o _ hb _ e n=>u.keep b o e n hb (by simp)) (fun b o _ hb _ e n=>u.slot b o e n hb (by simp)) (fun b o _ e n=>u.free b o e n (by simp)) (fun b o _ e=>u.there b o e (by simp)) u.tups u.frzs u.tbls (fun m' hm=>by
  obtain⟨o',es',ep',ho',r'⟩:=hm;rw[ho]at ho';cases ho';exact⟨_,es',ep',hL,r'⟩) hok I.bare
theorem Inv.call{g':Array GenState}{t':Nat}{d':Drawn}{ch:List Addr}(I:Inv X pins σ H s)(u:Un (frs X.stack) ch H H' s.heap h')(hok:HOk X.prog X.w H' h')(hg:AllBare g')
  (hch:∀b∈ch,(b∈X.ex∨X.s₀.heap.objs.size≤b)/\b≠X.env.locals/\(∀x c,X.env.cells.lookup x=some c->c≠b)/\∀p∈X.pn++pins,p.1≠b):
  Inv X pins σ H' {s with heap:=h',gens:=g',drawn:=d',toks:=t'}:=by
 obtain⟨m,⟨o,es,ep,ho,r⟩,_⟩:=id I.loc;obtain⟨sl,hL⟩:=u.any ho I.free fun z=>(hch _ z).2.1 rfl
 exact I.step (ch:=ch) hch (fun b o hL hb hc e n=>u.keep b o e n (fun z=>(Qr.mp (I.stkSub b z)).elim hL hb) hc) (fun b o _ _ hc e n=>u.any e n hc) (fun b o hc e n=>u.free b o e n hc) (fun b o hc e=>u.there b o e hc) u.tups u.frzs u.tbls (fun m' hm=>by
  obtain⟨o',es',ep',ho',r'⟩:=hm;rw[ho]at ho';cases ho';exact⟨_,es',ep',hL,r'⟩) hok hg
theorem Inv.turned{t':Nat}{it:Addr}(I:Inv X pins σ H s)(k:∀b o,b≠it->s.heap.get? b=some o->h'.get? b=some o)(hn:H it=none)(hL:it≠X.env.locals)
  (h1:it∈X.ex∨X.s₀.heap.objs.size≤it)(h2:∀x c,X.env.cells.lookup x=some c->c≠it)(h3:∀p∈X.pn++pins,p.1≠it):Inv X pins σ H {s with heap:=h',toks:=t'}:=by
 have nit:∀b u,H b=some u->b≠it:=fun b u e z=>by rw[z,hn]at e;cases e
 refine I.step (g':=s.gens) (d':=s.drawn) (ch:=[it]) (fun b hb=>?_) (fun b o _ _ hc e _=>k b o (fun z=>hc (by simp[z])) e) (fun b o _ _ hc e _=>⟨o.slots,k b o (fun z=>hc (by simp[z])) e⟩) (fun _ _ _ _ n=>n)
  (fun b o hc e=>⟨o,k b o (fun z=>hc (by simp[z])) e⟩) (fun _ _ e=>e) (fun _ _ _ e=>e) (fun b ps e=>⟨#[],by rw[e];simp⟩) (fun m hm=>?_) (fun b u e=>?_) I.bare
 ·have e:b=it:=by simpa using hb
  subst e;exact⟨h1,hL,h2,h3⟩
 ·obtain⟨o,es,ep,ho,r⟩:=hm
  exact⟨o,es,ep,k _ o (Zh hL) ho,r⟩
 ·refine(I.hok b u e).stay (fun c v hc q=>k c v ?_ q) (fun _ q=>q) fun _ _ q=>q
  rcases hc with z|z
  ·rw[z];exact nit b u e
  ·exact nit c _ z
theorem Inv.tok(I:Inv X pins σ H s)(t:Nat):Inv X pins σ H {s with toks:=t}:=I.un (h':=s.heap) (t':=t) Un.refl I.hok
theorem Inv.kept{t':Nat}(I:Inv X pins σ H s)(k:∀b u,s.heap.get? b=some u->h'.get? b=some u):Inv X pins σ H {s with heap:=h',toks:=t'}:=I.un (Un.kept k) (I.hok.kept k)
theorem Inv.laid{a:Addr}{o:HO}{t':Nat}(I:Inv X pins σ H s)(k:∀b u,s.heap.get? b=some u->h'.get? b=some u)(hp:s.heap.objs.size≤a)(new:k0_ X.prog X.w (upd H a o) h' a o):
  Inv X pins σ (upd H a o) {s with heap:=h',toks:=t'}:=I.un (Un.laid k hp (I.hok.fresh hp)) (I.hok.laid k hp new)
theorem Inv.write{x e:Addr}{o:HO}{t':Nat}(I:Inv X pins σ H s)(mu:Mut (H x))(he:e=x∨H e=some (.own x))(k:∀b u,b≠e->s.heap.get? b=some u->h'.get? b=some u)(heo:∃u,h'.get? e=some u)
  (new:k0_ X.prog X.w (upd H x o) h' x o):Inv X pins σ (upd H x o) {s with heap:=h',toks:=t'}:=I.un (Un.write mu he k heo) (I.hok.write mu he k heo new)
theorem Inv.pins_of{pins':OX}(I:Inv X pins σ H s)(h:∀p∈pins',s.heap.get? p.1=some p.2/\H p.1=none/\p.1≠X.env.locals/\p.1∉X.fs/\∀v,p.2.data≠.cell v):Inv X pins' σ H s:=
 ⟨I.ok,I.os,I.bare,I.base,I.loc,I.cell,I.free,I.freeC,fun p hp=>(Xk.mp hp).elim (fun z=>I.pin p (List.mem_append_left _ z)) (h p),I.hok,I.len⟩
theorem a8k{N:List Str}(hN:N.Nodup){i j:Nat}{x:Str}(a:N[i]? =some x)(b:N[j]? =some x):i=j:=by
 obtain⟨h1,e1⟩:=Qy.mp a;obtain⟨h2,e2⟩:=Qy.mp b;exact(List.getElem_inj hN).mp (e1.trans e2.symm)
theorem a8l{M:Model}{A:Around}{E:OE}{i:Nat}{x:Str}{v:V}{u:Value}{Q:Unit->Shared->Prop}(I:Inv X pins σ H s)(hN:X.N.Nodup)(hi:X.N[i]? =some x)(hx:Loc X.env.scope x)(r:v2_ v u)
  (h:∀s',Inv X pins (σ.set i (some v)) H s'->(∃a,Heap.SameBut a s.heap s'.heap/\(a=X.env.locals∨X.env.cells.lookup x=some a))->Q () s')(hf:X.fn x=true∨X.env.scope.names.lookup x=some .local:=by first|exact .inl rfl|exact .inr rfl|assumption):wpAny M A (storeName X.env x u) Q E s:=by
 obtain⟨m,hn,hl⟩:=id I.loc;have hcls:(X.env.scope.kind==.class||(X.env.scope.kind==.module&&X.env.locals !=X.env.globals))=false:=by rw[I.ok.kind];rfl
 have hiσ:i<σ.length:=by rw[I.len];exact(Qy.mp hi).1
 have cne:=I.cne
 have tracked:∀{a:Addr}{h':Heap},(∃o,s.heap.get? a=some o/\H a=none)->Heap.SameBut a s.heap h'->HOk X.prog X.w H h':=fun{a h'} ha hs b ob e=>by
  obtain⟨_,_,hfree⟩:=ha;refine(I.hok b ob e).stay (fun c w' hc q=>(hs.2 c ?_).trans q) (fun _ q=>q) fun _ _ q=>q
  rintro rfl
  rcases hc with rfl|hc
  ·rw[hfree]at e;cases e
  ·rw[hfree]at hc;cases hc
 rcases hx with hk|hk
 ·refine wpAny_storeName_local hk hn (fun h' hn' hs=>?_) hcls
  obtain⟨oL,_,_,hoL,_⟩:=id hn;refine h _ ⟨I.ok,I.os,I.bare,⟨fun b o e n hb hx=>?_,fun b o e n hb hx=>?_,I.base.free,fun b o e hx=>?_,I.base.tups,I.base.frzs,I.base.tbls⟩,⟨_,hn',fun j y v' e1 e2 e3=>?_⟩,fun y c e=>?_,I.free,I.freeC,fun p hp=>?_,tracked ⟨oL,hoL,I.free⟩ hs,by simpa using I.len⟩ ⟨_,hs,.inl rfl⟩
  ·exact(hs.2 b (Zj (Qd (Qh e) I.ok.above))).trans (I.base.keep b o e n hb hx)
  ·obtain⟨sl,e1⟩:=I.base.slot b o e n hb hx
   exact⟨sl,(hs.2 b (Zj (Qd (Qh e) I.ok.above))).trans e1⟩
  ·obtain⟨o',e1⟩:=I.base.there b o e hx
   exact⟨o',(hs.2 b (Zj (Qd (Qh e) I.ok.above))).trans e1⟩
  ·by_cases hj:j=i
   ·subst hj
    rw[hi]at e1;cases e1;rw[Yb hiσ]at e2;cases e2;exact⟨u,r,.inl ⟨hk,by simp⟩⟩
   ·rw[Qc (Zh hj)]at e2
    obtain⟨u',r',q⟩:=hl j y v' e1 e2 e3;refine⟨u',r',?_⟩
    rcases q with⟨k,e⟩|⟨k,c,e,z⟩
    ·refine .inl ⟨k,?_⟩
     have:y≠x:=fun e=>hj (a8k hN e1 (e ▸ hi))
     simp[this,e]
    ·exact .inr ⟨k,c,e,z.sameBut hs (cne y c e)⟩
  ·obtain⟨w',z⟩:=I.cell y c e
   exact⟨w',z.sameBut hs (cne y c e)⟩
  ·obtain⟨e,n,ne,nf,d⟩:=I.pin p hp
   exact⟨(hs.2 p.1 ne).trans e,n,ne,nf,d⟩
 ·have hfn:X.fn x=true:=by
   rcases hf with z|z
   ·exact z
   ·rw[z]at hk;cases hk
  obtain⟨c,hc⟩:=I.ok.has x (.inl hk);obtain⟨w',z⟩:=I.cell x c hc;refine wpAny_storeName_cell I.ok.kind hk hc z (fun h' hc' hs=>?_)
  obtain⟨oc,hoc,hocd⟩:=id z;refine h {s with heap:=h'} ⟨I.ok,I.os,I.bare,⟨fun b o e n hb hx=>?_,fun b o e n hb hx=>?_,I.base.free,fun b o e hx=>?_,I.base.tups,I.base.frzs,I.base.tbls⟩,⟨m,hn.sameBut hs (Zh (cne x c hc)),fun j y v' e1 e2 e3=>?_⟩,fun y c' e=>?_,I.free,I.freeC,fun p hp=>?_,tracked ⟨oc,hoc,I.freeC x c hc⟩ hs,by simpa using I.len⟩ ⟨c,hs,.inr hc⟩
  ·exact(hs.2 b (Zj (Qd (Qh e) (I.ok.cab x c hfn hc)))).trans (I.base.keep b o e n hb hx)
  ·obtain⟨sl,e1⟩:=I.base.slot b o e n hb hx
   exact⟨sl,(hs.2 b (Zj (Qd (Qh e) (I.ok.cab x c hfn hc)))).trans e1⟩
  ·obtain⟨o',e1⟩:=I.base.there b o e hx
   exact⟨o',(hs.2 b (Zj (Qd (Qh e) (I.ok.cab x c hfn hc)))).trans e1⟩
  ·by_cases hj:j=i
   ·subst hj
    rw[hi]at e1;cases e1;rw[Yb hiσ]at e2;cases e2;exact⟨u,r,.inr ⟨.inl hk,c,hc,hc'⟩⟩
   ·rw[Qc (Zh hj)]at e2
    obtain⟨u',r',q⟩:=hl j y v' e1 e2 e3;refine⟨u',r',?_⟩
    rcases q with q|⟨k,c',e,z'⟩
    ·exact .inl q
    ·refine .inr ⟨k,c',e,z'.sameBut hs ?_⟩
     rintro rfl;exact hj (a8k hN e1 (I.ok.inj _ _ _ e hc ▸ hi))
  ·by_cases hcc:c'=c
   ·subst hcc;exact⟨_,hc'⟩
   ·obtain⟨w2,z2⟩:=I.cell y c' e
    exact⟨w2,z2.sameBut hs hcc⟩
  ·obtain⟨e,n,ne,nf,d⟩:=I.pin p hp
   refine⟨(hs.2 p.1 ?_).trans e,n,ne,nf,d⟩;intro q;rw[q,hoc]at e;have q':oc=p.2:=Zw e;exact d w' (by rw[←q'];exact hocd)
theorem a5h{M:Model}{A:Around}{E:OE}{i:Nat}{x:Str}{v:V}{u:Value}{Q:Unit->Shared->Prop}(I:Inv X pins σ H s)(hN:X.N.Nodup)(hi:X.N[i]? =some x)(hx:Loc X.env.scope x)(r:v2_ v u)
  (h:∀s',Inv X pins (σ.set i (some v)) H s'->Q () s')(hf:X.fn x=true∨X.env.scope.names.lookup x=some .local:=by first|exact .inl rfl|exact .inr rfl|assumption):wpAny M A (storeName X.env x u) Q E s:=
 a8l I hN hi hx r (fun s' I' _=>h s' I') hf
theorem Inv.call'{s':Shared}{ch:List Addr}(I:Inv X pins σ H s)(ho:s'.os=s.os)(u:Un (frs X.stack) ch H H' s.heap s'.heap)(hok:HOk X.prog X.w H' s'.heap)(hg:AllBare s'.gens)
  (hch:∀b∈ch,(b∈X.ex∨X.s₀.heap.objs.size≤b)/\b≠X.env.locals/\(∀x c,X.env.cells.lookup x=some c->c≠b)/\∀p∈X.pn++pins,p.1≠b):Inv X pins σ H' s':=by
 obtain⟨h',g',d',t',o'⟩:=s';have e:o'=s.os:=ho;subst e;exact I.call (g':=g') (t':=t') (d':=d') u hok hg hch
end
abbrev XK:=Value->Option Addr->Hp->Prop
abbrev St:=List (Option V)
abbrev VK:=V->Hp->Prop
abbrev TE:=St->Hp->VK->Prop
abbrev TT:=St->Hp->(Bool->Hp->Prop)->Prop
abbrev TA:=St->Hp->(List V->Hp->Prop)->Prop
structure Ends where
 nx:St->Hp->Prop
 rt:VK
 bk:St->Hp->Prop:=fun _ _=>False
 ct:St->Hp->Prop:=fun _ _=>False
abbrev TS:=Ends->St->Hp->Prop
def EP(X:Cx)(pins:OX)(σ:St)(Q:VK)(u:Value)(s':Shared):Prop:=∃v H',Inv X pins σ H' s'/\v2_ v u/\Q v H'
def TP(X:Cx)(pins:OX)(σ:St)(Q:Bool->Hp->Prop)(b:Bool)(s':Shared):Prop:=∃H',Inv X pins σ H' s'/\Q b H'
def AP(X:Cx)(pins:OX)(σ:St)(Q:List V->Hp->Prop)(us:List Value)(s':Shared):Prop:=∃vs H',Inv X pins σ H' s'/\q5_ vs us/\Q vs H'
def SP(X:Cx)(pins:OX)(D:Ends)(f:Flow)(s':Shared):Prop:=
 match f with
 |.next=>∃σ' H',Inv X pins σ' H' s'/\D.nx σ' H'
 |.brk=>∃σ' H',Inv X pins σ' H' s'/\D.bk σ' H'
 |.cont=>∃σ' H',Inv X pins σ' H' s'/\D.ct σ' H'
 |.ret u=>∃v σ' H',Inv X pins σ' H' s'/\v2_ v u/\D.rt v H'
def PE(X:Cx)(e:Expr)(t:TE):Prop:=
 ∀(pins:OX) (s:Shared) (σ:St) (H:Hp) (Q:VK),Inv X pins σ H s->t σ H Q->wpAny (model X.prog X.w) X.A (eval e X.env) (EP X pins σ Q) X.xe s
def PT(X:Cx)(e:Expr)(t:TT):Prop:=
 ∀(pins:OX) (s:Shared) (σ:St) (H:Hp) (Q:Bool->Hp->Prop),Inv X pins σ H s->t σ H Q->wpAny (model X.prog X.w) X.A (isTrue e X.env (eval e X.env)) (TP X pins σ Q) X.xe s
def PW(X:Cx)(e:Expr)(t:TT):Prop:=
 ∀(whole:Sem Value) (pins:OX) (s:Shared) (σ:St) (H:Hp) (Q:Bool->Hp->Prop),Inv X pins σ H s->t σ H Q->wpAny (model X.prog X.w) X.A (isTrue e X.env whole) (TP X pins σ Q) X.xe s
theorem PW.pt{X:Cx}{e:Expr}{t:TT}(h:PW X e t):PT X e t:=h _
def PA(X:Cx)(es:List Expr)(t:TA):Prop:=
 ∀(pos:Pos) (pins:OX) (s:Shared) (σ:St) (H:Hp) (Q:List V->Hp->Prop),Inv X pins σ H s->t σ H Q->wpAny (model X.prog X.w) X.A (spliced (backTo pos (starEach es X.env))) (AP X pins σ Q) X.xe s
def PS(X:Cx)(st:Stmt)(t:TS):Prop:=
 ∀(pins:OX) (s:Shared) (σ:St) (H:Hp) (D:Ends),Inv X pins σ H s->t D σ H->wpAny (model X.prog X.w) X.A (exec st X.env) (SP X pins D) X.xe s
def PSs(X:Cx)(st:List Stmt)(t:TS):Prop:=
 ∀(pins:OX) (s:Shared) (σ:St) (H:Hp) (D:Ends),Inv X pins σ H s->t D σ H->wpAny (model X.prog X.w) X.A (execs st X.env) (SP X pins D) X.xe s
theorem thn{α:Type}{t:Sem α}{Q Q':α->Shared->Prop}{M:Model}{A:Around}{E:OE}{s:Shared}(h:wpAny M A t Q E s)(hQ:∀a s,Q a s->Q' a s):wpAny M A t Q' E s:=Yp h hQ fun _ _ x=>x
section
variable{X:Cx}
theorem bin{a b:Expr}{ta tb:TE}(ha:PE X a ta)(hb:PE X b tb){pins:OX}{s:Shared}{σ:St}{H:Hp}{R:V->V->Hp->Prop}(I:Inv X pins σ H s)(h:ta σ H fun x H1=>tb σ H1 fun y H2=>R x y H2)
  {α:Type}{Q:α->Shared->Prop}{f:Value->Value->Sem α}
  (hf:∀v u s2 x y H2,Inv X pins σ H2 s2->v2_ x v->v2_ y u->R x y H2->wpAny (model X.prog X.w) X.A (f v u) Q X.xe s2):
  wpAny (model X.prog X.w) X.A (eval a X.env) (fun v s₁=>wpAny (model X.prog X.w) X.A (eval b X.env) (fun u s₂=>wpAny (model X.prog X.w) X.A (f v u) Q X.xe s₂) X.xe s₁) X.xe s:=by
 refine thn (ha pins s σ H _ I h) fun v s1 ⟨x,H1,I1,r1,q1⟩=>?_
 refine thn (hb pins s1 σ H1 _ I1 q1) fun u s2 ⟨y,H2,I2,r2,q2⟩=>?_
 exact hf v u s2 x y H2 I2 r1 r2 q2
def a0f(i:Nat):TE:=fun σ H Q=>∃v,σ[i]? =some (some v)/\Q v H
def tC(v:V):TE:=fun _ H Q=>Q v H
theorem b2b{i:Nat}{x:Str}{pos:Pos}(hN:X.N[i]? =some x)(hv:Vis X.env.scope x)(hd:(x==("__debug__":Str))=false:=by decide)(hcd:(x==("__classdict__":Str))=false:=by decide):PE X (.Name x pos) (a0f i):=by
 intro pins s σ H Q I h;obtain⟨v,e,h⟩:=h;obtain⟨m,hn,hl⟩:=I.loc;obtain⟨u,r,l⟩:=hl i x v hN e hv;have fin:EP X pins σ Q u s:=⟨v,H,I,r,h⟩
 rcases l with⟨hk,hm⟩|⟨hk,c,hc,hcell⟩
 ·exact wpAny_Name (wpAny_loadName_local I.ok.kind hk hn hm fin) hd
 ·rcases hk with hk|hk
  ·exact wpAny_Name (wpAny_loadName_cell I.ok.kind hk hc hcell fin) hd
  ·exact wpAny_Name (wpAny_loadName_free I.ok.kind hk hc hcell fin hcd) hd
theorem a8m{i j pos}:PE X (.Constant (.int i) j pos) (tC (.int i)):=fun _ _ _ H _ I h=>wpAny_Constant_int ⟨.int i,H,I.tok _,⟨_,rfl⟩,h⟩
theorem b2c{b j pos}:PE X (.Constant (.bool b) j pos) (tC (.bl b)):=fun _ _ _ H _ I h=>Constant_bool ⟨.bl b,H,I,rfl,h⟩
theorem b2d{x j pos}:PE X (.Constant (.str x) j pos) (tC (.str x)):=fun _ _ _ H _ I h=>Calls.Constant_str ⟨.str x,H,I.tok _,⟨_,rfl⟩,h⟩
def Gl(X:Cx)(x:Str):Prop:=X.env.kindOf x=some .globalImplicit
theorem a8n{E:OE}{pins:OX}{s:Shared}{σ:St}{H:Hp}{x:Str}{u:Value}{pos:Pos}{Q:OE}(I:Inv X pins σ H s)(hg:Gl X x)(hm:X.mg x=some u)(h:Q u s)
  (hd:(x==("__debug__":Str))=false:=by decide):wpAny (model X.prog X.w) X.A (eval (.Name x pos) X.env) Q E s:=
 Calls.Name_function_global I.ok.kind hg (Calls.loadGlobal_global (by rw[I.ok.glob];exact I.mod.glob.keeps I.bk) hm h) hd
theorem a2r{E:OE}{pins:OX}{s:Shared}{σ:St}{H:Hp}{x:Str}{u:Value}{pos:Pos}{Q:OE}(I:Inv X pins σ H s)(hg:Gl X x)(hm:X.mg x=none)(hv:bootBuiltins x=some u)(h:Q u s)
  (hn:x≠"__name__":=by decide)(hd:(x==("__debug__":Str))=false:=by decide):wpAny (model X.prog X.w) X.A (eval (.Name x pos) X.env) Q E s:=by
 obtain⟨mb,h1,h2⟩:=I.mod.blt;exact Calls.Name_function_global I.ok.kind hg (Calls.loadGlobal_builtin (by rw[I.ok.glob];exact I.mod.glob.keeps I.bk) hm (by rw[I.ok.blt];exact h1.keeps I.bk) ((h2 x hn).trans hv) h) hd
theorem a5i{x:Str}{v:V}{u:Value}{pos:Pos}(hg:Gl X x)(hm:X.mg x=some u)(r:v2_ v u)(hd:(x==("__debug__":Str))=false:=by decide):PE X (.Name x pos) (tC v):=
 fun _ _ _ H _ I h=>a8n I hg hm ⟨v,H,I,r,h⟩ hd
theorem b2e{x:Str}{v:V}{u:Value}{pos:Pos}(hg:Gl X x)(hm:X.mg x=none)(hv:bootBuiltins x=some u)(r:v2_ v u)(hn:x≠"__name__":=by decide)(hd:(x==("__debug__":Str))=false:=by decide):PE X (.Name x pos) (tC v):=
 fun _ _ _ H _ I h=>a2r I hg hm hv ⟨v,H,I,r,h⟩ hn hd
variable{a b:Expr}{ta tb:TE}{pos:Pos}
def PC(X:Cx)(op:CmpOp)(a b:Expr)(t:TE):Prop:=
 ∀(pins:OX) (s:Shared) (σ:St) (H:Hp) (Q:VK),Inv X pins σ H s->t σ H Q->
  wpAny (model X.prog X.w) X.A (eval a X.env) (fun v s₁=>wpAny (model X.prog X.w) X.A (eval b X.env) (fun u s₂=>wpAny (model X.prog X.w) X.A (compareOp op v u) (EP X pins σ Q) X.xe s₂) X.xe s₁) X.xe s
theorem nobehind(b:Expr){op:CmpOp}(h:op≠.In)(h2:op≠.NotIn):behindInMarks op b=false:=by
 have e1:(op==CmpOp.In)=false:=by cases op<;>first|rfl|exact absurd rfl h
 have e2:(op==CmpOp.NotIn)=false:=by cases op<;>first|rfl|exact absurd rfl h2
 cases b<;>simp[behindInMarks,e1,e2]
def tB(t:TE):TT:=fun σ H Q=>t σ H fun x H1=>∃c,x=.bl c/\Q c H1
theorem b2f{op:CmpOp}{t:TE}(h:PC X op a b t)(h1:behindInMarks op b=false:=by first|exact nobehind _ (by decide) (by decide)|rfl):PE X (.Compare a [op] [b] pos) t:=fun pins s σ H Q I hw=>wpAny_Compare1 (h pins s σ H Q I hw) h1
theorem b9Z{op:CmpOp}{t:TE}(h:PC X op a b t)(h1:behindInMarks op b=false:=by first|exact nobehind _ (by decide) (by decide)|rfl):PT X (.Compare a [op] [b] pos) (tB t):=by
 intro pins s σ H Q I hw;refine wpAny_isTrue_Compare1 (thn (h pins s σ H _ I hw) fun v s1 h1=>thn h1 fun u s2 h2=>thn h2 fun c s3 ⟨x,H1,I1,r1,q1⟩=>?_) h1
 obtain⟨d,rfl,q⟩:=q1;cases r1;exact Yz ⟨H1,I1,q⟩
theorem b2g{e:Expr}{t:TE}(h:PE X e t)(he:∀whole,isTrue e X.env whole=(do let v←whole;standAt e.pos;holding [v] (truthy v)):=by intro _;rfl):PT X e (tB t):=by
 intro pins s σ H Q I hw;refine isTrue_plain (thn (h pins s σ H _ I hw) fun v s1 ⟨x,H1,I1,r1,q1⟩=>?_) (he _)
 obtain⟨d,rfl,q⟩:=q1;cases r1;exact Yz ⟨H1,I1,q⟩
variable{tA tB':TT}{rest:List Expr}
def a8o(t u:TT):TT:=fun σ H Q=>t σ H fun c H1=>if c=true then u σ H1 Q else Q false H1
def tOr(t u:TT):TT:=fun σ H Q=>t σ H fun c H1=>if c=true then Q true H1 else u σ H1 Q
def b2h(t:TT):TT:=fun σ H Q=>t σ H fun c H1=>Q (!c) H1
theorem b2i(ha:PT X a tA):PW X (.BoolOp .And [a] pos) tA:=by
 intro wh pins s σ H Q I h;refine isTrue_and (thn (ha pins s σ H Q I h) fun c s1 e=>?_)
 cases c with
 |true=>exact isTrue_and_nil e
 |false=>exact e
theorem b2j(ha:PT X a tA):PW X (.BoolOp .Or [a] pos) tA:=by
 intro wh pins s σ H Q I h;refine isTrue_or (thn (ha pins s σ H Q I h) fun c s1 e=>?_)
 cases c with
 |false=>exact isTrue_or_nil e
 |true=>exact e
theorem b2k(ha:PT X a tA)(hb:PW X (.BoolOp .And (b::rest) pos) tB'):PW X (.BoolOp .And (a::b::rest) pos) (a8o tA tB'):=by
 intro wh pins s σ H Q I h;refine isTrue_and (thn (ha pins s σ H _ I h) fun c s1 ⟨H1,I1,q1⟩=>?_)
 cases c with
 |true=>exact hb wh pins s1 σ H1 Q I1 q1
 |false=>exact⟨H1,I1,q1⟩
theorem b2l(ha:PT X a tA)(hb:PW X (.BoolOp .Or (b::rest) pos) tB'):PW X (.BoolOp .Or (a::b::rest) pos) (tOr tA tB'):=by
 intro wh pins s σ H Q I h;refine isTrue_or (thn (ha pins s σ H _ I h) fun c s1 ⟨H1,I1,q1⟩=>?_)
 cases c with
 |true=>exact⟨H1,I1,q1⟩
 |false=>exact hb wh pins s1 σ H1 Q I1 q1
theorem b2m(ha:PT X a tA):PT X (.UnaryOp .Not a pos) (b2h tA):=by
 intro pins s σ H Q I h;exact isTrue_not (ha pins s σ H (fun c H1=>Q (!c) H1) I h)
def b2n(ta tb:TE):TE:=fun σ H Q=>ta σ H fun x H1=>∃c,x=.bl c/\if c=true then tb σ H1 Q else Q (.bl false) H1
def b2o(ta:TE):TE:=fun σ H Q=>ta σ H fun x H1=>∃c,x=.bl c/\Q (.bl (!c)) H1
theorem b2p{op}{t:TE}(h:PE X a t):PE X (.BoolOp op [a] pos) t:=fun pins s σ H Q I hw=>BoolOp_one (h pins s σ H Q I hw)
theorem b2q(ha:PE X a ta)(hb:PE X (.BoolOp .And (b::rest) pos) tb):PE X (.BoolOp .And (a::b::rest) pos) (b2n ta tb):=by
 intro pins s σ H Q I h;refine BoolOp_and (thn (ha pins s σ H _ I h) fun v s1 ⟨x,H1,I1,r1,q1⟩=>?_)
 obtain⟨c,rfl,q1⟩:=q1;cases r1;refine Yz ?_
 cases c with
 |true=>exact hb pins s1 σ H1 Q I1 q1
 |false=>exact⟨.bl false,H1,I1,rfl,q1⟩
theorem b2r(ha:PE X a ta):PE X (.UnaryOp .Not a pos) (b2o ta):=by
 intro pins s σ H Q I h;refine UnaryOp_ (thn (ha pins s σ H _ I h) fun v s1 ⟨x,H1,I1,r1,q1⟩=>?_)
 obtain⟨c,rfl,q1⟩:=q1;cases r1;exact not_of (Yz ⟨.bl (!c),H1,I1,rfl,q1⟩)
end
def SqL(K:Qq)(H:Hp)(a:Addr)(xs:List V):Prop:=
 Rd H a (.lst xs)∨
  ∃(o:Obj) (its:Array Value) (n:Nat),K.lookup a=some o/\o.cls=.type "list"/\o.dict=none/\o.data=.seq its n/\its.size≤sizeLine/\q5_ xs its.toList
def SqT(K:Qq)(H:Hp)(a:Addr)(xs:List V):Prop:=
 Rd H a (.tup xs)∨
  ∃(o:Obj) (its:Array Value) (n:Nat),K.lookup a=some o/\o.cls=.type "tuple"/\o.dict=none/\o.data=.seq its n/\its.size≤sizeLine/\q5_ xs its.toList
def b2s:Value->Option V
 |.none=>some .non
 |.bool b=>some (.bl b)
 |.int i _=>some (.int i)
 |.str x _=>some (.str x)
 |.bytes b _=>some (.byt b)
 |.float b _=>some (.flt b)
 |.ref a=>some (.ref a)
 |.type n=>some (.ty n)
 |_=>none
theorem v2_.abs{x:V}{u:Value}(r:v2_ x u):b2s u=some x:=by
 cases x with
 |non=>cases r;rfl
 |bl _=>cases r;rfl
 |int _=>obtain⟨t,rfl⟩:=r;rfl
 |str _=>obtain⟨t,rfl⟩:=r;rfl
 |byt _=>obtain⟨t,rfl⟩:=r;rfl
 |flt _=>obtain⟨t,rfl⟩:=r;rfl
 |ref _=>cases r;rfl
 |ty _=>cases r;rfl
theorem v2_.inj{x y:V}{u:Value}(r:v2_ x u)(q:v2_ y u):x=y:=Zw (r.abs.symm.trans q.abs)
theorem q5_.inj:∀{xs ys:List V}{us:List Value},q5_ xs us->q5_ ys us->xs=ys
 |_,_,_,.nil,.nil=>rfl
 |_,_,_,.cons r t,.cons r' t'=>by rw[r.inj r',q5_.inj t t']
section
variable{X:Cx}{pins:OX}{σ:St}{H:Hp}{s:Shared}{a:Addr}{xs ys:List V}
theorem Inv.list(I:Inv X pins σ H s)(h:SqL X.K H a xs):∃its:List Value,q5_ xs its/\PlainL s.heap a its.toArray/\xs.length≤sizeLine:=by
 rcases h with h|⟨o,its,n,hk,hc,hd,hs,hz,r⟩
 ·obtain⟨z,its,n,r,e⟩:=h.ok I.hok
  exact⟨its,r,⟨_,n,e,rfl,rfl,rfl⟩,z⟩
 ·refine⟨its.toList,r,⟨o,n,I.kIn a o hk,hc,hd,by simpa using hs⟩,?_⟩
  have e:=r.length
  simp only[Uj]at e
  omega
theorem Inv.tupleD(I:Inv X pins σ H s)(h:SqT X.K H a xs):∃its:List Value,q5_ xs its/\a0l s.heap a its.toArray/\xs.length≤sizeLine:=by
 rcases h with h|⟨o,its,n,hk,hc,hd,hs,hz,r⟩
 ·obtain⟨z,its,r,p⟩:=h.ok I.hok
  exact⟨its,r,p,z⟩
 ·refine⟨its.toList,r,⟨o,I.kIn a o hk,hc,hd,n,by simpa using hs⟩,?_⟩
  have e:=r.length
  simp only[Uj]at e
  omega
theorem Inv.tuple(I:Inv X pins σ H s)(h:SqT X.K H a xs):∃its:List Value,q5_ xs its/\IsTup s.heap a its.toArray/\xs.length≤sizeLine:=
 let ⟨its,r,p,z⟩:=I.tupleD h
 ⟨its,r,p.tup,z⟩
theorem Inv.list_inj(I:Inv X pins σ H s)(h:SqL X.K H a xs)(h':SqL X.K H a ys):xs=ys:=by
 obtain⟨its,r,⟨o,n,e,_,_,d⟩,_⟩:=I.list h;obtain⟨its',r',⟨o',n',e',_,_,d'⟩,_⟩:=I.list h';rw[e]at e';cases e';rw[d]at d';injection d' with d1 _
 have:its=its':=by simpa using Yh Array.toList d1
 subst this;exact r.inj r'
theorem Inv.tuple_inj(I:Inv X pins σ H s)(h:SqT X.K H a xs)(h':SqT X.K H a ys):xs=ys:=by
 obtain⟨its,r,⟨o,e,_,n,d⟩,_⟩:=I.tuple h;obtain⟨its',r',⟨o',e',_,n',d'⟩,_⟩:=I.tuple h';rw[e]at e';cases e';rw[d]at d';injection d' with d1 _
 have:its=its':=by simpa using Yh Array.toList d1
 subst this;exact r.inj r'
end
abbrev Cx.wish(X:Cx)(E:OE):Cx:={X with xe:=E}
abbrev Cx.nox(X:Cx):Cx:=X.wish fun _ _=>False
theorem Cx.Ok.wish{X:Cx}(ok:X.Ok)(E:OE):(X.wish E).Ok:=
 ⟨ok.mod,ok.kind,ok.glob,ok.blt,ok.above,ok.inj,ok.has,ok.cab,ok.hd,ok.frames,ok.stk,ok.exf,ok.bs,ok.bsz,ok.noex,ok.exfs,ok.funs,ok.frf⟩
theorem Cx.Ok.unwish{X:Cx}{E:OE}(ok:(X.wish E).Ok):X.Ok:=
 ⟨ok.mod,ok.kind,ok.glob,ok.blt,ok.above,ok.inj,ok.has,ok.cab,ok.hd,ok.frames,ok.stk,ok.exf,ok.bs,ok.bsz,ok.noex,ok.exfs,ok.funs,ok.frf⟩
section
variable{X:Cx}{pins:OX}{σ:St}{H:Hp}{s:Shared}{E:OE}
theorem Inv.wish(I:Inv X pins σ H s)(E:OE):Inv (X.wish E) pins σ H s:=⟨I.ok.wish E,I.os,I.bare,I.base,I.loc,I.cell,I.free,I.freeC,I.pin,I.hok,I.len⟩
theorem Inv.unwish(I:Inv (X.wish E) pins σ H s):Inv X pins σ H s:=⟨I.ok.unwish,I.os,I.bare,I.base,I.loc,I.cell,I.free,I.freeC,I.pin,I.hok,I.len⟩
theorem SP.unwish{D:Ends}{f:Flow}{s':Shared}(h:SP (X.wish E) pins D f s'):SP X pins D f s':=by
 cases f with
 |next=>obtain⟨σ',H',I,q⟩:=h;exact⟨σ',H',I.unwish,q⟩
 |brk=>obtain⟨σ',H',I,q⟩:=h;exact⟨σ',H',I.unwish,q⟩
 |cont=>obtain⟨σ',H',I,q⟩:=h;exact⟨σ',H',I.unwish,q⟩
 |ret u=>obtain⟨v,σ',H',I,r,q⟩:=h;exact⟨v,σ',H',I.unwish,r,q⟩
theorem PSs.nox{st:List Stmt}{t:TS}(h:PSs X.nox st t):PSs X st t:=fun pins s σ H D I hw=>
 Yp (h pins s σ H D (I.wish _) hw) (fun _ _ q=>q.unwish) fun _ _ z=>False.elim z
end
section
variable{X:Cx}{st:Stmt}{rest:List Stmt}{t u:TS}{e:Expr}{te:TE}{pos:Pos}
def b2t:TS:=fun D σ H=>D.nx σ H
def b2u(t u:TS):TS:=fun D σ H=>t {D with nx:=u D} σ H
theorem b2v:PSs X [] b2t:=fun _ _ σ H _ I h=>wpAny_execs_nil ⟨σ,H,I,h⟩
theorem b2w(h1:PS X st t)(h2:PSs X rest u):PSs X (st::rest) (b2u t u):=by
 intro pins s σ H D I h;refine wpAny_execs_cons (thn (h1 pins s σ H {D with nx:=u D} I h) fun f s1 q=>?_)
 cases f with
 |next=>
  obtain⟨σ',H',I',q⟩:=q;exact h2 pins s1 σ' H' D I' q
 |ret v=>exact q
 |brk=>exact q
 |cont=>exact q
theorem b2x(h1:PS X st t):PSs X [st] t:=by
 intro pins s σ H D I h;refine wpAny_execs_cons (thn (h1 pins s σ H D I h) fun f s1 q=>?_)
 cases f with
 |next=>exact wpAny_execs_nil q
 |ret v=>exact q
 |brk=>exact q
 |cont=>exact q
theorem Inv.quiet{pins:OX}{σ:St}{H:Hp}{s:Shared}(I:Inv X pins σ H s):interactive X.env=false:=by simp[interactive,I.ok.kind]
def b2y(te:TE):TS:=fun D σ H=>te σ H fun _ H1=>D.nx σ H1
theorem a8p(he:PE X e te)(hs:swapsWith e none pos.line X.env=pure false:=by rfl):PS X (.Expr e pos) (b2y te):=by
 intro pins s σ H D I h;exact wpAny_Expr_any (thn (he pins s σ H _ I h) fun v s1 ⟨x,H1,I1,r1,q1⟩=>⟨σ,H1,I1,q1⟩) I.quiet hs
def b2z(te:TE):TS:=fun D σ H=>te σ H D.rt
theorem a8q(he:PE X e te):PS X (.Return (some e) pos) (b2z te):=by
 intro pins s σ H D I h;exact wpAny_Return_some (thn (he pins s σ H _ I h) fun v s1 ⟨x,H1,I1,r1,q1⟩=>⟨x,σ,H1,I1,r1,q1⟩)
def b2A(c:TT)(t u:TS):TS:=fun D σ H=>c σ H fun b H1=>if b=true then t D σ H1 else u D σ H1
theorem b2B{c:Expr}{a b:List Stmt}{tc:TT}(hc:PT X c tc)(ha:PSs X a t)(hb:PSs X b u):PS X (.If c a b pos) (b2A tc t u):=by
 intro pins s σ H D I h;refine wpAny_If (thn (hc pins s σ H _ I h) fun d s1 ⟨H1,I1,q1⟩=>?_)
 cases d with
 |true=>exact ha pins s1 σ H1 D I1 q1
 |false=>exact hb pins s1 σ H1 D I1 q1
def b2C:TS:=fun _ _ _=>False
theorem b2D:PS X st b2C:=fun _ _ _ _ _ _ h=>h.elim
end
abbrev TG:=V->St->Hp->(St->Hp->Prop)->Prop
abbrev TGs:=List V->St->Hp->(St->Hp->Prop)->Prop
def PG(X:Cx)(target:Expr)(t:TG):Prop:=
 ∀(pins:OX) (s:Shared) (σ:St) (H:Hp) (v:V) (u:Value) (Q:St->Hp->Prop),Inv X pins σ H s->v2_ v u->t v σ H Q->
  wpAny (model X.prog X.w) X.A (assign target X.env u) (fun _ s'=>∃σ' H',Inv X pins σ' H' s'/\Q σ' H') X.xe s
def PGs(X:Cx)(ts:List Expr)(t:TGs):Prop:=
 ∀(pins:OX) (s:Shared) (σ:St) (H:Hp) (vs:List V) (us:List Value) (Q:St->Hp->Prop),Inv X pins σ H s->q5_ vs us->t vs σ H Q->
  wpAny (model X.prog X.w) X.A (assignInOrder ((assignEach ts X.env).map (·.2)) us) (fun _ s'=>∃σ' H',Inv X pins σ' H' s'/\Q σ' H') X.xe s
abbrev a4g:=V->V->V->Hp->(Hp->Prop)->Prop
def a5j(X:Cx)(t:a4g):Prop:=
 ∀(pins:OX) (s:Shared) (σ:St) (H:Hp) (o i v:V) (ov iv u:Value) (Q:Hp->Prop),Inv X pins σ H s->v2_ o ov->v2_ i iv->v2_ v u->t o i v H Q->
  wpAny (model X.prog X.w) X.A (setItem ov iv u) (fun _ s'=>∃H',Inv X pins σ H' s'/\Q H') X.xe s
abbrev TIp:=V->V->Hp->VK->Prop
def PIp(X:Cx)(op:Operator)(t:TIp):Prop:=
 ∀(pins:OX) (s:Shared) (σ:St) (H:Hp) (x y:V) (v u:Value) (Q:VK),Inv X pins σ H s->v2_ x v->v2_ y u->t x y H Q->
  wpAny (model X.prog X.w) X.A (inplaceOp op v u) (EP X pins σ Q) X.xe s
section
variable{X:Cx}{pos:Pos}
def a5k(i:Nat):TG:=fun v σ H Q=>Q (σ.set i (some v)) H
theorem b2E{i:Nat}{x:Str}(hN:X.N.Nodup)(hi:X.N[i]? =some x)(hx:Loc X.env.scope x)(hf:X.fn x=true∨X.env.scope.names.lookup x=some .local:=by first|exact .inl rfl|exact .inr rfl|assumption):PG X (.Name x pos) (a5k i):=by
 intro pins s σ H v u Q I r h;exact wpAny_assign_Name (a5h I hN hi hx r (fun s' I'=>⟨_,H,I',h⟩) hf)
def b2F:TGs:=fun vs σ H Q=>vs=[]/\Q σ H
def b2G(t:TG)(u:TGs):TGs:=fun vs σ H Q=>∃v r,vs=v::r/\t v σ H fun σ' H'=>u r σ' H' Q
theorem b2H:PGs X [] b2F:=by
 intro pins s σ H vs us Q I r h;obtain⟨e,h⟩:=h;subst e;cases r;exact assignInOrder_nil ⟨σ,H,I,h⟩
theorem b2I{e:Expr}{es:List Expr}{t:TG}{u:TGs}(h1:PG X e t)(h2:PGs X es u)
  (hs:(assignEach (e::es) X.env).map (·.2)=assign e X.env::(assignEach es X.env).map (·.2):=by rfl):PGs X (e::es) (b2G t u):=by
 intro pins s σ H vs us Q I r h;obtain⟨v,vr,e1,h⟩:=h;subst e1;cases r with
 |cons r rr=>
  rw[hs];refine assignInOrder_cons (thn (h1 pins s σ H _ _ _ I r h) fun _ s1 ⟨σ1,H1,I1,q1⟩=>?_)
  exact h2 pins s1 σ1 H1 _ _ Q I1 rr q1
def b2J(K:Qq)(n:Nat)(t:TGs):TG:=fun v σ H Q=>∃a xs,v=.ref a/\SqT K H a xs/\xs.length=n/\t xs σ H Q
theorem b2K{es:List Expr}{k:Nat}{t:TGs}{n:Nat}(hc:X.calm=true)(h:PGs X es t)
  (hn:(assignEach es X.env).length=n:=by rfl)(hst:(assignEach es X.env).findIdx? (·.1)=none:=by rfl):PG X (.Tuple es k pos) (b2J X.K n t):=by
 intro pins s σ H v u Q I r hw;obtain⟨a,xs,e1,hq,hl,hw⟩:=hw;subst e1;cases r;obtain⟨its,rv,ht,hz⟩:=I.tuple hq;refine assign_Tuple_tuple (I.ok.hd hc) ht (by simp[hn,←hl,rv.length]) hst fun h' hx=>?_
 have I1:Inv X pins σ H {s with heap:=h'}:=I.kept (t':=s.toks) fun b o e=>hx b o (Zj (Qh e)) e
 exact h pins _ σ H xs _ Q I1 (by simpa using rv) hw
def b2L(to ti:TE)(t:a4g):TG:=fun v σ H Q=>to σ H fun o H1=>ti σ H1 fun i H2=>t o i v H2 fun H3=>Q σ H3
theorem a8r{o i:Expr}{to ti:TE}{t:a4g}(ho:PE X o to)(hi:PE X i ti)(hs:a5j X t)
  (ha:∀v,assign (.Subscript o i pos) X.env v=(do
   let ov←holding [v] (eval o X.env)
   let iv←holding [v,ov] (eval i X.env)
   standAt pos
   holding [v,ov,iv] (setItem ov iv v)
   release [v,ov,iv] []):=by intro _;rfl):PG X (.Subscript o i pos) (b2L to ti t):=by
 intro pins s σ H v u Q I r h;rw[ha];refine Qz (Jb (thn (ho pins s σ H _ I h) fun ov s1 ⟨x,H1,I1,r1,q1⟩=>?_))
 refine Qz (Jb (thn (hi pins s1 σ H1 _ I1 q1) fun iv s2 ⟨y,H2,I2,r2,q2⟩=>?_))
 refine Qz (wpAny_standAt (Qz (Jb (thn (hs pins s2 σ H2 x y v ov iv u _ I2 r1 r2 r q2) fun _ s3 ⟨H3,I3,q3⟩=>?_))))
 exact wpAny_release ⟨σ,H3,I3,q3⟩
def a5l(te:TE)(g:TG):TS:=fun D σ H=>te σ H fun x H1=>g x σ H1 D.nx
theorem b2M{tg e:Expr}{te:TE}{g:TG}(he:PE X e te)(hg:PG X tg g)(hs:swapsWithSole [tg] e pos.line X.env=pure false:=by rfl)(hw:swappedStores [tg] e X.env=pure none:=by rfl)
  (h1:(assignEach [tg] X.env).map (·.2)=[assign tg X.env]:=by rfl):PS X (.Assign [tg] e pos) (a5l te g):=by
 intro pins s σ H D I h;refine wpAny_Assign_stores (thn (he pins s σ H _ I h) fun v s1 ⟨x,H1,I1,r1,q1⟩=>?_) hs hw
 rw[h1];exact thn (hg pins s1 σ H1 x v _ I1 r1 q1) fun _ s2 q=>q
theorem a5m{i:Nat}{x:Str}{e:Expr}{te:TE}{pos':Pos}(hN:X.N.Nodup)(hi:X.N[i]? =some x)(hx:Loc X.env.scope x)(he:PE X e te)(hs:swapsWith e (some (.Name x pos')) pos.line X.env=pure false:=by rfl)(hf:X.fn x=true∨X.env.scope.names.lookup x=some .local:=by first|exact .inl rfl|exact .inr rfl|assumption):
  PS X (.Assign [.Name x pos'] e pos) (a5l te (a5k i)):=by
 intro pins s σ H D I h;refine wpAny_Assign_Name (thn (he pins s σ H _ I h) fun v s1 ⟨y,H1,I1,r1,q1⟩=>?_) hs
 exact a5h I1 hN hi hx r1 (fun s2 I2=>⟨_,H1,I2,q1⟩) hf
def b2N(i:Nat)(te:TE)(ti:TIp):TS:=fun D σ H=>∃x,σ[i]? =some (some x)/\te σ H fun y H1=>ti x y H1 fun z H2=>D.nx (σ.set i (some z)) H2
theorem b2O{i:Nat}{x:Str}{e:Expr}{te:TE}{op:Operator}{ti:TIp}{pos':Pos}(hN:X.N.Nodup)(hi:X.N[i]? =some x)(hx:Loc X.env.scope x)(he:PE X e te)(ho:PIp X op ti)(hf:X.fn x=true∨X.env.scope.names.lookup x=some .local:=by first|exact .inl rfl|exact .inr rfl|assumption):
  PS X (.AugAssign (.Name x pos') op e pos) (b2N i te ti):=by
 intro pins s σ H D I h;obtain⟨v,e1,h⟩:=h;obtain⟨m,hn,hl⟩:=I.loc;have vis:Vis X.env.scope x:=by rcases hx with k|k;exact .inl k;exact .inr (.inl k)
 obtain⟨u,r,l⟩:=hl i x v hi e1 vis;refine wpAny_AugAssign_Name ?_
 have go:wpAny (model X.prog X.w) X.A (eval e X.env) (fun w s₂=>wpAny (model X.prog X.w) X.A (inplaceOp op u w) (fun r s₃=>wpAny (model X.prog X.w) X.A (storeName X.env x r) (fun _=>SP X pins D .next) X.xe s₃) X.xe s₂) X.xe s:=by
  refine thn (he pins s σ H _ I h) fun w s1 ⟨y,H1,I1,r1,q1⟩=>?_
  refine thn (ho pins s1 σ H1 v y u w _ I1 r r1 q1) fun z s2 ⟨zv,H2,I2,r2,q2⟩=>?_
  exact a5h I2 hN hi hx r2 (fun s3 I3=>⟨_,H2,I3,q2⟩) hf
 rcases l with⟨hk,hm⟩|⟨hk,c,hc,hcell⟩
 ·exact wpAny_loadName_local I.ok.kind hk hn hm go
 ·rcases hk with hk|hk
  ·exact wpAny_loadName_cell I.ok.kind hk hc hcell go
  ·rcases hx with k|k
   ·have:X.env.scope.names.lookup x=some .free:=hk
    rw[k]at this;cases this
   ·have:X.env.scope.names.lookup x=some .free:=hk
    rw[k]at this;cases this
end
section
variable{X:Cx}{pos:Pos}
end
structure It where
 go:Nat->Hp->Prop
 yld:Nat->Hp->V->Hp->Prop
 stop:Nat->Hp->Prop
def a0g(X:Cx)(pins:OX)(H:Hp)(b:Addr):Prop:=
 H b=none/\b≠X.env.locals/\b∉X.fs/\(b∈X.ex∨X.s₀.heap.objs.size≤b)/\(∀x c,X.env.cells.lookup x=some c->c≠b)/\∀p∈X.pn++pins,p.1≠b
theorem Inv.fpOk{X:Cx}{pins:OX}{σ:St}{H H':Hp}{s:Shared}{b:Addr}(I:Inv X pins σ H s)(hb:s.heap.objs.size≤b)(hn:H' b=none):a0g X pins H' b:=by
 refine⟨hn,Xx (Qd I.lt hb),I.nofs hb,.inr (Zn I.sz hb),fun x c e z=>?_,fun p hp z=>?_⟩
 ·obtain⟨v,q⟩:=I.cell x c e
  exact absurd (Qd q.lt (by rw[z];exact hb)) (Yg _)
 ·exact absurd (Qd (Qh (I.pin p hp).1) (by rw[z];exact hb)) (Yg _)
structure Turn(P:Program)(w:World)(K:Qq)(tg:Expr)(J:It)(fp:List Addr)(it:Addr)(tn:Nat->Heap->Prop):Prop where
 mem:it∈fp
 obj:∀i h,tn i h->∀b∈fp,∃o,h.get? b=some o/\∀v,o.data≠.cell v
 keep:∀i h h',tn i h->(∀b∈fp,∀o,h.get? b=some o->h'.get? b=some o)->tn i h'
 item:∀(X:Cx),X.prog=P->X.w=w->X.K=K->X.calm=true->∀(i:Nat) (pins:OX) (s:Shared) (σ:St) (H:Hp) (E:OE),Inv X pins σ H s->(∀b∈fp,a0g X pins H b)->tn i s.heap->J.go i H->
  wpAny (model P w) X.A (pyNext (.ref it)) (fun r s1=>∃u,r=some u/\
   wpAny (model P w) X.A (letOwnedTupleGo tg (.ref it) u) (fun _ s2=>∃x H',Inv X pins σ H' s2/\v2_ x u/\J.yld i H x H'/\tn (i+1) s2.heap/\∀b∈fp,H' b=none) E s1) E s
 done:∀(X:Cx),X.prog=P->X.w=w->X.K=K->X.calm=true->∀(i:Nat) (pins:OX) (s:Shared) (σ:St) (H:Hp) (E:OE),Inv X pins σ H s->(∀b∈fp,a0g X pins H b)->tn i s.heap->J.stop i H->
  wpAny (model P w) X.A (pyNext (.ref it)) (fun r s1=>r=none/\Inv X pins σ H s1) E s
 self:∀(A:Around) (i:Nat) (s:Shared) (Q:OE) (E:OE),tn i s.heap->Q (.ref it) s->wpAny (model P w) A (pyIter (.ref it)) Q E s
abbrev TI:=St->Hp->(It->Hp->Prop)->Prop
def PIE(X:Cx)(pins:OX)(σ:St)(tg:Expr)(R:It->Hp->Prop)(itv:Value)(s2:Shared):Prop:=
 ∃(it:Addr) (fp:List Addr) (tn:Nat->Heap->Prop) (J:It) (H':Hp),itv=.ref it/\Inv X pins σ H' s2/\Turn X.prog X.w X.K tg J fp it tn/\tn 0 s2.heap/\(∀b∈fp,a0g X pins H' b)/\R J H'
def PI(X:Cx)(tg iter:Expr)(wi:TI):Prop:=
 ∀(pins:OX) (s:Shared) (σ:St) (H:Hp) (R:It->Hp->Prop),Inv X pins σ H s->wi σ H R->
  wpAny (model X.prog X.w) X.A (eval iter X.env) (fun v s1=>wpAny (model X.prog X.w) X.A (pyIter v) (PIE X pins σ tg R) X.xe s1) X.xe s
theorem a5n{M:Model}{A:Around}{E:OE}{s:Shared}{tg:Expr}{it:Addr}{u:Value}{o:Obj}{n:String}{vs:Array Value}{Q:Unit->Shared->Prop}(ho:s.heap.get? it=some o)(hc:o.cls=.type n)(hd:o.data=.fields vs)
    (hn:["enumerate","zip","dict_itemiterator","dict_reverseitemiterator","odict_iterator","itertools.zip_longest","itertools.pairwise"].contains n=false)(hQ:Q () s):wpAny M A (letOwnedTupleGo tg (.ref it) u) Q E s:=by
  unfold letOwnedTupleGo;cases tg<;>first
    |exact Qj hQ
    | (cases u<;>first
        |exact Qj hQ
        | (refine Qz (wpAny_load ho ?_)
           rw[hc,hd];show wpAny M A (if(["enumerate","zip","dict_itemiterator","dict_reverseitemiterator","odict_iterator","itertools.zip_longest","itertools.pairwise"].contains n&&vs[0]? ==some (rawInt _))=true then _ else _) Q E s
           rw[Qw (by intro h;rw[hn,Bool.false_and]at h;cases h)]
           exact Qj hQ))
def Itl(K:Qq)(a:Addr):It:=
 ⟨fun i H=>∃xs x,SqL K H a xs/\xs[i]? =some x,fun i H x H'=>H'=H/\∀xs,SqL K H a xs->xs[i]? =some x,fun i H=>∃xs,SqL K H a xs/\xs.length≤i⟩
def Itt(K:Qq)(a:Addr):It:=
 ⟨fun i H=>∃xs x,SqT K H a xs/\xs[i]? =some x,fun i H x H'=>H'=H/\∀xs,SqT K H a xs->xs[i]? =some x,fun i H=>∃xs,SqT K H a xs/\xs.length≤i⟩
def Itr(lo:Int)(n:Nat):It:=⟨fun i _=>i<n,fun i H x H'=>H'=H/\x=.int (lo+i),fun i _=>n≤i⟩
theorem b2P{P:Program}{w:World}{K:Qq}{tg:Expr}(a it:Addr):Turn P w K tg (Itl K a) [it] it (fun i h=>h.IsListIter it a i)where
 mem:=by simp
 obj:=fun i h st b hb=>by
  have e:b=it:=by simpa using hb
  subst e;obtain⟨o,e,c,d⟩:=st;exact⟨o,e,fun v z=>by rw[d]at z;cases z⟩
 keep:=fun i h h' st k=>st.at fun o e=>k it (by simp) o e
 item:=by
  intro X hP hw hK hc i pins s σ H E I hf st hg;subst hP hw hK;obtain⟨xs,x,hq,hx⟩:=hg;obtain⟨its,rv,p,hz⟩:=I.list hq;obtain⟨u,hu,ru⟩:=rv.get hx;obtain⟨f0,f1,f2,f3,f4,f5⟩:=hf it (by simp)
  refine wpAny_pyNext_list_item st p.isList (x:=u) (by simpa using hu) fun h' st' sb=>?_
  have I1:Inv X pins σ H {s with heap:=h'}:=I.turned (t':=s.toks) (fun b o hb e=>(sb.2 b hb).trans e) f0 f1 f3 f4 f5
  obtain⟨o,e,c,d⟩:=id st';exact⟨u,rfl,a5n (s:={s with heap:=h'}) e c d (by decide) ⟨x,H,I1,ru,⟨rfl,fun ys hy=>by rw[I.list_inj hy hq];exact hx⟩,st',fun b hb=>(hf b hb).1⟩⟩
 done:=by
  intro X hP hw hK hc i pins s σ H E I hf st hg;subst hP hw hK;obtain⟨xs,hq,hx⟩:=hg;obtain⟨its,rv,p,hz⟩:=I.list hq;obtain⟨f0,f1,f2,f3,f4,f5⟩:=hf it (by simp)
  have hl:=rv.length
  exact wpAny_pyNext_list_end (I.ok.hd hc) st p.isList (by simp;omega) fun h' eb=>⟨rfl,I.turned (t':=s.toks) (fun b o hb e=>eb b o hb e) f0 f1 f3 f4 f5⟩
 self:=fun _ _ _ _ _ st h=>wpAny_pyIter_listiter st h
theorem b2Q{P:Program}{w:World}{K:Qq}{tg:Expr}(a it:Addr):Turn P w K tg (Itt K a) [it] it (fun i h=>h.IsTupleIter it a i)where
 mem:=by simp
 obj:=fun i h st b hb=>by
  have e:b=it:=by simpa using hb
  subst e;obtain⟨o,e,c,d⟩:=st;exact⟨o,e,fun v z=>by rw[d]at z;cases z⟩
 keep:=fun i h h' st k=>st.at fun o e=>k it (by simp) o e
 item:=by
  intro X hP hw hK hc i pins s σ H E I hf st hg;subst hP hw hK;obtain⟨xs,x,hq,hx⟩:=hg;obtain⟨its,rv,p,hz⟩:=I.tuple hq;obtain⟨u,hu,ru⟩:=rv.get hx;obtain⟨f0,f1,f2,f3,f4,f5⟩:=hf it (by simp)
  refine wpAny_pyNext_tuple_item st (show s.heap.IsTuple a its.toArray from p) (x:=u) (by simpa using hu) fun h' st' sb=>?_
  have I1:Inv X pins σ H {s with heap:=h'}:=I.turned (t':=s.toks) (fun b o hb e=>(sb.2 b hb).trans e) f0 f1 f3 f4 f5
  obtain⟨o,e,c,d⟩:=id st';exact⟨u,rfl,a5n (s:={s with heap:=h'}) e c d (by decide) ⟨x,H,I1,ru,⟨rfl,fun ys hy=>by rw[I.tuple_inj hy hq];exact hx⟩,st',fun b hb=>(hf b hb).1⟩⟩
 done:=by
  intro X hP hw hK hc i pins s σ H E I hf st hg;subst hP hw hK;obtain⟨xs,hq,hx⟩:=hg;obtain⟨its,rv,p,hz⟩:=I.tuple hq;obtain⟨f0,f1,f2,f3,f4,f5⟩:=hf it (by simp)
  have hl:=rv.length
  exact wpAny_pyNext_tuple_end (I.ok.hd hc) st (show s.heap.IsTuple a its.toArray from p) (by simp;omega) fun h' eb=>⟨rfl,I.turned (t':=s.toks) (fun b o hb e=>eb b o hb e) f0 f1 f3 f4 f5⟩
 self:=fun _ _ _ _ _ st h=>wpAny_pyIter_tupleiter st h
theorem b2R{P:Program}{w:World}{K:Qq}{tg:Expr}(it:Addr)(lo:Int)(n:Nat):Turn P w K tg (Itr lo n) [it] it (fun i h=>IsRangeIter h it (lo+(i:Nat) * 1) ((n:Int)-(i:Nat)) 1)where
 mem:=by simp
 obj:=fun i h st b hb=>by
  have e:b=it:=by simpa using hb
  subst e;exact⟨_,st,fun v z=>by
   have z':Data.fields _=Data.cell v:=z
   cases z'⟩
 keep:=fun i h h' st k=>k it (by simp) _ st
 item:=by
  intro X hP hw hK hc i pins s σ H E I hf st hg;subst hP hw hK;obtain⟨f0,f1,f2,f3,f4,f5⟩:=hf it (by simp)
  have W:=Walks.range (prog:=X.prog) (w:=X.w) (I.ok.hd hc) it lo 1 n
  refine W.item i s _ _ hg st fun v h' tk hv st' kk=>?_
  obtain⟨t,rfl⟩:=hv;have I1:Inv X pins σ H {s with heap:=h',toks:=tk}:=I.turned (fun b o hb e=>kk b o (by simpa using hb) e) f0 f1 f3 f4 f5
  refine⟨_,rfl,a5n (s:={s with heap:=h',toks:=tk}) (n:="range_iterator") st' rfl rfl (by decide) ⟨.int (lo+i),H,I1,⟨t,?_⟩,⟨rfl,rfl⟩,st',fun b hb=>(hf b hb).1⟩⟩
  rw[Int.mul_one]
 done:=by
  intro X hP hw hK hc i pins s σ H E I hf st hg;subst hP hw hK;obtain⟨f0,f1,f2,f3,f4,f5⟩:=hf it (by simp)
  exact wpAny_pyNext_range_end (I.ok.hd hc) st (by have:n≤i:=hg;omega) fun h' eb=>⟨rfl,I.turned (t':=s.toks) (fun b o hb e=>eb b o hb e) f0 f1 f3 f4 f5⟩
 self:=fun _ _ _ _ _ st h=>wpAny_pyIter_rangeiter st h
section
variable{X:Cx}{tg:Expr}
theorem a8s{pins:OX}{σ:St}{H:Hp}{s:Shared}{R:It->Hp->Prop}{E:OE}{lo hi:Int}{t u v:Tok}{tk:Nat}(I:Inv X pins σ H s)(h1: -(2^62)≤lo)(h2:lo<2^62)(h3: -(2^62)≤hi)(h4:hi<2^62)
  (q:R (Itr lo (hi-lo).toNat) H):wpAny (model X.prog X.w) X.A (pyIter (.ref s.heap.objs.size)) (PIE X pins σ tg R) E {s with heap:=s.heap.push {cls:=.type "range",data:=.fields #[.int lo t,.int hi u,.int 1 v]},toks:=tk}:=by
 refine wpAny_pyIter_range (IsRange.new ..) (small_one h1 h2 h3 h4) ?_
 have I1:Inv X pins σ H {s with heap:=s.heap.push {cls:=.type "range",data:=.fields #[.int lo t,.int hi u,.int 1 v]},toks:=tk}:=I.kept fun b o e=>Qx _ e
 refine⟨(s.heap.push {cls:=.type "range",data:=.fields #[.int lo t,.int hi u,.int 1 v]}).objs.size,[(s.heap.push {cls:=.type "range",data:=.fields #[.int lo t,.int hi u,.int 1 v]}).objs.size],_,_,H,rfl,
  I1.kept (t':=tk) fun b o e=>Qx _ e,b2R _ lo (hi-lo).toNat,?_,fun b hb=>?_,q⟩
 ·have e1:lo+((0:Nat):Int) * 1=lo:=by simp
  have e2:(((hi-lo).toNat:Nat):Int)-((0:Nat):Int)=Builtin.Range.rangeSize lo hi 1:=by rw[rangeSize_one];split<;>omega
  show IsRangeIter _ _ (lo+((0:Nat):Int) * 1) ((((hi-lo).toNat:Nat):Int)-((0:Nat):Int)) 1;rw[e1,e2];exact Qg _ rfl
 ·have e:b=(s.heap.push {cls:=.type "range",data:=.fields #[.int lo t,.int hi u,.int 1 v]}).objs.size:=by simpa using hb
  subst e;exact I1.fpOk (Qu _) (I1.hok.fresh (Qu _))
def b2S(ta:TA):TI:=fun σ H R=>ta σ H fun vs H1=>∃j:Int,vs=[.int j]/\ -(2^62)≤j/\j<2^62/\R (Itr 0 j.toNat) H1
def b2T(ta:TA):TI:=fun σ H R=>ta σ H fun vs H1=>∃i j:Int,vs=[.int i,.int j]/\(-(2^62)≤i/\i<2^62/\ -(2^62)≤j/\j<2^62)/\R (Itr i (j-i).toNat) H1
theorem b2U{a:Expr}{ta:TA}{p pos:Pos}(hg:Gl X "range")(hm:X.mg "range"=none)(ha:PA X [a] ta)(hs:starEach [a] X.env=[(false,eval a X.env)]:=by rfl):PI X tg (.Call (.Name "range" p) [a] [] pos) (b2S ta):=by
 intro pins s σ H R I h;refine Call_ (a2r I hg hm boot_range (Yt (thn (ha pos pins s σ H _ I h) fun us s1 ⟨vs,H1,I1,r1,q1⟩=>?_) hs rfl))
 obtain⟨j,e,q1,q2,q⟩:=q1;subst e;cases r1 with
 |cons r rr=>
  cases rr;obtain⟨t,rfl⟩:=r;exact call_range_1 (a8s I1 (by omega) (by omega) q1 q2 (by simpa using q))
theorem b2V{a b:Expr}{ta:TA}{p pos:Pos}(hg:Gl X "range")(hm:X.mg "range"=none)(ha:PA X [a,b] ta)(hs:starEach [a,b] X.env=[(false,eval a X.env),(false,eval b X.env)]:=by rfl)(hs2:starEach [b] X.env=[(false,eval b X.env)]:=by rfl):
  PI X tg (.Call (.Name "range" p) [a,b] [] pos) (b2T ta):=by
 intro pins s σ H R I h;refine Call_ (a2r I hg hm boot_range (Yt (thn (ha pos pins s σ H _ I h) fun us s1 ⟨vs,H1,I1,r1,q1⟩=>?_) (by rw[hs,hs2]) (by rw[hs2];rfl)))
 obtain⟨i,j,e,⟨q1,q2,q3,q4⟩,q⟩:=q1;subst e;cases r1 with
 |cons r rr=>
  cases rr with
  |cons r' rr=>
   cases rr;obtain⟨t,rfl⟩:=r;obtain⟨t',rfl⟩:=r';exact call_range_2 (a8s I1 q1 q2 q3 q4 q)
def b2W(wi:TI)(g:TG)(tb:TS):TS:=fun D σ H=>wi σ H fun J H1=>∃W:Nat->Nat->St->Hp->Prop,(∃m,W 0 m σ H1)/\∀i m σ H,W i m σ H->
 (J.stop i H/\D.nx σ H)∨(J.go i H/\∃N:St->Hp->Prop,(∀σ' H',N σ' H'->∃m',m'<m/\W (i+1) m' σ' H')/\∀x H',J.yld i H x H'->g x σ H' fun σ2 H2=>tb {D with nx:=N,ct:=N,bk:=D.nx} σ2 H2)
def a3h(fp:List Addr)(h:Heap):OX:=fp.filterMap fun b=>(h.get? b).map fun o=>(b,o)
theorem a4h{fp:List Addr}{h:Heap}{b:Addr}{o:Obj}(hb:b∈fp)(e:h.get? b=some o):(b,o)∈a3h fp h:=List.mem_filterMap.mpr ⟨b,hb,by rw[e];rfl⟩
theorem b2X{fp:List Addr}{h:Heap}{p:Addr×Obj}(hp:p∈a3h fp h):p.1∈fp/\h.get? p.1=some p.2:=by
 obtain⟨b,hb,e⟩:=List.mem_filterMap.mp hp;cases q:h.get? b with
 |none=>rw[q]at e;cases e
 |some o=>
  rw[q]at e;have e':(b,o)=p:=Zw e;subst e';exact⟨hb,q⟩
theorem Inv.pinned{pins:OX}{σ:St}{H:Hp}{s:Shared}{fp:List Addr}(I:Inv X pins σ H s)(hf:∀b∈fp,a0g X pins H b)(ho:∀b∈fp,∃o,s.heap.get? b=some o/\∀v,o.data≠.cell v):Inv X (pins++a3h fp s.heap) σ H s:=
 I.pins_of fun p hp=>(Xk.mp hp).elim (fun z=>I.pin p (Zy _ z)) fun z=>by
  obtain⟨hb,e⟩:=b2X z;obtain⟨f0,f1,f2,_⟩:=hf p.1 hb;obtain⟨o,e',d⟩:=ho p.1 hb;rw[e]at e';cases e';exact⟨e,f0,f1,f2,d⟩
theorem Inv.unpinned{pins pl:OX}{σ:St}{H:Hp}{s:Shared}(I:Inv X (pins++pl) σ H s):Inv X pins σ H s:=I.pins_of fun p hp=>I.pin p (Zy _ (List.mem_append_left _ hp))
theorem b2Y{iter:Expr}{body:List Stmt}{wi:TI}{g:TG}{tb:TS}{pos:Pos}(hp:PassesOwn (model X.prog X.w) X.A X.env X.xe)(hc:X.calm=true)(hi:PI X tg iter wi)(hg:PG X tg g)(hb:PSs X body tb)
  (hs:∀x,foldedSetIterable iter X.env x=pure x:=by intro _;rfl):PS X (.For tg iter body [] pos) (b2W wi g tb):=by
 intro pins s σ H D I h;refine wpAny_For (thn (hi pins s σ H _ I h) fun v s1 h1=>thn h1 fun itv s2 h2=>?_) hs
 obtain⟨it,fp,tn,J,H2,e,I2,T,st2,f2,W,⟨m0,w0⟩,turn⟩:=h2;subst e;have stat:∀{H':Hp},(∀b∈fp,H' b=none)->∀b∈fp,a0g X pins H' b:=fun hn b hb=>⟨hn b hb,(f2 b hb).2⟩
 refine codeAny_forLoop_any (fun n s'=>∃i σ' H',Inv X pins σ' H' s'/\tn i s'.heap/\(∀b∈fp,H' b=none)/\W i n σ' H') ?_ m0 ⟨0,σ,H2,I2,st2,fun b hb=>(f2 b hb).1,w0⟩
 rintro n s3 ⟨i,σ3,H3,I3,st3,fr3,w3⟩
 rcases turn i n σ3 H3 w3 with⟨stop,qn⟩|⟨go,N,hN,step⟩
 ·refine Uv hp (thn (T.done X rfl rfl rfl hc i pins s3 σ3 H3 X.xe I3 (stat fr3) st3 stop) fun r s4 ⟨hr,I4⟩=>?_)
  subst hr;exact wpAny_execs_nil ⟨σ3,H3,I4,qn⟩
 ·refine Uv hp (thn (T.item X rfl rfl rfl hc i pins s3 σ3 H3 X.xe I3 (stat fr3) st3 go) fun r s4 ⟨u,hr,h4⟩=>?_)
  subst hr;refine Uv hp (thn h4 fun _ s5 ⟨x,H5,I5,r5,y5,st5,fr5⟩=>?_)
  have I5':=I5.pinned (stat fr5) (T.obj _ _ st5)
  refine Uv hp (thn (hg _ s5 σ3 H5 x u _ I5' r5 (step x H5 y5)) fun _ s6 ⟨σ6,H6,I6,q6⟩=>?_)
  refine Uv hp (thn (hb _ s6 σ6 H6 _ I6 q6) fun f s7 q7=>?_)
  have again:∀{σ7:St}{H7:Hp},Inv X (pins++a3h fp s5.heap) σ7 H7 s7->N σ7 H7->∃m,m<n/\∃i σ' H',Inv X pins σ' H' s7/\tn i s7.heap/\(∀b∈fp,H' b=none)/\W i m σ' H':=fun{σ7 H7} I7 n7=>by
   obtain⟨m',hm,w7⟩:=hN σ7 H7 n7;refine⟨m',hm,i+1,σ7,H7,I7.unpinned,T.keep _ _ _ st5 fun b hb o e=>(I7.pin (b,o) (Zy _ (Zy _ (a4h hb e)))).1,fun b hb=>?_,w7⟩
   obtain⟨o,e,d⟩:=T.obj _ _ st5 b hb;exact(I7.pin (b,o) (Zy _ (Zy _ (a4h hb e)))).2.1
  cases f with
  |next=>obtain⟨σ7,H7,I7,n7⟩:=q7;exact again I7 n7
  |cont=>obtain⟨σ7,H7,I7,n7⟩:=q7;exact again I7 n7
  |brk=>obtain⟨σ7,H7,I7,q7⟩:=q7;exact⟨σ7,H7,I7.unpinned,q7⟩
  |ret v=>obtain⟨x7,σ7,H7,I7,r7,q7⟩:=q7;exact⟨x7,σ7,H7,I7.unpinned,r7,q7⟩
end
abbrev R2:=V->V->Hp->VK->Prop
def OpR(X:Cx)(f:Value->Value->Sem Value)(r:R2):Prop:=
 ∀(pins:OX) (s:Shared) (σ:St) (H:Hp) (x y:V) (v u:Value) (Q:VK),Inv X pins σ H s->v2_ x v->v2_ y u->r x y H Q->
  wpAny (model X.prog X.w) X.A (f v u) (EP X pins σ Q) X.xe s
def UnR(X:Cx)(f:Value->Sem Value)(r:V->Hp->VK->Prop):Prop:=
 ∀(pins:OX) (s:Shared) (σ:St) (H:Hp) (x:V) (v:Value) (Q:VK),Inv X pins σ H s->v2_ x v->r x H Q->
  wpAny (model X.prog X.w) X.A (f v) (EP X pins σ Q) X.xe s
def a0t(X:Cx)(f:Value)(r:List V->Hp->VK->Prop):Prop:=
 ∀(pins:OX) (s:Shared) (σ:St) (H:Hp) (xs:List V) (us:List Value) (Q:VK),Inv X pins σ H s->q5_ xs us->r xs H Q->
  wpAny (model X.prog X.w) X.A (call f us) (EP X pins σ Q) X.xe s
def tOp(r:R2)(ta tb:TE):TE:=fun σ H Q=>ta σ H fun x H1=>tb σ H1 fun y H2=>r x y H2 Q
def tUn(r:V->Hp->VK->Prop)(ta:TE):TE:=fun σ H Q=>ta σ H fun x H1=>r x H1 Q
def rI(C:Int->Int->Prop)(g:Int->Int->V):R2:=fun x y H Q=>∃i j,x=.int i/\y=.int j/\C i j/\Q (g i j) H
def rI0(g:Int->Int->V):R2:=fun x y H Q=>∃i j,x=.int i/\y=.int j/\Q (g i j) H
def rU(g:Int->V):V->Hp->VK->Prop:=fun x H Q=>∃i,x=.int i/\Q (g i) H
section
variable{X:Cx}{a b c:Expr}{ta tb tc:TE}{pos:Pos}
theorem a5o(ha:PE X a ta)(hb:PE X b tb){pins:OX}{s:Shared}{σ:St}{H:Hp}{R:V->V->Hp->Prop}(I:Inv X pins σ H s)
  (h:ta σ H fun x H1=>tb σ H1 fun y H2=>R x y H2){Q:OE}{f:Value->Value->Sem Value}
  (hf:∀v u s2 x y H2,Inv X pins σ H2 s2->v2_ x v->v2_ y u->R x y H2->wpAny (model X.prog X.w) X.A (f v u) Q X.xe s2):
  wpAny (model X.prog X.w) X.A (eval a X.env) (fun v s₁=>wpAny (model X.prog X.w) X.A (eval b X.env) (fun u s₂=>wpAny (model X.prog X.w) X.A (f v u) Q X.xe s₂) X.xe s₁) X.xe s:=by
 refine thn (ha pins s σ H _ I h) fun v s1 ⟨x,H1,I1,r1,q1⟩=>?_
 refine thn (hb pins s1 σ H1 _ I1 q1) fun u s2 ⟨y,H2,I2,r2,q2⟩=>?_
 exact hf v u s2 x y H2 I2 r1 r2 q2
theorem b2Z{op:Operator}{r:R2}(ho:OpR X (binaryOp op) r)(ha:PE X a ta)(hb:PE X b tb):PE X (.BinOp a op b pos) (tOp r ta tb):=by
 intro pins s σ H Q I h;exact wpAny_BinOp (a5o ha hb I h fun v u s2 x y H2 I2 rx ry q=>ho pins s2 σ H2 x y v u Q I2 rx ry q)
theorem a8t{op:UnaryOp}{r:V->Hp->VK->Prop}(ho:UnR X (unaryOp op) r)(ha:PE X a ta):PE X (.UnaryOp op a pos) (tUn r ta):=by
 intro pins s σ H Q I h;exact UnaryOp_ (thn (ha pins s σ H _ I h) fun v s1 ⟨x,H1,I1,r1,q1⟩=>ho pins s1 σ H1 x v Q I1 r1 q1)
theorem opI{f:Value->Value->Sem Value}{C:Int->Int->Prop}{g:Int->Int->Int}
  (rule:∀(i j:Int) (t u:Tok) (s:Shared) (Q:OE) (E:OE),C i j->Q (.int (g i j) s.toks) {s with toks:=s.toks+1}->wpAny (model X.prog X.w) X.A (f (.int i t) (.int j u)) Q E s):
  OpR X f (rI C fun i j=>.int (g i j)):=by
 intro pins s σ H x y v u Q I rx ry h;obtain⟨i,j,rfl,rfl,hc,q⟩:=h;obtain⟨t,rfl⟩:=rx;obtain⟨t',rfl⟩:=ry;exact rule i j t t' s _ _ hc ⟨.int (g i j),H,I.tok _,⟨_,rfl⟩,q⟩
theorem a5p{f:Value->Value->Sem Value}{g:Int->Int->Int}
  (rule:∀(i j:Int) (t u:Tok) (s:Shared) (Q:OE) (E:OE),Q (.int (g i j) s.toks) {s with toks:=s.toks+1}->wpAny (model X.prog X.w) X.A (f (.int i t) (.int j u)) Q E s):
  OpR X f (rI0 fun i j=>.int (g i j)):=by
 intro pins s σ H x y v u Q I rx ry h;obtain⟨i,j,rfl,rfl,q⟩:=h;obtain⟨t,rfl⟩:=rx;obtain⟨t',rfl⟩:=ry;exact rule i j t t' s _ _ ⟨.int (g i j),H,I.tok _,⟨_,rfl⟩,q⟩
theorem a5q{f:Value->Value->Sem Value}{g:Int->Int->Bool}
  (rule:∀(i j:Int) (t u:Tok) (s:Shared) (Q:OE) (E:OE),Q (.bool (g i j)) s->wpAny (model X.prog X.w) X.A (f (.int i t) (.int j u)) Q E s):
  OpR X f (rI0 fun i j=>.bl (g i j)):=by
 intro pins s σ H x y v u Q I rx ry h;obtain⟨i,j,rfl,rfl,q⟩:=h;obtain⟨t,rfl⟩:=rx;obtain⟨t',rfl⟩:=ry;exact rule i j t t' s _ _ ⟨.bl (g i j),H,I,rfl,q⟩
def a5r(i j:Int):Prop:=0<j/\j<1073741824
def a5s(i j:Int):Prop:=0≤j/\j≤1000000/\i.natAbs<2^64
def a1K(i j:Int):Prop:=(-(2^64)<i/\i<2^64)∨(-(2^64)<j/\j<2^64)
theorem a1K.ok{i j:Int}(h:a1K i j):IntMulOk i j:=by
 rcases h with⟨h1,h2⟩|⟨h1,h2⟩
 ·exact .of_left (intBits_le_64 h1 h2)
 ·exact .of_right (intBits_le_64 h1 h2)
theorem b3a:OpR X (binaryOp .Add) (rI0 fun i j=>.int (i+j)):=a5p fun _ _ _ _ _ _ _ q=>add_int q
theorem a1L:OpR X (binaryOp .Sub) (rI0 fun i j=>.int (i-j)):=a5p fun _ _ _ _ _ _ _ q=>sub_int q
theorem b3b:OpR X (binaryOp .Mult) (rI a1K fun i j=>.int (i * j)):=opI fun _ _ _ _ _ _ _ hc q=>mul_int q hc.ok
theorem a8u:OpR X (binaryOp .FloorDiv) (rI a5r fun i j=>.int (i/j)):=opI fun i j _ _ _ _ _ hc q=>by
 have h1:(0:Int)<j:=hc.1
 have h2:j<1073741824:=hc.2
 exact floordiv_int (by omega) (by rw[Int.fdiv_eq_ediv_of_nonneg i (by omega)];exact q) (.inl (PyProof.noPylong_small (by omega)))
theorem a2s:OpR X (binaryOp .Mod) (rI (fun _ j=>0<j) fun i j=>.int (i%j)):=opI fun i j _ _ _ _ _ hc q=>by
 have h1:(0:Int)<j:=hc
 exact mod_int' (by omega) (by rw[Int.fmod_eq_emod_of_nonneg i (by omega)];exact q)
theorem a8v:OpR X (binaryOp .Pow) (rI a5s fun i j=>.int (i^j.toNat)):=opI fun _ _ _ _ _ _ _ hc q=>pow_int_small hc.1 hc.2.1 hc.2.2 q
theorem b3c:OpR X (inplaceOp .Add) (rI0 fun i j=>.int (i+j)):=a5p fun _ _ _ _ _ _ _ q=>iadd_int q
theorem unI{f:Value->Sem Value}{g:Int->Int}
  (rule:∀(i:Int) (t:Tok) (s:Shared) (Q:OE) (E:OE),Q (.int (g i) s.toks) {s with toks:=s.toks+1}->wpAny (model X.prog X.w) X.A (f (.int i t)) Q E s):
  UnR X f (rU fun i=>.int (g i)):=by
 intro pins s σ H x v Q I rx h;obtain⟨i,rfl,q⟩:=h;obtain⟨t,rfl⟩:=rx;exact rule i t s _ _ ⟨.int (g i),H,I.tok _,⟨_,rfl⟩,q⟩
theorem a8w:UnR X (unaryOp .USub) (rU fun i=>.int (-i)):=unI fun _ _ _ _ _ q=>neg_int q
end
section
variable{X:Cx}{a b c:Expr}{ta tb tc:TE}{pos:Pos}
theorem b3d:OpR X (compareOp .Lt) (rI0 fun i j=>.bl (decide (i<j))):=a5q fun _ _ _ _ _ _ _ q=>lt_int q
theorem a2t:OpR X (compareOp .LtE) (rI0 fun i j=>.bl (decide (i≤j))):=a5q fun _ _ _ _ _ _ _ q=>le_int q
theorem b3e:OpR X (compareOp .GtE) (rI0 fun i j=>.bl (decide (j≤i))):=a5q fun _ _ _ _ _ _ _ q=>ge_int q
theorem OpR.or{f:Value->Value->Sem Value}{r r':R2}(h:OpR X f r)(h':OpR X f r'):OpR X f (fun x y H Q=>r x y H Q∨r' x y H Q):=by
 intro pins s σ H x y v u Q I rx ry q
 rcases q with q|q
 ·exact h pins s σ H x y v u Q I rx ry q
 ·exact h' pins s σ H x y v u Q I rx ry q
theorem nomark(b:Expr){op:CmpOp}(h:op≠.In:=by decide)(h2:op≠.NotIn:=by decide):behindInMarks op b=false:=by
 have e1:(op==CmpOp.In)=false:=by cases op<;>first|rfl|exact absurd rfl h
 have e2:(op==CmpOp.NotIn)=false:=by cases op<;>first|rfl|exact absurd rfl h2
 cases b<;>simp[behindInMarks,e1,e2]
theorem b3f{op:CmpOp}{r:R2}(ho:OpR X (compareOp op) r)(ha:PE X a ta)(hb:PE X b tb)(hm:behindInMarks op b=false):PE X (.Compare a [op] [b] pos) (tOp r ta tb):=by
 intro pins s σ H Q I h;exact wpAny_Compare1 (a5o ha hb I h fun v u s2 x y H2 I2 rx ry q=>ho pins s2 σ H2 x y v u Q I2 rx ry q) hm
def a8x(t:TE):TT:=fun σ H Q=>t σ H fun x H'=>∃k,x=.bl k/\Q k H'
theorem b3g{op:CmpOp}{r:R2}(ho:OpR X (compareOp op) r)(ha:PE X a ta)(hb:PE X b tb)(hm:behindInMarks op b=false):PT X (.Compare a [op] [b] pos) (a8x (tOp r ta tb)):=by
 intro pins s σ H Q I h;refine wpAny_isTrue_Compare1 (thn (ha pins s σ H _ I h) fun v s1 ⟨x,H1,I1,r1,q1⟩=>thn (hb pins s1 σ H1 _ I1 q1) fun u s2 ⟨y,H2,I2,r2,q2⟩=>
  thn (ho pins s2 σ H2 x y v u _ I2 r1 r2 q2) fun c s3 ⟨z,H3,I3,r3,k,e,q3⟩=>?_) hm
 subst e;cases r3;exact Yz ⟨H3,I3,q3⟩
def a5t(r r':R2)(ta tb tc:TE):TE:=fun σ H Q=>ta σ H fun x H1=>tb σ H1 fun y H2=>r x y H2 fun z H3=>∃k,z=.bl k/\
 (if k=true then tc σ H3 fun w' H4=>r' y w' H4 Q else Q (.bl false) H3)
theorem b3h{op op':CmpOp}{r r':R2}(ho:OpR X (compareOp op) r)(ho':OpR X (compareOp op') r')(ha:PE X a ta)(hb:PE X b tb)(hc:PE X c tc)
  (hm:lastMarks [op,op'] [b,c]=false:=by with_unfolding_all rfl):PE X (.Compare a [op,op'] [b,c] pos) (a5t r r' ta tb tc):=by
 intro pins s σ H Q I h;refine Compare_chain (thn (ha pins s σ H _ I h) fun v s1 ⟨x,H1,I1,r1,q1⟩=>chain_link (thn (hb pins s1 σ H1 _ I1 q1) fun u s2 ⟨y,H2,I2,r2,q2⟩=>
  thn (ho pins s2 σ H2 x y v u _ I2 r1 r2 q2) fun d s3 ⟨z,H3,I3,r3,k,e,q3⟩=>?_)) hm
 subst e;cases r3;refine Yz ?_
 cases k with
 |false=>exact ite_ff ⟨.bl false,H3,I3,rfl,q3⟩
 |true=>exact ite_tt (chain_last (thn (hc pins s3 σ H3 _ I3 q3) fun w' s4 ⟨z',H4,I4,r4,q4⟩=>ho' pins s4 σ H4 y z' u w' Q I4 r2 r4 q4))
theorem b3i{op op':CmpOp}{r r':R2}(ho:OpR X (compareOp op) r)(ho':OpR X (compareOp op') r')(ha:PE X a ta)(hb:PE X b tb)(hc:PE X c tc)
  (hm:lastMarks [op,op'] [b,c]=false:=by with_unfolding_all rfl):PT X (.Compare a [op,op'] [b,c] pos) (a8x (a5t r r' ta tb tc)):=by
 intro pins s σ H Q I h;refine isTrue_chain (thn (ha pins s σ H _ I h) fun v s1 ⟨x,H1,I1,r1,q1⟩=>test_link (thn (hb pins s1 σ H1 _ I1 q1) fun u s2 ⟨y,H2,I2,r2,q2⟩=>
  thn (ho pins s2 σ H2 x y v u _ I2 r1 r2 q2) fun d s3 ⟨z,H3,I3,r3,k,e,q3⟩=>?_)) hm
 subst e;cases r3;refine Yz ?_
 cases k with
 |false=>
  obtain⟨k',e',q'⟩:=q3;cases e';exact ite_ff ⟨H3,I3,q'⟩
 |true=>
  refine ite_tt (test_last (thn (hc pins s3 σ H3 _ I3 q3) fun w' s4 ⟨z',H4,I4,r4,q4⟩=>thn (ho' pins s4 σ H4 y z' u w' _ I4 r2 r4 q4) fun d' s5 ⟨z2,H5,I5,r5,k2,e2,q5⟩=>?_))
  subst e2;cases r5;exact Yz ⟨H5,I5,q5⟩
theorem a3i:(sizeLine:Nat)<2^63:=by rw[sizeLine_eq];decide
theorem a3j{x:V}{us:List Value}(r:q5_ [x] us):∃u,us=[u]/\v2_ x u:=by
 cases r with
 |cons r1 r2=>cases r2;exact⟨_,rfl,r1⟩
theorem a4i{x y:V}{us:List Value}(r:q5_ [x,y] us):∃u w',us=[u,w']/\v2_ x u/\v2_ y w':=by
 cases r with
 |cons r1 r2=>
  cases r2 with
  |cons r3 r4=>cases r4;exact⟨_,_,rfl,r1,r3⟩
theorem b3j(hc:X.calm=true):a0t X (.builtin "max") (fun xs H Q=>∃i j,xs=[.int i,.int j]/\Q (.int (if j>i then j else i)) H):=by
 intro pins s σ H xs us Q I r h;obtain⟨i,j,rfl,q⟩:=h;obtain⟨u,w',rfl,⟨t,rfl⟩,⟨t',rfl⟩⟩:=a4i r;refine max_two_ints (I.ok.hd hc) fun h' tk k=>⟨_,H,I.kept k,?_,q⟩
 by_cases hj:j>i
 ·rw[Qb hj,Qb hj];exact⟨_,rfl⟩
 ·rw[Qw hj,Qw hj];exact⟨_,rfl⟩
theorem b3k(hc:X.calm=true):a0t X (.builtin "min") (fun xs H Q=>∃i j,xs=[.int i,.int j]/\Q (.int (if j<i then j else i)) H):=by
 intro pins s σ H xs us Q I r h;obtain⟨i,j,rfl,q⟩:=h;obtain⟨u,w',rfl,⟨t,rfl⟩,⟨t',rfl⟩⟩:=a4i r;refine min_two_ints (I.ok.hd hc) fun h' tk k=>⟨_,H,I.kept k,?_,q⟩
 by_cases hj:j<i
 ·rw[Qb hj,Qb hj];exact⟨_,rfl⟩
 ·rw[Qw hj,Qw hj];exact⟨_,rfl⟩
end
structure ObjM(h:Heap)(x dx C:Addr)(mA:OU):Prop where
 obj:h.get? x=some (PySem.W.instObj C dx)
 ns:h.Ns1 dx mA
 ne:dx≠x
theorem b3l{h:Heap}{dx:Addr}{mA:OU}(n:h.Ns1 dx mA):∃od,h.get? dx=some od/\∀name,PySem.W.lookIn name od=some (mA name):=by
 obtain⟨o,es,ep,ho,hd,hk,_,hm⟩:=n;refine⟨o,ho,fun name=>?_⟩
 have e:=hm name
 unfold nsFind findBy at e;rw[←Array.find?_toList]at e;unfold PySem.W.lookIn;rw[hd];dsimp only;split
 ·rename_i y q
  rw[q]at e;exact Yh some e
 ·rename_i q
  rw[q]at e;have a:es.toList.any (·.refKey)=false:=by
   rw[List.any_eq_false];intro y hy;obtain⟨z,t,hkey⟩:=hk y (Array.mem_toList_iff.mp hy)
   simp[DictEntry.refKey,hkey]
  have a':¬ es.toList.any (·.refKey)=true:=by rw[a];exact Zk
  rw[Qw a'];exact Yh some e
theorem ObjM.look{h:Heap}{x dx C:Addr}{mA:OU}(I:ObjM h x dx C mA):∃od,PySem.W.InstAt h x (PySem.W.instObj C dx) C (some od)/\∀name,PySem.W.lookIn name od=some (mA name):=
 let ⟨od,ho,hl⟩:=b3l I.ns
 ⟨od,⟨I.obj,rfl,rfl,ho⟩,hl⟩
section
variable{prog:Program}{w:World}{A:Around}{E:OE}{s:Shared}{K:Qq}{x dx C f:Addr}{mA:OU}{name:Str}{v:Value}
end
theorem a0J.some_of{v:V}{o:Option Value}(r:a0J (some v) o):∃u,o=some u/\v2_ v u:=by
 cases o with
 |none=>exact(show False from r).elim
 |some u=>exact⟨u,rfl,r⟩
section
variable{P:Program}{w:World}{H H':Hp}{h h':Heap}{a C dx:Addr}{fs fs':List (Str×V)}
theorem b3m(hok:HOk P w H h)(e:H a=some (.ins C dx fs)):∃mA,ObjM h a dx C mA/\(∀f,a0J (fs.lookup f) (mA f))/\PySem.Within mA (fs.map (·.1))/\fs.length≤1000/\H dx=some (.own a):=by
 obtain⟨d,z,ne,ob,mA,n,r,q⟩:=(show k0_ P w H h a (.ins C dx fs)from hok a _ e)
 exact⟨mA,⟨ob,n,ne⟩,r,q,z,d⟩
end
structure Cls(K:Qq)(C:Addr):Prop where
 pg:PySem.W.plainGet K C Str.empty=true
 hd:PySem.W.hasDictIn K C=true
 po:PySem.W.plainOver K C=true
 sa:PySem.W.findIn K (.ref C) "__setattr__"=some (some (.builtin "object.__setattr__"))
theorem Cls.get{K:Qq}{C:Addr}(c:Cls K C)(f:Str):PySem.W.plainGet K C f=true:=c.pg
structure Con(K:Qq)(C:Addr)(f:Str)(v:V)(u:Value):Prop where
 at_:PySem.W.findIn K (.ref C) f=some (some u)
 rel:v2_ v u
 get:PySem.W.specialIn K u "__get__"=some none
 cp:PySem.W.copiedNames.contains f=false
structure Meth(K:Qq)(C:Addr)(m:Str)(f:Addr):Prop where
 at_:PySem.W.findIn K (.ref C) m=some (some (.ref f))
 fn:PySem.W.isFn K (.ref f)=true
 kp:PySem.W.keepIn K (.ref f)=true
section
variable{X:Cx}{pins:OX}{σ:St}{H:Hp}{s:Shared}{a C dx:Addr}{fs:List (Str×V)}{f:Str}{v:V}{A:Around}{E:OE}
end
section
variable{X:Cx}{o e value:Expr}{f:Str}{pos pos' tpos:Pos}{ta tv:TE}
end
section
variable{X:Cx}{pins:OX}{σ:St}{H:Hp}{s:Shared}{A:Around}{E:OE}{Q:OE}{c:Value}{b:Bool}
inductive TyOf (K:Qq) (H:Hp):V->Value->Prop where
 |non:TyOf K H .non (.type "NoneType")
 |bl (x:Bool):TyOf K H (.bl x) (.type "bool")
 |int (i:Int):TyOf K H (.int i) (.type "int")
 |str (x:Str):TyOf K H (.str x) (.type "str")
 |flt (x:UInt64):TyOf K H (.flt x) (.type "float")
 |lst {a:Addr}{xs:List V}(e:H a=some (.lst xs)):TyOf K H (.ref a) (.type "list")
 |frz {a:Addr}{o:Obj}{xs:List V}(e:H a=some (.frz o (.lst xs))):TyOf K H (.ref a) (.type "list")
 |tup {a:Addr}{xs:List V}(e:H a=some (.tup xs)):TyOf K H (.ref a) (.type "tuple")
 |dK {a:Addr}{kvs:List (Key×V)}(e:H a=some (.dK kvs)):TyOf K H (.ref a) (.type "dict")
 |dT {a:Addr}{C:Addr->List Key->Prop}{kvs:List (List Key×V)}(e:H a=some (.dT C kvs)):TyOf K H (.ref a) (.type "dict")
 |ins {a C dx:Addr}{fs:List (Str×V)}(e:H a=some (.ins C dx fs)) (cl:Cls K C) (ha:PySem.W.findIn K (.ref C) "__class__"=some (some (.builtin "object.__class__")))
   (hn:PySem.W.specialIn K (.builtin "object.__class__") "__get__"=some (some (.builtin "getset_descriptor.__get__"))) (htk:PySem.W.takesIn K (.builtin "object.__class__")=some true)
   (hm:PySem.W.mroIn K C (.type "object")=some true):TyOf K H (.ref a) (.ref C)
theorem a2u{x:V}{u t:Value}(I:Inv X pins σ H s)(rx:v2_ x u)(ty:TyOf X.K H x t)(e:PySem.W.kitOne X.K t c=some b)(h:∀tk,Q (.bool b) {s with toks:=tk}):
  wpAny (model X.prog X.w) A (call (.builtin "isinstance") [u,c]) Q E s:=by
 cases ty with
 |non=>cases (show u=Value.none from rx);exact Qe PySem.W.kitx_none I.kIn True.intro e (fun z=>nomatch z) h
 |bl y=>cases (show u=Value.bool y from rx);exact Qe PySem.W.kitx_bool I.kIn True.intro e (fun z=>nomatch z) h
 |int i=>obtain⟨t,q⟩:=(show∃t,u=Value.int i t from rx);cases q;exact Qe PySem.W.kitx_int I.kIn True.intro e (fun z=>nomatch z) h
 |str y=>obtain⟨t,q⟩:=(show∃t,u=Value.str y t from rx);cases q;exact Qe PySem.W.kitx_str I.kIn True.intro e (fun z=>nomatch z) h
 |flt y=>obtain⟨t,q⟩:=(show∃t,u=Value.float y t from rx);cases q;exact Qe PySem.W.kitx_float I.kIn True.intro e (fun z=>nomatch z) h
 |@lst a xs ea=>
  cases (show u=Value.ref a from rx)
  obtain⟨_,_,n,_,h1⟩:=(show k0_ X.prog X.w H s.heap a (.lst xs)from I.hok a _ ea)
  exact Qe Vo I.kIn ⟨_,h1,rfl⟩ e (fun z=>nomatch z) h
 |@frz a ob xs ea=>
  cases (show u=Value.ref a from rx)
  obtain⟨_,_,_,n,_,h1⟩:=(show k0_ X.prog X.w H s.heap a (.frz ob (.lst xs))from I.hok a _ ea)
  exact Qe Vo I.kIn ⟨_,h1,rfl⟩ e (fun z=>nomatch z) h
 |@tup a xs ea=>
  cases (show u=Value.ref a from rx)
  obtain⟨_,_,_,p⟩:=(show k0_ X.prog X.w H s.heap a (.tup xs)from I.hok a _ ea)
  obtain⟨o,h1,h2,_⟩:=p;exact Qe PySem.W.kitx_tuple I.kIn ⟨o,h1,h2⟩ e (fun z=>nomatch z) h
 |@dK a kvs ea=>
  cases (show u=Value.ref a from rx)
  obtain⟨_,_,vs,_,p⟩:=(show k0_ X.prog X.w H s.heap a (.dK kvs)from I.hok a _ ea)
  obtain⟨o,es,ep,h1,h2,_⟩:=p;exact Qe Ut I.kIn ⟨o,h1,h2.1⟩ e (fun z=>nomatch z) h
 |@dT a C kvs ea=>
  cases (show u=Value.ref a from rx)
  obtain⟨_,_,xs,_,o,es,ep,h1,h2,_⟩:=(show k0_ X.prog X.w H s.heap a (.dT C kvs)from I.hok a _ ea)
  exact Qe Ut I.kIn ⟨o,h1,h2.1⟩ e (fun z=>nomatch z) h
 |@ins a C dx fs ea cl ha hn htk hm=>
  cases (show u=Value.ref a from rx)
  obtain⟨mA,O,_⟩:=b3m I.hok ea;obtain⟨od,J,_⟩:=O.look;exact Qe (PySem.W.kitx_own (cl.get _) cl.hd ha hn htk hm) I.kIn J e (fun z=>nomatch z) h
end
structure Room(k:Nat)(A:Around):Prop where
 hd:A.handled=none
 dp:A.depth+3 * k+5<recursionLimit
 un:A.units+16 * k+200<cLine
theorem Room.mono{j k:Nat}{A:Around}(r:Room k A)(h:j≤k):Room j A:=⟨r.hd,by have:=r.dp;omega,by have:=r.un;omega⟩
theorem Room.deeper{k:Nat}{A:Around}(r:Room (k+1) A)(env:Env):Room k (A.deeper env):=
 ⟨r.hd,by have:=r.dp;show A.depth+1+3 * k+5<_;omega,by have:=r.un;show A.units+3+16 * k+200<_;omega⟩
theorem Room.depth{k:Nat}{A:Around}(r:Room k A):A.depth<recursionLimit:=by have:=r.dp;omega
theorem Room.units{k:Nat}{A:Around}(r:Room k A):A.units+64<cLine:=by have:=r.un;omega
def b3n:TA:=fun _ H Q=>Q [] H
def b3o(ta:TE)(tr:TA):TA:=fun σ H Q=>ta σ H fun x H1=>tr σ H1 fun xs H2=>Q (x::xs) H2
section
variable{X:Cx}{e:Expr}{es:List Expr}{te:TE}{t:TA}{pos:Pos}
theorem a4j:PA X [] b3n:=fun _ _ _ _ H Q I h=>Calls.spliced_nil ⟨[],H,I,.nil,h⟩
theorem a2v(ha:PE X e te)(hr:PA X es t)(hs:starEach (e::es) X.env=(false,eval e X.env)::starEach es X.env:=by rfl):PA X (e::es) (b3o te t):=by
 intro pos pins s σ H Q I h;rw[hs];show wpAny _ _ (spliced ((false,eval e X.env)::backTo pos (starEach es X.env))) _ _ s;refine Calls.spliced_cons (thn (ha pins s σ H _ I h) fun u s1 ⟨x,H1,I1,r1,q1⟩=>?_)
 exact thn (hr pos pins s1 σ H1 _ I1 q1) fun us s2 ⟨xs,H2,I2,r2,q2⟩=>⟨x::xs,H2,I2,.cons r1 r2,q2⟩
def b3p(t:TA):TE:=fun σ H Q=>t σ H fun xs H1=>xs.length≤sizeLine/\∀p,H1 p=none->Q (.ref p) (upd H1 p (.tup xs))
def b3q(t:TA):TE:=fun σ H Q=>t σ H fun xs H1=>xs.length≤sizeLine/\∀p,H1 p=none->Q (.ref p) (upd H1 p (.lst xs))
theorem b3r{x1}(h:PA X es t):PE X (.Tuple es x1 pos) (b3p t):=by
 intro pins s σ H Q I hq;refine wpAny_Tuple_spliced (thn (h pos pins s σ H _ I hq) fun us s1 ⟨xs,H1,I1,r,z,q⟩=>⟨by rw[←r.length];exact z,?_⟩)
 have hf:H1 s1.heap.objs.size=none:=I1.hok.fresh (Qu _)
 refine⟨.ref s1.heap.objs.size,upd H1 s1.heap.objs.size (.tup xs),I1.laid (t':=s1.toks) (fun b u e=>Qx _ e) (Qu _) ?_,rfl,q _ hf⟩
 exact⟨z,us,r,⟨_,Qg _ rfl,rfl,rfl,_,rfl⟩⟩
theorem b3s(h:PA X es t):PE X (.List es pos) (b3q t):=by
 intro pins s σ H Q I hq;refine wpAny_List_spliced (thn (h pos pins s σ H _ I hq) fun us s1 ⟨xs,H1,I1,r,z,q⟩=>⟨by rw[←r.length];exact z,?_⟩)
 have hf:H1 s1.heap.objs.size=none:=I1.hok.fresh (Qu _)
 refine⟨.ref s1.heap.objs.size,upd H1 s1.heap.objs.size (.lst xs),I1.laid (t':=s1.toks) (fun b u e=>Qx _ e) (Qu _) ?_,rfl,q _ hf⟩
 exact⟨z,us,0,r,Qg _ rfl⟩
end
abbrev Sp:=List V->Hp->VK->XK->Prop
abbrev CXT:=List Env->Hp->Shared->XK->OE
structure Env0(P:Program)(w:World)(K:Qq)(mg:OU)(base:Heap)(A:Around)(outer:List Env)(s:Shared)(H:Hp):Prop where
 frames:A.frames=some outer
 mod:Mod K mg base
 bs:∀b o,base.get? b=some o->s.heap.get? b=some o/\H b=none
 bsz:base.objs.size≤s.heap.objs.size
 funs:s.heap.FunFrames base outer
 frf:∀b∈frs outer,H b=none
 hok:HOk P w H s.heap
 bare:AllBare s.gens
def CE(outer:List Env)(P:Program)(w:World)(H:Hp)(s:Shared)(Q:VK)(u:Value)(s':Shared):Prop:=
 ∃v H',s'.os=s.os/\AllBare s'.gens/\Un (frs outer) [] H H' s.heap s'.heap/\HOk P w H' s'.heap/\v2_ v u/\Q v H'
def CR(CX:CXT)(outer:List Env)(P:Program)(w:World)(H:Hp)(s:Shared)(Q:VK)(E:XK)(r:Result)(s':Shared):Prop:=
 match r with
 |.ok (.ret u)=>CE outer P w H s Q u s'
 |.ok _=>False
 |.error e=>CX outer H s E e s'
structure FnOk(P:Program)(w:World)(K:Qq)(mg:OU)(base:Heap)(CX:CXT)(k:Nat)(f:Addr)(fd:FuncData)(ps:List Str)(sp:Sp):Prop where
 len:∀vs H Q E,sp vs H Q E->vs.length=ps.length
 run:∀(A:Around) (outer:List Env) (s:Shared) (H:Hp) (args:Args) (us:List Value) (vs:List V) (Q:VK) (E:XK),Room k A->Env0 P w K mg base A outer s H->BindsTo s fd args (ps.zip us)->q5_ vs us->sp vs H Q E->
  codeAny (model P w) A (.call (.ref f) args) (CR CX outer P w H s Q E) s
section
variable{X:Cx}{pins:OX}{σ:St}{H:Hp}{s s':Shared}
theorem Inv.env0(I:Inv X pins σ H s):Env0 X.prog X.w X.K X.mg X.base X.A X.stack s H:=
 ⟨I.ok.frames,I.ok.mod,I.bs,Zn I.ok.bsz I.sz,I.stack,I.stkFree,I.hok,I.bare⟩
theorem Inv.after{Q:VK}{u:Value}(I:Inv X pins σ H s)(h:CE X.stack X.prog X.w H s Q u s'):EP X pins σ Q u s':=by
 obtain⟨v,H',os,bare,un,hok,r,q⟩:=h;obtain⟨hh,g,d,t,os'⟩:=s';obtain rfl:os'=s.os:=os;exact⟨v,H',I.call (h':=hh) (g':=g) (d':=d) (t':=t) (ch:=[]) un hok bare (fun b z=>absurd z (by simp)),r,q⟩
end
def a5u(sp:Sp)(dvs:List V)(E:XK)(t:TA):TE:=fun σ H Q=>t σ H fun vs H1=>sp (vs++dvs) H1 Q E
def a0u(K:Qq)(fd:FuncData)(ps:List Str)(ds:List Value):Prop:=
 ∀(s:Shared) (us:List Value),K.In s.heap->(us++ds).length=ps.length->BindsTo s fd ⟨us,[]⟩ (ps.zip (us++ds))
theorem a0u.all{K:Qq}{fd:FuncData}{ps:List Str}(h:∀us:List Value,us.length=ps.length->bindArgs fd ⟨us,[]⟩=pure (ps.zip us)):a0u K fd ps []:=fun s us _ hl=>by
 rw[Uw]at hl ⊢;exact .of_eq (h us hl)
def a3k(CX:CXT)(X:Cx)(E:XK):Prop:=∀(pins:OX) (σ:St) (H:Hp) (s:Shared) (e:Value) (s':Shared),Inv X pins σ H s->CX X.stack H s E e s'->X.xe e s'
section
variable{X:Cx}{CX:CXT}{k:Nat}{f C:Addr}{fd:FuncData}{ps:List Str}{sp:Sp}{dvs:List V}{ds:List Value}{E:XK}{x m:Str}{p pos apos:Pos}{e o:Expr}{es:List Expr}{ta:TE}{t:TA}
theorem a8y{pins:OX}{σ:St}{H:Hp}{s:Shared}{Q:VK}{us:List Value}{vs:List V}(F:FnOk X.prog X.w X.K X.mg X.base CX k f fd ps sp)(hr:Room k X.A)(hb:a0u X.K fd ps ds)(hd:q5_ dvs ds)(hx:a3k CX X E)
  (I:Inv X pins σ H s)(r:q5_ vs us)(h:sp (vs++dvs) H Q E):wpAny (model X.prog X.w) X.A (call (.ref f) us) (EP X pins σ Q) X.xe s:=by
 have r2:q5_ (vs++dvs) (us++ds):=r.append hd
 have hl:(us++ds).length=ps.length:=by rw[←r2.length];exact F.len _ _ _ _ h
 refine wpAny_call (codeAny_mono (F.run X.A X.stack s H ⟨us,[]⟩ (us++ds) (vs++dvs) Q E hr I.env0 (hb s us I.kIn hl) r2 h) fun r s' hq=>?_)
 cases r with
 |error e=>exact hx pins σ H s e s' I hq
 |ok fl=>
  cases fl with
  |ret u=>exact I.after hq
  |next=>exact False.elim hq
  |brk=>exact False.elim hq
  |cont=>exact False.elim hq
theorem a8z(F:FnOk X.prog X.w X.K X.mg X.base CX k f fd ps sp)(hr:Room k X.A)(hg:Gl X x)(hm:X.mg x=some (.ref f))(hk:PySem.W.keepIn X.K (.ref f)=true)(hb:a0u X.K fd ps ds)(hd:q5_ dvs ds)(hx:a3k CX X E)
  (ha:PA X (e::es) t)(hdb:(x==("__debug__":Str))=false:=by decide)(he:starEach (e::es) X.env=(false,eval e X.env)::starEach es X.env:=by rfl)(hpl:(backTo pos (starEach es X.env)).any (·.1)=false:=by rfl):
  PE X (.Call (.Name x p) (e::es) [] pos) (a5u sp dvs E t):=by
 intro pins s σ H Q I h;refine Uh (a8n I hg hm ?_ hdb);refine PySem.W.callWith_K (h₀:=X.base) I.ok.mod.kin hk (thn (ha pos pins s σ H _ I h) fun us s1 ⟨vs,H1,I1,r,q⟩=>⟨I1.kIn,?_⟩) he hpl
 exact a8y F hr hb hd hx I1 r q
structure Mk(K:Qq)(C f:Addr):Prop where
 makes:PySem.W.makesIn K C=true
 init:PySem.W.findIn K (.ref C) "__init__"=some (some (.ref f))
 fn:PySem.W.isFn K (.ref f)=true
 kp:PySem.W.keepIn K (.ref C)=true
end
section
variable{X:Cx}{CX:CXT}{k:Nat}{f C:Addr}{fd:FuncData}{ps ks:List Str}{sp:Sp}{E:XK}{x m:Str}{p pos apos kpos:Pos}{e o:Expr}{es:List Expr}{kws:List Keyword}{te ta:TE}{t tk:TA}{nm:Option Str}
structure KBinds(K:Qq)(fd:FuncData)(ps ks:List Str)(g:List Value->List Value->List Value)(gV:List V->List V->List V):Prop where
 to:∀(s:Shared) (us ws:List Value),K.In s.heap->(g us ws).length=ps.length->BindsTo s fd ⟨us,ks.zip ws⟩ (ps.zip (g us ws))
 rel:∀{vs:List V}{us:List Value}{zs:List V}{ws:List Value},q5_ vs us->q5_ zs ws->q5_ (gV vs zs) (g us ws)
variable{g:List Value->List Value->List Value}{gV:List V->List V->List V}
end
structure FnScope(N P:List Str)(sc:Scope):Prop where
 kind:sc.kind=.function
 co:sc.isCoroutine=false
 gen:sc.isGenerator=false
 nd:N.Nodup
 pre:N.take P.length=P
 par:∀x∈P,sc.names.lookup x=some .local∨sc.names.lookup x=some .cell
 nofree:∀y∈sc.names,y.2≠.free
theorem a8A{kindOf:Str->Option NameKind}{x:Str}:∀{binds:List (Str×Value)}{m:OU},(∀v,(x,v)∉binds)->bindL kindOf binds m x=m x
 |[],_,_=>rfl
 |(n,v)::r,m,h=>by
  unfold bindL;rw[a8A fun w hw=>h w (Yu _ hw)]
  split
  ·have:x≠n:=by rintro rfl;exact h v Jg
   simp[this]
  ·rfl
theorem a8B{kindOf:Str->Option NameKind}{x:Str}:∀{binds:List (Str×Value)}{m:OU},(∀v,(x,v)∉binds)->bindC kindOf binds m x=m x
 |[],_,_=>rfl
 |(n,v)::r,m,h=>by
  unfold bindC;rw[a8B fun w hw=>h w (Yu _ hw)]
  split
  ·rfl
  ·have:x≠n:=by rintro rfl;exact h v Jg
   simp[this]
theorem a8C{kindOf:Str->Option NameKind}{x:Str}{v:Value}:∀{P:List Str}{vs:List Value}{i:Nat}{m:OU},P.Nodup->P[i]? =some x->vs[i]? =some v->kindOf x=some .local->
  bindL kindOf (P.zip vs) m x=some v
 |[],_,_,_,_,h,_,_=>by simp at h
 |_::_,[],_,_,_,_,h,_=>by simp at h
 |p::P,w::vs,0,m,nd,h1,h2,hk=>by
  simp at h1 h2;subst h1;subst h2
  show bindL kindOf ((p,w)::P.zip vs) m p=_;unfold bindL;rw[a8A fun v hv=>(Uy.mp nd).1 (Xv hv).1,Qb hk]
  simp
 |p::P,w::vs,i+1,m,nd,h1,h2,hk=>by
  show bindL kindOf ((p,w)::P.zip vs) m x=_;unfold bindL;exact a8C (i:=i) (Uy.mp nd).2 (by simpa using h1) (by simpa using h2) hk
theorem a8D{kindOf:Str->Option NameKind}{x:Str}{v:Value}:∀{P:List Str}{vs:List Value}{i:Nat}{m:OU},P.Nodup->P[i]? =some x->vs[i]? =some v->kindOf x≠some .local->
  bindC kindOf (P.zip vs) m x=some v
 |[],_,_,_,_,h,_,_=>by simp at h
 |_::_,[],_,_,_,_,h,_=>by simp at h
 |p::P,w::vs,0,m,nd,h1,h2,hk=>by
  simp at h1 h2;subst h1;subst h2
  show bindC kindOf ((p,w)::P.zip vs) m p=_;unfold bindC;rw[a8B fun v hv=>(Uy.mp nd).1 (Xv hv).1,Qw hk]
  simp
 |p::P,w::vs,i+1,m,nd,h1,h2,hk=>by
  show bindC kindOf ((p,w)::P.zip vs) m x=_;unfold bindC;exact a8D (i:=i) (Uy.mp nd).2 (by simpa using h1) (by simpa using h2) hk
def start(N:List Str)(vs:List V):St:=vs.map some++List.replicate (N.length-vs.length) none
def a1M(CX:CXT)(P:Program)(w:World)(K:Qq)(mg:OU)(base:Heap)(N:List Str)(qual:Str)(scope:Scope)(f:Addr)(cd:Value)(A:Around)(outer:List Env)(s:Shared)(H:Hp)(E:XK):Cx where
 prog:=P
 w:=w
 K:=K
 mg:=mg
 base:=base
 A:=A.deeper (envOfC qual scope s.heap.objs.size f cd)
 N:=N
 s₀:=s
 H₀:=H
 env:=envOfC qual scope s.heap.objs.size f cd
 outer:=outer
 stack:=envOfC qual scope s.heap.objs.size f cd::outer
 ex:=[]
 calm:=true
 fn:=fun _=>true
 pn:=[]
 xe:=fun e s'=>wpAny (model P w) (A.deeper (envOfC qual scope s.heap.objs.size f cd)) (leaving (envOfC qual scope s.heap.objs.size f cd) e) (fun _ s''=>CX outer H s E e s'') (fun e' s''=>CX outer H s E e' s'') s'
theorem a8E{sc:Scope}{n:Nat}{x:Str}(h:sc.names.lookup x=some .cell):∃c,(cellsFrom n sc.names []).lookup x=some c:=by
 have q:=Jc sc.names n [] (.inl h)
 exact Jv.mp q
theorem b3t{CX:CXT}{P:Program}{w:World}{K:Qq}{mg:OU}{base:Heap}{N ps:List Str}{qual:Str}{scope:Scope}{f:Addr}{cd:Value}{A:Around}{outer:List Env}{s s1:Shared}{H:Hp}{E:XK}{us:List Value}{vs:List V}
  (S:FnScope N ps scope)(hd:A.handled=none)(e0:Env0 P w K mg base A outer s H)(hl:vs.length=ps.length)(r:q5_ vs us)
  (x:InCallC s s.heap.objs.size (bindL (envOfC qual scope s.heap.objs.size f cd).kindOf (ps.zip us) fun _=>none) (cellsFrom (s.heap.objs.size+1) scope.names []) (bindC (envOfC qual scope s.heap.objs.size f cd).kindOf (ps.zip us) fun _=>none) s1):
  Inv (a1M CX P w K mg base N qual scope f cd A outer s H E) [] (start N vs) H s1:=by
 have hpl:ps.length≤N.length:=by have:=Yh List.length S.pre;rw[Vz]at this;omega
 obtain⟨h1,tk,rfl,hk⟩:=x.done;have noA:∀b:Addr,b∉(a1M CX P w K mg base N qual scope f cd A outer s H E).ex:=fun b z=>absurd (show b∈([]:List Addr)from z) (by simp)
 refine⟨⟨e0.mod,S.kind,rfl,rfl,Qu _,fun y z c h1 h2=>?_,fun y hy=>?_,fun y c _ h=>?_,fun _=>hd,Around.frames_deeper e0.frames,.inr ⟨rfl,rfl⟩,fun b z=>absurd z (noA b),e0.bs,e0.bsz,fun b _ _=>noA b,fun b z=>absurd z (noA b),e0.funs,e0.frf⟩,
  rfl,e0.bare,Un.kept hk,⟨_,x.toInCall.ns,fun i y v h1 h2 h3=>?_⟩,fun y c h=>⟨_,x.cell y c h⟩,e0.hok.fresh (Qu _),fun y c h=>?_,fun p hp=>absurd (show p∈([]:OX)from hp) (by simp),e0.hok.kept hk,?_⟩
 ·exact name_of_addr x.apart (Zu h1) (Zu h2)
 ·have hy:scope.names.lookup y=some .cell∨scope.names.lookup y=some .free:=hy
  rcases hy with hy|hy
  ·exact a8E hy
  ·exact absurd rfl (S.nofree _ (Zu hy))
 ·exact Uf (x.above y c (Zu h))
 ·have hi:i<vs.length:=by
   unfold start at h2
   by_cases hi:i<vs.length
   ·exact hi
   ·rw[List.getElem?_append_right (by simpa using hi)]at h2
    rw[Ur]at h2;split at h2<;>cases h2
  have ha:vs[i]? =some v:=by
   unfold start at h2;rw[Yc (by simpa using hi),Zc]at h2
   cases e:vs[i]? with
   |none=>rw[e]at h2;cases h2
   |some a=>rw[e]at h2;cases h2;rfl
  obtain⟨u,hu,rv⟩:=r.get ha;have hp:ps[i]? =some y:=by
   rw[←S.pre,List.getElem?_take_of_lt (by omega)];exact h1
  have ndP:ps.Nodup:=by rw[←S.pre];exact S.nd.sublist (List.take_sublist _ _)
  refine⟨u,rv,?_⟩
  rcases S.par y (Je hp)with k|k
  ·exact .inl ⟨k,a8C ndP hp hu k⟩
  ·obtain⟨c,e⟩:=a8E (n:=s.heap.objs.size+1) k
   refine .inr ⟨.inl k,c,e,?_⟩;have q:=x.cell y c e;rw[a8D ndP hp hu (by show scope.names.lookup y≠_;rw[k];decide)]at q
   exact q
 ·exact e0.hok.fresh (Uf (x.above y c (Zu h)))
 ·unfold start
  show _=N.length;rw[Ql,Qv,Yn]
  omega
theorem b3u{CX:CXT}{P:Program}{w:World}{K:Qq}{mg:OU}{base:Heap}{k:Nat}{f:Addr}{name qual:Str}{params:Arguments}{body:List Stmt}{scope:Scope}{dV kV doc pm cdv ct oc:Value}{an od:Option Addr}
  {osl:Array (Option Value)}{N ps:List Str}{sp:Sp}(lk:K.lookup f=some ⟨oc,od,.func (PySem.W.fnOf name qual params body scope dV kV doc pm an cdv ct),osl⟩)(hcd:PySem.W.codeIn K cdv qual=true)(S:FnScope N ps scope)
  (len:∀vs H Q E,sp vs H Q E->vs.length=ps.length)
  (hbody:∀(A:Around) (outer:List Env) (s:Shared) (H:Hp) (vs:List V) (Q:VK) (E:XK),Room k (A.deeper (envOfC qual scope s.heap.objs.size f cdv))->sp vs H Q E->
   ∃t,PSs (a1M CX P w K mg base N qual scope f cdv A outer s H E) body t/\t {nx:=fun _ H'=>Q .non H',rt:=Q} (start N vs) H):
  FnOk P w K mg base CX (k+1) f (PySem.W.fnOf name qual params body scope dV kV doc pm an cdv ct) ps sp:=by
 refine⟨len,fun A outer s H args us vs Q E hr e0 hb r hsp=>?_⟩
 have hl:=len _ _ _ _ hsp
 have KX:K.In s.heap:=e0.mod.kin.keeps fun b o e=>(e0.bs b o e).1
 have lim:s.heap.NoLimit:=e0.mod.nolimit.keeps fun b o e=>(e0.bs b o e).1
 have hkind:∀y∈ps.zip us,scope.names.lookup y.1=some .local∨(scope.names.lookup y.1=some .cell/\((cellsFrom (s.heap.objs.size+1) scope.names []).lookup y.1).isSome=true):=fun⟨n,v⟩ hy=>by
  rcases S.par n (Xv hy).1 with q|q
  ·exact .inl q
  ·exact .inr ⟨q,Jc _ _ _ (.inl q)⟩
 refine codeAny_call_function hr.depth (KX _ _ lk) rfl S.co S.gen rfl (PySem.W.codeRec_of KX hcd) (hb _ _ _ _ ?_);refine wpAny_newFunctionEnv_cells S.kind hkind fun env he s1 x=>?_
 subst he;refine⟨lim.keeps x.toInCall.keep,codeAny_func ?_⟩;obtain⟨t,ht,hq⟩:=hbody A outer s H vs Q E (hr.deeper _) hsp;have I:Inv (a1M CX P w K mg base N qual scope f cdv A outer s H E) [] (start N vs) H s1:=b3t S hr.hd e0 hl r x;refine Yp (ht [] s1 (start N vs) H _ I hq) (fun fl s' hs=>?_) fun e s' hs=>hs
 have fin:∀{σ':St}{H':Hp}{v:V}{u:Value},Inv (a1M CX P w K mg base N qual scope f cdv A outer s H E) [] σ' H' s'->v2_ v u->Q v H'->CE outer P w H s Q u s':=
  fun{σ' H' v u} J rv q=>⟨v,H',J.os,J.bare,J.base,J.hok,rv,q⟩
 cases fl with
 |ret u=>
  obtain⟨v,σ',H',J,rv,q⟩:=hs;exact fin J rv q
 |next=>
  obtain⟨σ',H',J,q⟩:=hs;exact fin (v:=V.non) (u:=Value.none) J rfl q
 |brk=>
  obtain⟨_,_,_,q⟩:=hs;exact False.elim q
 |cont=>
  obtain⟨_,_,_,q⟩:=hs;exact False.elim q
section
variable{X:Cx}{x:Str}{p pos:Pos}{e:Expr}{es:List Expr}{t:TA}{id T:String}{r:List V->Hp->VK->Prop}
def tCB(r:List V->Hp->VK->Prop)(t:TA):TE:=fun σ H Q=>t σ H fun vs H1=>r vs H1 Q
theorem a5v(hc:a0t X (.builtin id) r)(hg:Gl X x)(hm:X.mg x=none)(hv:bootBuiltins x=some (.builtin id))(ha:PA X (e::es) t)(hn:x≠"__name__":=by decide)(hdb:(x==("__debug__":Str))=false:=by decide)
  (he:starEach (e::es) X.env=(false,eval e X.env)::starEach es X.env:=by rfl)(hpl:(backTo pos (starEach es X.env)).any (·.1)=false:=by rfl):PE X (.Call (.Name x p) (e::es) [] pos) (tCB r t):=by
 intro pins s σ H Q I h;refine Uh (a2r I hg hm hv ?_ hn hdb);exact PyProof.Rows.callWith_builtin1 (thn (ha pos pins s σ H _ I h) fun us s1 ⟨vs,H1,I1,r1,q1⟩=>hc pins s1 σ H1 vs us Q I1 r1 q1) he hpl
theorem b3v(hc:a0t X (.type T) r)(hg:Gl X x)(hm:X.mg x=none)(hv:bootBuiltins x=some (.type T))(ha:PA X (e::es) t)(hn:x≠"__name__":=by decide)(hdb:(x==("__debug__":Str))=false:=by decide)
  (he:starEach (e::es) X.env=(false,eval e X.env)::starEach es X.env:=by rfl)(hpl:(backTo pos (starEach es X.env)).any (·.1)=false:=by rfl):PE X (.Call (.Name x p) (e::es) [] pos) (tCB r t):=by
 intro pins s σ H Q I h;refine Uh (a2r I hg hm hv ?_ hn hdb);exact Yt (thn (ha pos pins s σ H _ I h) fun us s1 ⟨vs,H1,I1,r1,q1⟩=>hc pins s1 σ H1 vs us Q I1 r1 q1) he hpl
end
end L2
namespace HT
open PySem PyProof.Rows
section
open PySem.SeqAt
open PySem.AutoSeq1 (wpAny_loadPart')
open PySem.MeetsSeq PySem.MeetsSeq2 PySem.MeetsSeq3
end
section
variable{prog:Program}{w:World}{A:Around}{E:OE}{s:Shared}
def sIx(n d:Nat):Option Int->Nat
 |none=>d
 |some v=>if v<0 then(v+(n:Int)).toNat else min v.toNat n
theorem sIx_none(n d:Nat):sIx n d none=d:=rfl
theorem sIx_nat(n d k:Nat):sIx n d (some (k:Int))=min k n:=by
 show(if(k:Int)<0 then((k:Int)+(n:Int)).toNat else min (k:Int).toNat n)=min k n
 rw[Qw (by omega),Yj]
theorem sIx_le(n d:Nat)(hd:d≤n)(o:Option Int):sIx n d o≤n:=by
 cases o with
 |none=>exact hd
 |some v=>
  show(if v<0 then(v+(n:Int)).toNat else min v.toNat n)≤n
  by_cases hv:v<0
  ·rw[Qb hv];omega
  ·rw[Qw hv];exact Nat.min_le_right _ _
theorem clip_eq(v:Int)(n d:Nat):(if v<0 then max (v+(n:Int)) 0 else min v (n:Int))=((sIx n d (some v):Nat):Int):=by
 show(if v<0 then max (v+(n:Int)) 0 else min v (n:Int))=(((if v<0 then(v+(n:Int)).toNat else min v.toNat n):Nat):Int)
 by_cases hv:v<0
 ·simp only[Qb hv];omega
 ·simp only[Qw hv];omega
theorem adjust_gen(lo hi:Option Int)(n:Nat):Builtin.Slice.sliceAdjust lo hi 1 (n:Int)=(((sIx n 0 lo:Nat):Int),((sIx n n hi:Nat):Int)):=by
 have h1:¬ ((1:Int)<0):=by omega
 unfold Builtin.Slice.sliceAdjust;simp only[h1,Yx];refine Jk ?_ ?_
 ·cases lo with
  |none=>rfl
  |some v=>exact clip_eq v n 0
 ·cases hi with
  |none=>rfl
  |some v=>exact clip_eq v n n
theorem places_gen(i j:Nat):Builtin.Slice.slicePlaces (i:Int) (j:Int) 1=j-i:=by
 unfold Builtin.Slice.slicePlaces;have h1:(1:Int)>0:=by omega
 simp only[h1,Zs,Int.ediv_one];split<;>omega
theorem slicePart_{v:Value}{o:Option Int}{Q:Option Int->Shared->Prop}(p:IsPart v o)(h:Q o s):wpAny (model prog w) A (Builtin.Slice.slicePartIndex v) Q E s:=by
 cases p with
 |none=>exact slicePart_none h
 |int i t=>exact slicePart_int h
theorem sliceApplied_gen{sl:Addr}{vl vu:Value}{lo hi:Option Int}{n:Nat}{Q:Int×Int×Nat->Shared->Prop}(hs:s.heap.IsSliceOf sl vl vu .none)(pl:IsPart vl lo)(pu:IsPart vu hi)
  (h:Q (((sIx n 0 lo:Nat):Int),1,sIx n n hi-sIx n 0 lo) s):wpAny (model prog w) A (Builtin.Slice.sliceApplied (.ref sl) (pure (n:Int))) Q E s:=by
 obtain⟨os,hos,hcs,hds⟩:=id hs;unfold Builtin.Slice.sliceApplied Builtin.Slice.sliceFields;refine Qz (Qz (Zp hos hds (x:=vl) rfl (Qz (Zp hos hds (x:=vu) rfl (Qz (Zp hos hds (x:=.none) rfl (Qj ?_)))))));refine Qz (slicePart_none ?_);show wpAny _ _ (if((1:Int)==0)=true then _ else _) _ _ s
 rw[Qw (by decide)]
 refine Qz (slicePart_ pl (Qz (slicePart_ pu (Qz (Qj ?_)))));show wpAny _ _ (match Builtin.Slice.sliceAdjust lo hi 1 (n:Int)with|(lo,hi)=>pure (lo,(1:Int),Builtin.Slice.slicePlaces lo hi 1)) _ _ s
 rw[adjust_gen lo hi n];show wpAny _ _ (pure (((sIx n 0 lo:Nat):Int),(1:Int),Builtin.Slice.slicePlaces ((sIx n 0 lo:Nat):Int) ((sIx n n hi:Nat):Int) 1)) _ _ s;rw[places_gen];exact Qj h
theorem pick_gen(xs:Array Value)(i k:Nat):((List.range k).filterMap fun(m:Nat)=>xs[((i:Int)+(m:Int) * 1).toNat]?).toArray=((xs.toList.drop i).take k).toArray:=by
 have e:(fun(m:Nat)=>xs[((i:Int)+(m:Int) * 1).toNat]?)=fun m=>xs[i+m]?:=by
  funext m
  have:((i:Int)+(m:Int) * 1).toNat=i+m:=by omega
  rw[this]
 rw[e];have:=pick_run xs i k;rw[List.filterMap_map]at this;have e2:((fun x=>xs[x]?)∘fun x=>i+x)=fun m=>xs[i+m]?:=rfl
 rw[e2]at this;rw[this]
theorem getItem_tuple_cut{t sl:Addr}{items:Array Value}{vl vu:Value}{lo hi:Option Int}{Q:OE}(ht:IsTup s.heap t items)(hs:s.heap.IsSliceOf sl vl vu .none)(pl:IsPart vl lo)(pu:IsPart vu hi)
  (hw:¬ (sIx items.size 0 lo=0/\sIx items.size items.size hi=items.size))
  (h:Q (.ref s.heap.objs.size) {s with heap:=s.heap.push {cls:=.type "tuple",data:=.seq ((items.toList.drop (sIx items.size 0 lo)).take (sIx items.size items.size hi-sIx items.size 0 lo)).toArray}})
  (hsz:items.size≤sizeLine):wpAny (model prog w) A (getItem (.ref t) (.ref sl)) Q E s:=by
 have htake:sizeOk (.seq ((items.toList.drop (sIx items.size 0 lo)).take (sIx items.size items.size hi-sIx items.size 0 lo)).toArray):=by
  show((items.toList.drop (sIx items.size 0 lo)).take (sIx items.size items.size hi-sIx items.size 0 lo)).toArray.size≤sizeLine;rw[Qn,Vz,List.length_drop,Uj]
  omega
 have hj:sIx items.size items.size hi≤items.size:=sIx_le _ _ (Qu _) hi
 obtain⟨os,hos,hcs,hds⟩:=id hs;have hTs:s.TypeIs (.ref sl) "slice":=⟨os,hos,hcs⟩;unfold getItem
 try with_reducible refine Jb ?_
 first|refine Qz (Qj ?_)|skip
 refine Qz (wpAny_sequenceKey ht.typeIs (by decide) ?_)
 refine Qz (Zg (name:=Str.ofString "__getitem__") ht.typeIs Qt
  (Zo Qt ht.typeIs entry_tuple_getitem ?_ (args_tuple_getitem _ _)))
 show wpAny _ _ (Builtin.Tuple.tupleItemsOf (.ref t)>>=_) _ _ s;refine Qz (tupleItemsOf_ ht ?_);refine Qz (wpAny_typeOf hTs ?_);rw[Qb (by decide)]
 refine Qz (sliceApplied_gen hs pl pu ?_);have hno:¬ ((((sIx items.size 0 lo:Nat):Int)==0&&(1:Int)==1&&(sIx items.size items.size hi-sIx items.size 0 lo)==items.size)=true):=by
  intro q;rw[Qp,Qp]at q;have q1:((sIx items.size 0 lo:Nat):Int)=0:=eq_of_beq q.1.1;have q2:sIx items.size items.size hi-sIx items.size 0 lo=items.size:=eq_of_beq q.2;exact hw ⟨by omega,by omega⟩
 show wpAny _ _ (if(((sIx items.size 0 lo:Nat):Int)==0&&(1:Int)==1&&(sIx items.size items.size hi-sIx items.size 0 lo)==items.size)=true then _ else _) _ _ s
 rw[Qw hno,pick_gen]
 first
  |exact Qz (m:=Builtin.Tuple.tupleExact _) (Qo (Qj ⟨_,rfl,Qj h⟩) htake)
  |exact Qz (m:=Builtin.Tuple.tupleExact _) (Qo (Qz (Qj (Qj ⟨_,rfl,Qj h⟩))) htake)
  |exact Qz (Qz (m:=Builtin.Tuple.tupleExact _) (Qo (Qj (Qj ⟨_,rfl,Qj h⟩)) htake))
  |exact Qz (Qz (m:=Builtin.Tuple.tupleExact _) (Qo (Qj ⟨_,rfl,Qj h⟩) htake))
end
end HT
namespace L2
open PySem PySem.Spec PyProof.Rows
abbrev TO:=St->Hp->(Option Int->Hp->Prop)->Prop
def PO(X:Cx)(e:Option Expr)(t:TO):Prop:=
 ∀(pins:OX) (s:Shared) (σ:St) (H:Hp) (Q:Option Int->Hp->Prop),Inv X pins σ H s->t σ H Q->
  wpAny (model X.prog X.w) X.A (evalPart e X.env) (fun u s'=>∃o H',Inv X pins σ H' s'/\IsPart u o/\Q o H') X.xe s
def b3w:TO:=fun _ H Q=>Q none H
def b3x(t:TE):TO:=fun σ H Q=>t σ H fun x H1=>∃i,x=.int i/\Q (some i) H1
theorem a8F{ns:List Int}:∀{us:List Value},q5_ (ns.map V.int) us->IntsAre us ns:=by
 induction ns with
 |nil=>intro us r;rw[Jt]at r;cases r;exact .nil
 |cons n ns ih=>
  intro us r;rw[Qm]at r;cases r with
  |cons r1 r2=>
   obtain⟨t,e⟩:=r1;subst e;exact .cons n t (ih r2)
section
variable{X:Cx}{e:Expr}{te:TE}{lo hi:Option Expr}{tl th:TO}{pos p2:Pos}
theorem b3y:PO X none b3w:=by
 intro pins s σ H Q I h;rw[evalPart_none];exact Qj ⟨none,H,I,.none,h⟩
theorem b3z(h:PE X e te):PO X (some e) (b3x te):=by
 intro pins s σ H Q I hw;rw[evalPart_some];refine thn (h pins s σ H _ I hw) fun u s1 ⟨x,H1,I1,r1,q1⟩=>?_
 obtain⟨i,rfl,q⟩:=q1;obtain⟨t,rfl⟩:=r1;exact⟨some i,H1,I1,.int i t,q⟩
def SlR(X:Cx)(r:V->Option Int->Option Int->Hp->VK->Prop):Prop:=
 ∀(pins:OX) (s:Shared) (σ:St) (H:Hp) (x:V) (v vl vu:Value) (lo hi:Option Int) (sl:Addr) (Q:VK),Inv X pins σ H s->v2_ x v->s.heap.IsSliceOf sl vl vu .none->IsPart vl lo->IsPart vu hi->r x lo hi H Q->
  ∃T id,typeLookup (.type T) "__getitem__"=pure (some (.builtin id))/\s.TypeIs v T/\wpAny (model X.prog X.w) X.A (getItem v (.ref sl)) (EP X pins σ Q) X.xe s
def tSl(r:V->Option Int->Option Int->Hp->VK->Prop)(te:TE)(tl th:TO):TE:=fun σ H Q=>te σ H fun x H1=>tl σ H1 fun l H2=>th σ H2 fun u H3=>r x l u H3 Q
theorem b3A{r:V->Option Int->Option Int->Hp->VK->Prop}(hr:SlR X r)(he:PE X e te)(hl:PO X lo tl)(hu:PO X hi th):PE X (.Subscript e (.Slice lo hi none p2) pos) (tSl r te tl th):=by
 intro pins s σ H Q I h;refine Subscript_ (thn (he pins s σ H _ I h) fun v s1 ⟨x,H1,I1,r1,q1⟩=>?_)
 refine wpAny_Slice (thn (hl pins s1 σ H1 _ I1 q1) fun vl s2 ⟨l,H2,I2,pl,q2⟩=>thn (hu pins s2 σ H2 _ I2 q2) fun vu s3 ⟨u,H3,I3,pu,q3⟩=>?_)
 rw[evalPart_none];refine Qj ?_
 have I4:Inv X pins σ H3 {s3 with heap:=s3.heap.push {cls:=.type "slice",data:=.fields #[vl,vu,.none]}}:=I3.kept (t':=s3.toks) fun b ob q=>Qx _ q
 obtain⟨T,id,hT,ht,hg⟩:=hr pins {s3 with heap:=s3.heap.push {cls:=.type "slice",data:=.fields #[vl,vu,.none]}} σ H3 x v vl vu l u s3.heap.objs.size Q I4 r1 (Heap.IsSliceOf.new ..) pl pu q3
 show wpAny (model X.prog X.w) X.A (subscriptTail e (.Slice lo hi none p2) v (.ref s3.heap.objs.size)) (EP X pins σ Q) X.xe {s3 with heap:=s3.heap.push {cls:=.type "slice",data:=.fields #[vl,vu,.none]}}
 exact tail_any (ops:=[.ref s3.heap.objs.size,v]) ht hT hg (by with_unfolding_all rfl)
def a0V(xs:List V)(lo hi:Option Int):List V:=(xs.drop (HT.sIx xs.length 0 lo)).take (HT.sIx xs.length xs.length hi-HT.sIx xs.length 0 lo)
theorem a8G(xs:List V)(lo hi:Option Int):(a0V xs lo hi).length≤xs.length:=by
 unfold a0V;rw[Vz,List.length_drop]
 omega
def b3B(K:Qq):V->Option Int->Option Int->Hp->VK->Prop:=fun x lo hi H Q=>∃a xs,x=.ref a/\SqT K H a xs/\
 ¬ (HT.sIx xs.length 0 lo=0/\HT.sIx xs.length xs.length hi=xs.length)/\∀p,H p=none->Q (.ref p) (upd H p (.tup (a0V xs lo hi)))
theorem a5w:SlR X (b3B X.K):=by
 intro pins s σ H x v vl vu lo hi sl Q I rx hs pl pu h;obtain⟨a,xs,rfl,hx,hw,q⟩:=h;cases rx;obtain⟨its,r,ht,hz⟩:=I.tuple hx;have hlen:its.toArray.size=xs.length:=by rw[Qn];exact r.length.symm
 refine⟨"tuple",_,Qt.lookup,ht.typeIs,?_⟩;refine HT.getItem_tuple_cut ht hs pl pu (by rw[hlen];exact hw) ?_ (by rw[hlen];exact hz)
 rw[hlen];refine⟨.ref s.heap.objs.size,_,I.laid (t':=s.toks) (o:=.tup (a0V xs lo hi)) (fun b ob q=>Qx _ q) (Qu _) ?_,rfl,q _ (I.hok.fresh (Qu _))⟩
 exact⟨Zn (a8G xs lo hi) hz,_,(r.drop (HT.sIx xs.length 0 lo)).take (HT.sIx xs.length xs.length hi-HT.sIx xs.length 0 lo),a0l.new _ _⟩
theorem q5_.nil_iff{xs:List V}{us:List Value}(r:q5_ xs us):us=[]↔xs=[]:=by
 cases r with
 |nil=>simp
 |cons _ _=>simp
end
def ixN(n:Nat)(i:Int):Option Nat:=if 0≤i then(if i<n then some i.toNat else none)else if-(n:Int)≤i then some (i+n).toNat else none
def atI{α:Type}(xs:List α)(i:Int):Option α:=(ixN xs.length i).bind fun j=>xs[j]?
theorem a8H{n:Nat}{i:Int}{j:Nat}(h:ixN n i=some j):seqIndex? i n=some j/\j<n/\ -(n:Int)≤i/\i<n:=by
 unfold ixN at h
 by_cases h0:0≤i
 ·rw[Qb h0]at h
  by_cases h1:i<n
  ·rw[Qb h1]at h
   have e:i.toNat=j:=Zw h
   exact⟨by rw[seqIndex_of h0 h1,e],by omega,by omega,h1⟩
  ·rw[Qw h1]at h;cases h
 ·rw[Qw h0]at h
  by_cases h1: -(n:Int)≤i
  ·rw[Qb h1]at h
   have e:(i+n).toNat=j:=Zw h
   exact⟨by rw[seqIndex_neg (by omega) h1,e],by omega,h1,by omega⟩
  ·rw[Qw h1]at h;cases h
theorem a5x{α:Type}{xs:List α}{i:Int}{v:α}(h:atI xs i=some v):∃j,seqIndex? i xs.length=some j/\xs[j]? =some v/\j<xs.length/\ -(xs.length:Int)≤i/\i<xs.length:=by
 unfold atI at h;cases e:ixN xs.length i with
 |none=>rw[e]at h;cases h
 |some j=>
  rw[e]at h;obtain⟨h1,h2,h3,h4⟩:=a8H e;exact⟨j,h1,h,h2,h3,h4⟩
theorem a1N{α:Type}{xs:List α}{j:Nat}{v:α}(h:xs[j]? =some v):atI xs (j:Int)=some v:=by
 have hj:j<xs.length:=(Qy.mp h).1
 have e:ixN xs.length (j:Int)=some j:=by
  unfold ixN;rw[Qb (by omega),Qb (by omega)];simp
 unfold atI;rw[e];exact h
theorem a8I{α:Type}(xs:List α)(v:α):atI (xs++[v]) (-1)=some v:=by
 have hl:(xs++[v]).length=xs.length+1:=by simp
 have e:ixN (xs++[v]).length (-1)=some xs.length:=by
  unfold ixN;rw[hl,Qw (by decide),Qb (by omega)]
  congr 1
  omega
 unfold atI;rw[e];show(xs++[v])[xs.length]? =some v
 simp
def a4k(b:Expr):Prop:=∀o i,subscripted b false o i=operate [o,i] (getItem o i)
def IxR(X:Cx)(r:R2):Prop:=
 ∀(value slice:Expr) (pins:OX) (s:Shared) (σ:St) (H:Hp) (x y:V) (v u:Value) (Q:VK),Inv X pins σ H s->v2_ x v->v2_ y u->r x y H Q->
  subscripted slice false v u=operate [v,u] (getItem v u)->wpAny (model X.prog X.w) X.A (subscriptTail value slice v u) (EP X pins σ Q) X.xe s
def MtR(X:Cx)(id:String)(r:V->List V->Hp->VK->Prop):Prop:=
 ∀(pins:OX) (s:Shared) (σ:St) (H:Hp) (x:V) (xs:List V) (v:Value) (us:List Value) (Q:VK),Inv X pins σ H s->v2_ x v->q5_ xs us->r x xs H Q->
  wpAny (model X.prog X.w) X.A (call (.builtin id) (v::us)) (EP X pins σ Q) X.xe s
section
variable{X:Cx}{a b:Expr}{ta tb:TE}{pos:Pos}
theorem IxR.or{r r':R2}(h:IxR X r)(h':IxR X r'):IxR X (fun x y H Q=>r x y H Q∨r' x y H Q):=by
 intro value slice pins s σ H x y v u Q I rx ry q hs
 rcases q with q|q
 ·exact h value slice pins s σ H x y v u Q I rx ry q hs
 ·exact h' value slice pins s σ H x y v u Q I rx ry q hs
theorem a8J{r:R2}(hr:IxR X r)(ha:PE X a ta)(hb:PE X b tb)(hs:a4k b):PE X (.Subscript a b pos) (tOp r ta tb):=by
 intro pins s σ H Q I h;exact Subscript_ (a5o ha hb I h fun v u s2 x y H2 I2 rx ry q=>hr a b pins s2 σ H2 x y v u Q I2 rx ry q (hs _ _))
def a8K(K:Qq):R2:=fun x y H Q=>∃p xs i v,x=.ref p/\y=.int i/\SqL K H p xs/\atI xs i=some v/\Q v H
def a8L(K:Qq):R2:=fun x y H Q=>∃p xs i v,x=.ref p/\y=.int i/\SqT K H p xs/\atI xs i=some v/\Q v H
def a8M:R2:=fun x y H Q=>∃z i c,x=.str z/\y=.int i/\z.length≤sizeLine/\atI z.cps.toList i=some c/\Q (.str ⟨#[c]⟩) H
theorem a8N:IxR X (a8K X.K):=by
 intro value slice pins s σ H x y v u Q I rx ry h hs;obtain⟨p,xs,i,z,rfl,rfl,hq,he,q⟩:=h;cases rx;obtain⟨t,rfl⟩:=ry;obtain⟨its,r,pl,hz⟩:=I.list hq;obtain⟨j,h1,h2,h3,h4,h5⟩:=a5x he;obtain⟨w,ew,rw'⟩:=r.get h2;have hl:=r.length;have hn:=a3i;have fin:EP X pins σ Q w s:=⟨z,H,I,rw',q⟩
 by_cases h0:0≤i
 ·have hj:i.toNat=j:=by
   rw[seqIndex_of h0 h5]at h1;exact Zw h1
  exact item_listR pl.isList h0 (by omega) (by rw[hj];simpa using ew) fin hs
 ·have hj:(i+(its.toArray.size:Int)).toNat=j:=by
   rw[seqIndex_neg (by omega) h4]at h1
   rw[Qn,←hl];exact Zw h1
  exact subscriptTail_builtinR (x:=w) pl.isList.typeIs slot_list_getitem.lookup
   (wpAny_getItem_list_neg (Q:=fun r s'=>r=w/\EP X pins σ Q r s') pl.isList (by omega) (by rw[Qn]<;>omega) (by omega) (by rw[hj];simpa using ew) ⟨rfl,fin⟩) hs
theorem b3C:IxR X (a8L X.K):=by
 intro value slice pins s σ H x y v u Q I rx ry h hs;obtain⟨p,xs,i,z,rfl,rfl,hq,he,q⟩:=h;cases rx;obtain⟨t,rfl⟩:=ry;obtain⟨its,r,pl,hz⟩:=I.tuple hq;obtain⟨j,h1,h2,h3,h4,h5⟩:=a5x he;obtain⟨w,ew,rw'⟩:=r.get h2;have hl:=r.length;have hn:=a3i;have fin:EP X pins σ Q w s:=⟨z,H,I,rw',q⟩;exact subscriptTail_builtinR (x:=w) pl.typeIs slot_tuple_getitem.lookup
  (getItem_tuple (j:=j) (Q:=fun r s'=>r=w/\EP X pins σ Q r s') pl (by omega) (by omega) (by rw[Qn,←hl];exact h1) (by simpa using ew) ⟨rfl,fin⟩) hs
theorem b3D:IxR X a8M:=by
 intro value slice pins s σ H x y v u Q I rx ry h hs;obtain⟨z,i,c,rfl,rfl,hz,he,q⟩:=h;obtain⟨t,rfl⟩:=rx;obtain⟨t',rfl⟩:=ry;obtain⟨j,h1,h2,h3,h4,h5⟩:=a5x he;have hl:z.cps.toList.length=z.length:=by simp[Str.length]
 rw[hl]at h1 h4 h5;have hn:=a3i;exact tail_any (typeIs_str s z t) slot_str_getitem.lookup (getItem_str (c:=c) (by
  have e1:decide (i< -(2^63:Int))=false:=Zz (by omega)
  have e2:decide (i ≥ 2^63)=false:=Zz (by omega)
  rw[e1,e2,Bool.or_false]) (by rw[h1];simpa using h2) ⟨.str ⟨#[c]⟩,H,I.tok _,⟨_,rfl⟩,q⟩) hs
def rIx(K:Qq):R2:=fun x y H Q=>a8K K x y H Q∨a8L K x y H Q∨a8M x y H Q
theorem b3E:IxR X (rIx X.K):=a8N.or (b3C.or b3D)
theorem b3F(its:List Value)(n j:Nat)(u:Value):Obj.mapSeq (·.setIfInBounds j u) {cls:=.type "list",data:=.seq its.toArray n}={cls:=.type "list",data:=.seq (its.set j u).toArray n}:=by
 simp[Obj.mapSeq]
theorem Inv.lst{pins:OX}{σ:St}{H:Hp}{s:Shared}{p:Addr}{xs:List V}(I:Inv X pins σ H s)(h:H p=some (.lst xs)):
  ∃(its:List Value) (n:Nat),q5_ xs its/\s.heap.get? p=some {cls:=.type "list",data:=.seq its.toArray n}/\xs.length≤sizeLine:=by
 obtain⟨z,its,n,r,e⟩:=I.hok p _ h;exact⟨its,n,r,e,z⟩
theorem Inv.lstUpd{pins:OX}{σ:St}{H:Hp}{s:Shared}{p:Addr}{xs ys:List V}{its its':List Value}{n n':Nat}{f:Obj->Obj}(I:Inv X pins σ H s)(h:H p=some (.lst xs))
  (ho:s.heap.get? p=some {cls:=.type "list",data:=.seq its.toArray n})(hf:f {cls:=.type "list",data:=.seq its.toArray n}={cls:=.type "list",data:=.seq its'.toArray n'})(r:q5_ ys its')(hz:ys.length≤sizeLine)(t:Nat):
  Inv X pins σ (upd H p (.lst ys)) {s with heap:=s.heap.update p f,toks:=t}:=by
 have e:(s.heap.update p f).get? p=some {cls:=.type "list",data:=.seq its'.toArray n'}:=by
  rw[Vv f ho (by rw[hf]<;>rfl),hf]
 refine I.write (x:=p) (e:=p) (by rw[h];trivial) (.inl rfl) (fun b u hb q=>(Heap.get?_update_other _ _ (Zh hb)).trans q) ⟨_,e⟩ ?_
 exact⟨hz,its',n',r,e⟩
def b3G:V->V->V->Hp->(Hp->Prop)->Prop:=fun o i v H Q=>∃p xs k j,o=.ref p/\i=.int k/\H p=some (.lst xs)/\ixN xs.length k=some j/\Q (upd H p (.lst (xs.set j v)))
theorem b3H:a5j X b3G:=by
 intro pins s σ H o i v ov iv u Q I ro ri rv h;obtain⟨p,xs,k,j,rfl,rfl,hp,hj,q⟩:=h;cases ro;obtain⟨t,rfl⟩:=ri;obtain⟨its,n,r,ho,hz⟩:=I.lst hp;obtain⟨h1,h2,h3,h4⟩:=a8H hj;have hl:=r.length;have hn:=a3i;have I':Inv X pins σ (upd H p (.lst (xs.set j v))) {s with heap:=s.heap.update p (Obj.mapSeq (·.setIfInBounds j u))}:=
  I.lstUpd hp ho (b3F its n j u) (r.set rv j) (by rw[Zl];exact hz) s.toks
 by_cases h0:0≤k
 ·have hk:k.toNat=j:=by
   rw[seqIndex_of h0 h4]at h1;exact Zw h1
  exact PySem.W.ki_setAt ho h0 (by omega) (by rw[Qn,←hl];exact h4) (by rw[hk];exact⟨_,I',q⟩)
 ·have hk:(k+(its.toArray.size:Int)).toNat=j:=by
   rw[seqIndex_neg (by omega) h3]at h1
   rw[Qn,←hl];exact Zw h1
  exact PySem.W.ki_setBack ho (by omega) (by rw[Qn,←hl];exact h3) (by omega) (by rw[hk];exact⟨_,I',q⟩)
theorem b3I(lo hi:Option Int)(n:Nat):(sliceBounds lo hi none n).1=((HT.sIx n 0 lo:Nat):Int)/\(sliceBounds lo hi none n).2.1=((HT.sIx n n hi:Nat):Int)/\(sliceBounds lo hi none n).2.2=1:=by
 refine⟨?_,?_,rfl⟩
 ·cases lo with
  |none=>simp[sliceBounds,HT.sIx]
  |some i=>
   simp only[sliceBounds,HT.sIx,Option.getD_none,show(1:Int)>0 by decide,Zs]
   by_cases h:i<0
   ·simp only[h,Zs]<;>omega
   ·simp only[h,Yx]<;>omega
 ·cases hi with
  |none=>simp[sliceBounds,HT.sIx]
  |some i=>
   simp only[sliceBounds,HT.sIx,Option.getD_none,show(1:Int)>0 by decide,Zs]
   by_cases h:i<0
   ·simp only[h,Zs]<;>omega
   ·simp only[h,Yx]<;>omega
theorem b3J(its:List Value)(lo hi:Option Int):slicePick its.toArray lo hi none=((its.drop (HT.sIx its.length 0 lo)).take (HT.sIx its.length its.length hi-HT.sIx its.length 0 lo)).toArray:=by
 obtain⟨h1,h2,h3⟩:=b3I lo hi its.toArray.size;unfold slicePick;rw[h1,h2,h3];simp only[sliceRange_one,pick_run,Qn]<;>rfl
def b3K(K:Qq):V->Option Int->Option Int->Hp->VK->Prop:=fun x lo hi H Q=>∃a xs,x=.ref a/\SqL K H a xs/\∀p,H p=none->Q (.ref p) (upd H p (.lst (a0V xs lo hi)))
theorem c0a:SlR X (b3K X.K):=by
 intro pins s σ H x v vl vu lo hi sl Q I rx hs pl pu h;obtain⟨a,xs,rfl,hx,q⟩:=h;cases rx;obtain⟨its,r,ht,hz⟩:=I.list hx;have hlen:=r.length;refine⟨"list",_,slot_list_getitem.lookup,ht.isList.typeIs,?_⟩;refine wpAny_getItem_list_slice ht.isList hs pl pu .none (by simp) ?_ (by rw[Qn]<;>omega)
 rw[b3J,←hlen];refine⟨.ref s.heap.objs.size,_,I.laid (t':=s.toks) (o:=.lst (a0V xs lo hi)) (fun b ob q=>Qx _ q) (Qu _) ?_,rfl,q _ (I.hok.fresh (Qu _))⟩
 exact⟨Zn (a8G xs lo hi) hz,_,0,(r.drop (HT.sIx xs.length 0 lo)).take (HT.sIx xs.length xs.length hi-HT.sIx xs.length 0 lo),Qg _ rfl⟩
def a0K:V->Bool
 |.non=>true
 |.bl _=>true
 |.int _=>true
 |.str _=>true
 |_=>false
def eqV:V->V->Bool
 |.non,.non=>true
 |.bl a,.bl b=>a==b
 |.bl a,.int b=>(if a then 1 else 0)==b
 |.int a,.bl b=>a==(if b then 1 else 0)
 |.int a,.int b=>a==b
 |.str a,.str b=>a==b
 |_,_=>false
theorem b3L{A:Around}{s:Shared}{y x:V}{u v:Value}(ry:v2_ y u)(rx:v2_ x v)(fy:a0K y=true)(fx:a0K x=true):SeqAt.EqAt A s u v (eqV y x):=by
 cases y with
 |non=>
  cases ry;cases x with
  |non=>cases rx;exact SeqAt.EqAt.same _
  |bl b=>cases rx;exact SeqAt.EqAt.none_bool b
  |int b=>obtain⟨t,rfl⟩:=rx;exact SeqAt.EqAt.none_int b t
  |str b=>obtain⟨t,rfl⟩:=rx;exact SeqAt.EqAt.none_str b t
  |_=>exact absurd (show false=true from fx) Zk
 |bl a=>
  cases ry;cases x with
  |non=>cases rx;exact SeqAt.EqAt.bool_none a
  |bl b=>cases rx;exact SeqAt.EqAt.bool_bool a b
  |int b=>obtain⟨t,rfl⟩:=rx;exact SeqAt.EqAt.bool_int a b t
  |str b=>obtain⟨t,rfl⟩:=rx;exact SeqAt.EqAt.bool_str a b t
  |_=>exact absurd (show false=true from fx) Zk
 |int a=>
  obtain⟨t',rfl⟩:=ry;cases x with
  |non=>cases rx;exact SeqAt.EqAt.int_none a t'
  |bl b=>cases rx;exact SeqAt.EqAt.int_bool a t' b
  |int b=>obtain⟨t,rfl⟩:=rx;exact SeqAt.EqAt.int_int a t' b t
  |str b=>obtain⟨t,rfl⟩:=rx;exact SeqAt.EqAt.int_str a t' b t
  |_=>exact absurd (show false=true from fx) Zk
 |str a=>
  obtain⟨t',rfl⟩:=ry;cases x with
  |non=>cases rx;exact SeqAt.EqAt.str_none a t'
  |bl b=>cases rx;exact SeqAt.EqAt.str_bool a t' b
  |int b=>obtain⟨t,rfl⟩:=rx;exact SeqAt.EqAt.str_int a t' b t
  |str b=>obtain⟨t,rfl⟩:=rx;exact SeqAt.EqAt.str_str a t' b t
  |_=>exact absurd (show false=true from fx) Zk
 |_=>exact absurd (show false=true from fy) Zk
def eqU(x:V)(u:Value):Bool:=match u with
 |.none=>eqV .non x
 |.bool b=>eqV (.bl b) x
 |.int i _=>eqV (.int i) x
 |.str z _=>eqV (.str z) x
 |_=>false
theorem a8O{x y:V}{u:Value}(r:v2_ y u)(f:a0K y=true):eqU x u=eqV y x:=by
 cases y with
 |non=>cases r;rfl
 |bl b=>cases r;rfl
 |int i=>obtain⟨t,rfl⟩:=r;rfl
 |str z=>obtain⟨t,rfl⟩:=r;rfl
 |_=>exact absurd (show false=true from f) Zk
theorem a5y{x:V}:∀{xs:List V}{us:List Value},q5_ xs us->xs.all a0K=true->us.any (eqU x)=xs.any fun y=>eqV y x
 |_,_,.nil,_=>rfl
 |y::xs,u::us,.cons r t,f=>by
  rw[Vs,Qp]at f;rw[Vi,Vi,a8O r f.1,a5y t f.2]
theorem a5z{A:Around}{s:Shared}{x:V}{v:Value}(rx:v2_ x v)(fx:a0K x=true):∀{xs:List V}{us:List Value},q5_ xs us->xs.all a0K=true->∀u∈us,SeqAt.EqAt A s u v (eqU x u)
 |_,_,.nil,_=>fun u hu=>by cases hu
 |y::xs,u::us,.cons r t,f=>fun u' hu=>by
  rw[Vs,Qp]at f
  rcases Qr.mp hu with rfl|hu
  ·rw[a8O r f.1];exact b3L r rx f.1 fx
  ·exact a5z rx fx t f.2 u' hu
def inV(x:V)(xs:List V):Bool:=xs.any fun y=>eqV y x
def rIn(K:Qq)(neg:Bool):R2:=fun x y H Q=>∃p xs,y=.ref p/\(SqL K H p xs∨SqT K H p xs)/\a0K x=true/\xs.all a0K=true/\Q (.bl (if neg then !inV x xs else inV x xs)) H
theorem b3M:OpR X (compareOp .NotIn) (rIn X.K true):=by
 intro pins s σ H x y v u Q I rx ry h;obtain⟨p,xs,rfl,hq,fx,fs,q⟩:=h;cases ry
 rcases hq with hq|hq
 ·obtain⟨its,r,pl,hz⟩:=I.list hq
  refine SeqAt.notIn_listAt (eqU x) pl.isList (fun w hw=>a5z rx fx r fs w (by simpa using hw)) ⟨.bl _,H,I,rfl,?_⟩
  rw[show its.toArray.any (eqU x)=its.any (eqU x) by simp,a5y r fs]
  exact q
 ·obtain⟨its,r,pl,hz⟩:=I.tuple hq
  refine SeqAt.notIn_tupleAt (eqU x) pl (fun w hw=>a5z rx fx r fs w (by simpa using hw)) ⟨.bl _,H,I,rfl,?_⟩
  rw[show its.toArray.any (eqU x)=its.any (eqU x) by simp,a5y r fs]
  exact q
theorem j4_:a0t X (.builtin "len") (fun xs H Q=>∃p ys,xs=[.ref p]/\(SqL X.K H p ys∨SqT X.K H p ys)/\Q (.int ys.length) H):=by
 intro pins s σ H xs us Q I r h;obtain⟨p,ys,rfl,hq,q⟩:=h;obtain⟨u,rfl,rx⟩:=a3j r;cases rx;have hn:=a3i
 rcases hq with hq|hq
 ·obtain⟨its,r',pl,hz⟩:=I.list hq
  have hlen:=r'.length
  exact Calls.call_len_list pl.isList (by simp only[Qn]<;>omega) ⟨.int ys.length,H,I.tok _,⟨s.toks+1,by rw[Qn,hlen]⟩,q⟩
 ·obtain⟨its,r',pl,hz⟩:=I.tuple hq
  have hlen:=r'.length
  exact len_tuple pl (by simp only[Qn]<;>omega) ⟨.int ys.length,H,I.tok _,⟨s.toks+1,by rw[Qn,hlen]⟩,q⟩
theorem a0A:a0t X (.type "tuple") (fun xs H Q=>∃p ys,xs=[.ref p]/\((SqL X.K H p ys/\∀l,H l=none->Q (.ref l) (upd H l (.tup ys)))∨(SqT X.K H p ys/\Q (.ref p) H))):=by
 intro pins s σ H xs us Q I r h;obtain⟨p,ys,rfl,h⟩:=h;obtain⟨u,rfl,rx⟩:=a3j r;cases rx
 rcases h with⟨hq,q⟩|⟨hq,q⟩
 ·obtain⟨its,r',pl,hz⟩:=I.list hq
  have hlen:=r'.length
  refine call_tuple_list pl.isList (fun h' kp=>?_) (by simp only[Qn]<;>omega)
  have I1:Inv X pins σ H {s with heap:=h'}:=I.kept (t':=s.toks) kp
  have I2:Inv X pins σ (upd H h'.objs.size (.tup ys)) {s with heap:=h'.push {cls:=.type "tuple",data:=.seq its.toArray}}:=
   I1.laid (t':=s.toks) (fun b o e=>Qx _ e) (Qu _) (show k0_ X.prog X.w _ _ _ (.tup ys)from⟨hz,its,r',a0l.new _ _⟩)
  exact⟨.ref h'.objs.size,_,I2,rfl,q _ (I1.hok.fresh (Qu _))⟩
 ·obtain⟨its,r',pl,hz⟩:=I.tuple hq
  exact call_tuple_same pl ⟨.ref p,H,I,rfl,q⟩
def tyV(K:Qq)(T:String)(x:V)(H:Hp):Prop:=match x with
 |.str _=>T="str"
 |.int _=>T="int"
 |.ref p=>(T="list"/\ ∃xs,SqL K H p xs)∨(T="tuple"/\ ∃o,K.lookup p=some o/\o.cls=.type "tuple"/\o.dict=none)∨
   (T="dict"/\((∃kvs,H p=some (.dK kvs))∨ ∃C kvs,H p=some (.dT C kvs)))∨(T="set"/\ ∃S n,H p=some (.set S n))
 |_=>False
theorem a8P{pins:OX}{σ:St}{H:Hp}{s:Shared}{T:String}{x:V}{v:Value}(I:Inv X pins σ H s)(r:v2_ x v)(ty:tyV X.K T x H):
  s.TypeIs v T/\∀a,v=.ref a->∃ob,s.heap.get? a=some ob/\ob.dict=none:=by
 cases x with
 |str z=>
  obtain⟨t,rfl⟩:=r;cases (show T="str" from ty)
  exact⟨typeIs_str s z t,fun _ e=>nomatch e⟩
 |int i=>
  obtain⟨t,rfl⟩:=r;cases (show T="int" from ty)
  exact⟨typeIs_int s i t,fun _ e=>nomatch e⟩
 |ref p=>
  cases r
  rcases ty with⟨rfl,xs,hq⟩|⟨rfl,o,hk,hc,hd⟩|⟨rfl,hk⟩|⟨rfl,S,n,hk⟩
  ·obtain⟨its,_,pl,_⟩:=I.list hq
   refine⟨pl.isList.typeIs,fun a e=>?_⟩
   cases e;obtain⟨o,n,e,c,hd,_⟩:=pl;exact⟨o,e,hd⟩
  ·refine⟨⟨o,I.kIn p o hk,hc⟩,fun a e=>?_⟩
   cases e;exact⟨o,I.kIn _ o hk,hd⟩
  ·have z:∃o,s.heap.get? p=some o/\o.ExactDict:=by
    rcases hk with⟨kvs,hk⟩|⟨C,kvs,hk⟩
    ·obtain⟨_,_,_,_,o,_,_,e,ex,_⟩:=I.hok p _ hk
     exact⟨o,e,ex⟩
    ·obtain⟨_,_,_,_,o,_,_,e,ex,_⟩:=I.hok p _ hk
     exact⟨o,e,ex⟩
   obtain⟨o,e,ex⟩:=z;refine⟨⟨o,e,ex.1⟩,fun a e2=>?_⟩
   cases e2;exact⟨o,e,ex.2.1⟩
  ·obtain⟨o,_,_,_,e,ex,_⟩:=I.hok p _ hk
   refine⟨⟨o,e,ex.1⟩,fun a e2=>?_⟩
   cases e2;exact⟨o,e,ex.2.1⟩
 |_=>exact False.elim ty
def b3N(K:Qq)(T:String)(r:V->List V->Hp->VK->Prop)(to:TE):TE:=fun σ H Q=>to σ H fun x H1=>tyV K T x H1/\r x [] H1 Q
def tBM(K:Qq)(T:String)(r:V->List V->Hp->VK->Prop)(to:TE)(t:TA):TE:=fun σ H Q=>to σ H fun x H1=>tyV K T x H1/\t σ H1 fun xs H2=>r x xs H2 Q
variable{o e:Expr}{es:List Expr}{to:TE}{t:TA}{name:Str}{apos cpos:Pos}{T id:String}{r:V->List V->Hp->VK->Prop}
theorem b3O(pa:PlainAttrs T)(slot:Slot T name id)(hty:typeOf (.builtin id)=pure (.type "method_descriptor"))(hm:MtR X id r)(ho:PE X o to)
  (hbase:attributeBase o name X.env (eval o X.env)=eval o X.env:=by rfl)(hline:(apos.endLine==cpos.line)=true:=by rfl):PE X (.Call (.Attribute o name apos) [] [] cpos) (b3N X.K T r to):=by
 intro pins s σ H Q I h;refine wpAny_Call_method0_late hbase hline (thn (ho pins s σ H _ I h) fun v s1 ⟨x,H1,I1,r1,ty,q1⟩=>?_)
 obtain⟨h1,h2⟩:=a8P I1 r1 ty;exact⟨T,id,pa,slot,hty,h1,h2,Calls.callWith_builtin rfl (PySem.evalArgs_none (hm pins s1 σ H1 x [] v [] Q I1 r1 .nil q1))⟩
theorem a5A(pa:PlainAttrs T)(slot:Slot T name id)(hty:typeOf (.builtin id)=pure (.type "method_descriptor"))(hm:MtR X id r)(ho:PE X o to)(ha:PA X (e::es) t)
  (hbase:attributeBase o name X.env (eval o X.env)=eval o X.env:=by rfl)
  (hfew:((backTo cpos (starEach (e::es) X.env)).all (fun x=>!x.1)&&(backToKw cpos (keywordEach [] X.env)).all (fun x=>x.1.isSome)
   &&decide ((e::es).length+([]:List Keyword).length+(if([]:List Keyword).isEmpty then 0 else 1)<30))=true:=by rfl)
  (hline:(apos.endLine==cpos.line)=true:=by rfl)(hs:starEach (e::es) X.env=(false,eval e X.env)::starEach es X.env:=by rfl)(hplain:(backTo cpos (starEach es X.env)).any (·.1)=false:=by rfl):
  PE X (.Call (.Attribute o name apos) (e::es) [] cpos) (tBM X.K T r to t):=by
 intro pins s σ H Q I h;refine wpAny_Call_method_late hbase hfew hline rfl (thn (ho pins s σ H _ I h) fun v s1 ⟨x,H1,I1,r1,ty,q1⟩=>?_)
 obtain⟨h1,h2⟩:=a8P I1 r1 ty;refine⟨T,id,pa,slot,hty,h1,h2,?_⟩;have hA:=ha cpos pins s1 σ H1 _ I1 q1;rw[hs]at hA ⊢;refine Calls.callWith_builtin (by show(false||(backTo cpos (starEach es X.env)).any (·.1))=false;rw[hplain]<;>rfl) (Calls.evalArgs_plain ?_)
 exact thn hA fun us s2 ⟨vs,H2,I2,r2,q2⟩=>hm pins s2 σ H2 x vs v us Q I2 r1 r2 q2
end
def MtM(X:Cx)(id:String)(r:V->List V->Hp->VK->Prop):Prop:=
 ∀(pins:OX) (s:Shared) (σ:St) (H:Hp) (x:V) (xs:List V) (v:Value) (us:List Value) (Q:VK),Inv X pins σ H s->v2_ x v->q5_ xs us->r x xs H Q->
  wpAny (model X.prog X.w) X.A (call (.builtin id) (v::us)) (EP X pins σ Q) X.xe s
theorem q5_.one:∀{x:V}{us:List Value},q5_ [x] us->∃u,us=[u]/\v2_ x u
 |_,_,.cons r .nil=>⟨_,rfl,r⟩
theorem q5_.two:∀{x y:V}{us:List Value},q5_ [x,y] us->∃u v,us=[u,v]/\v2_ x u/\v2_ y v
 |_,_,_,.cons r (.cons q .nil)=>⟨_,_,rfl,r,q⟩
theorem q5_.reverse{xs:List V}{us:List Value}(h:q5_ xs us):q5_ xs.reverse us.reverse:=by
 induction h with
 |nil=>exact .nil
 |cons r t ih=>rw[Xq,Xq];exact q5_.append ih (.cons r .nil)
theorem q5_.rep{xs:List V}{us:List Value}(h:q5_ xs us):∀k:Nat,q5_ (List.replicate k xs).flatten (List.replicate k us).flatten
 |0=>.nil
 |k+1=>by
  rw[Zi,Zi,Js,Js];exact q5_.append h (q5_.rep h k)
theorem a8Q(its:List Value):∀(k:Nat) (acc:List Value),
  List.foldl (fun x1 x2=>x1++x2) acc.toArray (List.replicate k its.toArray)=(acc++(List.replicate k its).flatten).toArray
 |0,acc=>by simp
 |k+1,acc=>by
  have e:acc.toArray++its.toArray=(acc++its).toArray:=by simp
  have e2:(acc++its)++(List.replicate k its).flatten=acc++(List.replicate (k+1) its).flatten:=by
   rw[Zi,Js,Xz]
  rw[←e2,←a8Q its k (acc++its),←e,Zi,List.foldl_cons]
section
variable{X:Cx}{pins:OX}{σ:St}{H:Hp}{s:Shared}{l b:Addr}{xs ys zs:List V}
theorem Inv.lset{its its':List Value}{n:Nat}{f:Array Value->Array Value}{t':Nat}(I:Inv X pins σ H s)(hH:H l=some (.lst xs))
  (e:s.heap.get? l=some {cls:=.type "list",data:=.seq its.toArray n})(hf:f its.toArray=its'.toArray)(hv:q5_ ys its')(hz:ys.length≤sizeLine):
  Inv X pins σ (upd H l (.lst ys)) {s with heap:=s.heap.update l (Obj.mapSeq f),toks:=t'}:=by
 have q:=PySem.IsL.update e f
 rw[hf]at q;refine I.write (x:=l) (e:=l) (by rw[hH];exact trivial) (.inl rfl) (fun b' u hb hu=>(Heap.get?_update_other s.heap (Obj.mapSeq f) (Zh hb)).trans hu) ⟨_,q⟩ ?_
 exact⟨hz,its',_,hv,q⟩
theorem Inv.fresh(I:Inv X pins σ H s):H s.heap.objs.size=none:=I.hok.fresh (Qu _)
theorem Inv.lstM(I:Inv X pins σ H s)(hH:H l=some (.lst xs)):xs.length≤sizeLine/\∃(its:List Value) (n:Nat),q5_ xs its/\xs.length=its.length/\s.heap.get? l=some {cls:=.type "list",data:=.seq its.toArray n}:=by
 obtain⟨z,its,n,r,e⟩:=I.hok l _ hH;exact⟨z,its,n,r,r.length,e⟩
end
section
variable{X:Cx}
def b3P:V->List V->Hp->VK->Prop:=fun x vs H Q=>∃l xs y,x=.ref l/\vs=[y]/\H l=some (.lst xs)/\xs.length<sizeLine/\Q .non (upd H l (.lst (xs++[y])))
theorem a8R:MtM X "list.append" b3P:=by
 intro pins s σ H x vs v us Q I rx rv h;obtain⟨l,xs,y,rfl,rfl,hH,hz,q⟩:=h;cases rx;obtain⟨u,rfl,ru⟩:=rv.one;obtain⟨z,its,n,r,hl,e⟩:=I.lstM hH;refine call_meets F.slot_list_append ⟨_,e,rfl⟩ F.entry_list_append (F.args_list_append_2 _ _) (PySem.list_append l its.toArray n u (by rw[Qn];omega)) ⟨e,?_⟩
 refine⟨.non,_,I.lset (its':=its++[u]) hH e (by simp) (r.append (.cons ru .nil)) ?_,rfl,q⟩
 rw[Ql,List.length_singleton]
 omega
theorem a8S{α:Type}(xs:List α)(k:Nat):(List.replicate k xs).flatten.length=k * xs.length:=by
 induction k with
 |zero=>simp
 |succ k ih=>rw[Zi,Js,Ql,ih,Nat.succ_mul,Nat.add_comm]
end
section
variable{prog:Program}{w:World}{A:Around}{E:OE}{s:Shared}
set_option maxRecDepth 100000 in
end
section
variable{X:Cx}
end
end L2
namespace Att
open PySem PySem.W PySem.Calls PyProof.Rows
theorem ints_of_wellAll{P:Params}{h:Heap}:∀(ns:List Int) (vs:List Value),WellAll P h vs (ns.map WData.int)->IntsAre vs ns:=by
 intro ns
 induction ns with
 |nil=>
  intro vs w;rw[Jt]at w;cases w;exact .nil
 |cons n ns ih=>
  intro vs w;rw[Qm]at w;cases w with
  |cons a b=>
   cases a;exact .cons _ _ (ih _ b)
theorem script_of{l:OpenLaw}{n:Nat}(hn:l.most=some n){P:Params}{h:Heap}{args:List WData}{vals:List Value}
  (hpre:l.row.toRowW.claim.pre args=true)(hwl:WellAll P h vals args):
  ∃a vs ns,vals=[Value.ref a]/\args=[WData.list (ns.map WData.int)]/\h.get? a=some {cls:=.type "list",data:=.seq vs.toArray}/\IntsAre vs ns/\ns.length≤n:=by
 have hsh:WShape.hasAll [] args [.list .int]=true:=(pre_splitW hpre).1
 have hc:l.pre.holds [] {args:=args}=true:=(pre_splitW hpre).2
 obtain⟨d,r,rfl,h1,h2⟩:=hasAllW_cons hsh;obtain rfl:=hasAllW_nil h2;obtain⟨xs,rfl,h3⟩:=hasW_list h1;obtain⟨ns,rfl⟩:=items_int h3;have hlen:ns.length≤n:=by
  unfold OpenLaw.pre at hc;have h4:(WTm.not (.lt (.lit (.int (n:Int))) (.len (.arg 0)))).holds [] {args:=[.list (ns.map .int)]}=true:=by
   have h4:=(holds_andW hc).1
   rw[hn]at h4;exact h4
  have h5:=condW_of h4 (w_not (w_lt w_lit (w_len_list (w_arg rfl))))
  rw[Qv]at h5;refine Nat.le_of_not_lt fun q=>?_
  have q':(n:Int)<((ns.length:Nat):Int):=by omega
  first
   |(rw[Yr q']at h5;exact absurd h5 (by decide))
   |(simp at h5;omega)
 cases hwl with
 |cons w1 w2=>
  cases w2;cases w1 with
  |list ho hall=>exact⟨_,_,ns,rfl,rfl,ho,ints_of_wellAll ns _ hall,hlen⟩
theorem post_true(l:OpenLaw)(args:List WData):l.row.toRowW.claim.post args (.bool true) args=true:=
 postW_of (r:=l.row.toRowW) (X:=(true==true))
  (show WShape.has [] (.bool true) .bool=true by first|rfl|decide|simp[WShape.has,WShape.arms,WShape.armsAll])
  (show(WTm.eq .res (.lit (.bool true))).value [] {args:=args,res:=some (.bool true),after:=args}=some (.bool (true==true))from w_eq_bool (w_res rfl) w_lit) rfl
theorem attach_call{l:OpenLaw}{n:Nat}{q:Program}{loose:List Str}{XP:(OU)->Heap->Prop}{YP:World->Heap->Prop}{d:DefRec}
  (hn:l.most=some n)(hdf:d.params.defaults=[])
  (call:∀(w:World) (s₀ s₁:Shared) (mg mb:OU) (fa:Addr) (o:Obj) (pm cd doc:Value) (a:Addr) (vs:List Value) (ns:List Int),
   Ground q loose [] XP w s₀ mg mb s₁.heap->YP w s₁.heap->
   s₁.heap.get? fa=some o->o.data=.func (docDef d.name d.params d.body d.scope pm cd doc)->s₁.heap.CodeRec cd d.name->mg d.name=some (.ref fa)->
   s₁.heap.get? a=some {cls:=.type "list",data:=.seq vs.toArray}->IntsAre vs ns->ns.length≤n->s₁.gens= #[]->
   codeAny (model l.prog w) callerA (.call (.ref fa) ⟨[.ref a],[]⟩) (fun r s'=>r=.ok (.ret (.bool true))/\OldK s₁.heap s'.heap/\s'.os=s₁.os/\AllBare s'.gens) s₁):
  WalkO q loose XP YP l.row.toRowW d [] (fun f vs=>PySem.call f vs):=by
 intro w s₀ s₁ mg mb G Y fa o pm cd doc dV kV ho hd hcd hD hmg hg args vals as hpre hlay hrd hwl hlo;obtain rfl:dV=.none:=Dflts.none hD hdf;obtain rfl:kV=.none:=Dflts.noKw hD;obtain⟨a,vs,ns,rfl,rfl,hobj,hints,hlen⟩:=script_of hn hpre hwl;refine enter_call (codeAny_mono (call w s₀ s₁ mg mb fa o pm cd doc a vs ns G Y ho (fd_plain hd) hcd hmg hobj hints hlen hg) fun r s' hq=>?_)
 obtain⟨rfl,h2,h3,h4⟩:=hq;exact⟨.inl ⟨.bool true,.bool true,[],rfl,fun _=>rfl,.bool true,post_true l _,fun _=>⟨List.Pairwise.nil,fun _ hm=>(nomatch hm)⟩⟩,h2,h3,h4⟩
section
variable{prog:Program}{w:World}{A:Around}{E:OE}{s:Shared}{K:Frag}
end
end Att
namespace L2
open PySem PySem.Spec PyProof.Rows
theorem a8T:∀{vs:List Value}{ns:List Int},IntsAre vs ns->q5_ (ns.map V.int) vs
 |_,_,.nil=>.nil
 |_,_,.cons n t h=>.cons ⟨t,rfl⟩ (a8T h)
def a5B(H:Hp):Prop:=∀b,H b=none∨ ∃o xs,H b=some (.frz o (.lst xs))
theorem b3Q{P:Program}{w:World}{K:Qq}{mg mb:OU}{CX:CXT}{k:Nat}{fa a:Addr}{fd:FuncData}{x:Str}{sp:Sp}{s₁:Shared}{vs:List Value}{ns:List Int}
  (KX:K.In s₁.heap)(hns:s₁.heap.Ns mainGlobals mg)(hb:s₁.heap.Ns builtinsNs mb)(hbb:∀x:Str,x≠"__name__"->mb x=bootBuiltins x)(hlim:s₁.heap.NoLimit)(hg:s₁.gens= #[])
  (ha:s₁.heap.get? a=some {cls:=.type "list",data:=.seq vs.toArray})(hi:IntsAre vs ns)(hl:ns.length≤sizeLine)(hr:Room k callerA)
  (F:∀base:Heap,K.In base->base.Ns mainGlobals mg->FnOk P w K mg base CX k fa fd [x] sp)(hbind:∀(s:Shared) (u:Value),BindsTo s fd ⟨[u],[]⟩ [(x,u)])
  (hsp:∀H:Hp,a5B H->SqL K H a (ns.map V.int)->sp [.ref a] H (fun v _=>v=.bl true) fun _ _ _=>False)
  (hCX:∀H e s',CX [] H s₁ (fun _ _ _=>False) e s'->False):
  codeAny (model P w) callerA (.call (.ref fa) ⟨[.ref a],[]⟩) (fun r s'=>r=.ok (.ret (.bool true))/\OldK s₁.heap s'.heap/\s'.os=s₁.os/\AllBare s'.gens) s₁:=by
 have rv:=a8T hi
 have lenV:=hi.length
 have core:∀H:Hp,a5B H->SqL K H a (ns.map V.int)->HOk P w H s₁.heap->(∀b,H b≠none->b=a)->(H a≠none->K.lookup a=none)->
   codeAny (model P w) callerA (.call (.ref fa) ⟨[.ref a],[]⟩) (fun r s'=>r=.ok (.ret (.bool true))/\OldK s₁.heap s'.heap/\s'.os=s₁.os/\AllBare s'.gens) s₁:=by
  intro H hO hS hok hA hK;have base_of:∀{b:Addr}{o:Obj},s₁.heap.get? b=some o->H b=none->(a0U s₁.heap H).get? b=some o:=fun e n=>b1X e n
  have noA:∀{b:Addr}{o:Obj}{es:Array DictEntry}{ep:Nat},s₁.heap.get? b=some o->o.data=.dict es ep->H b=none:=fun{b o es ep} e d=>by
   cases q:H b with
   |none=>rfl
   |some u=>
    have e':b=a:=hA b (by rw[q];simp)
    subst e';rw[ha]at e;cases e;have d':Data.seq vs.toArray _=Data.dict es ep:=d;cases d'
  have nsK:∀{b:Addr}{m:OU},s₁.heap.Ns b m->(a0U s₁.heap H).Ns b m:=fun{b m} ⟨o,es,ep,e,d,r⟩=>⟨o,es,ep,base_of e (noA e d),d,r⟩
  have hKb:K.In (a0U s₁.heap H):=fun b o e=>base_of (KX b o e) (by
   cases q:H b with
   |none=>rfl
   |some u=>
    have e':b=a:=hA b (by rw[q];simp)
    subst e';rw[hK (by rw[q];simp)]at e;cases e)
  have hM:Mod K mg (a0U s₁.heap H):=⟨hKb,nsK hns,⟨mb,nsK hb,hbb⟩,let ⟨mc,h1,h2⟩:=hlim;⟨mc,nsK h1,h2⟩⟩
  have e0:Env0 P w K mg (a0U s₁.heap H) callerA [] s₁ H:=⟨rfl,hM,fun b o e=>b1Y e,Nat.le_of_eq (b1W _ _),trivial,fun b hb=>absurd (show b∈([]:List Addr)from hb) (by simp),hok,.of_eq hg⟩
  refine codeAny_mono ((F _ hKb (nsK hns)).run callerA [] s₁ H ⟨[.ref a],[]⟩ [.ref a] [.ref a] _ _ hr e0 (hbind s₁ (.ref a)) (.cons rfl .nil) (hsp H hO hS)) fun r s' h=>?_
  cases r with
  |error e=>exact(hCX H e s' h).elim
  |ok fl=>
   cases fl with
   |next=>exact False.elim h
   |brk=>exact False.elim h
   |cont=>exact False.elim h
   |ret u=>
    obtain⟨v,H',os,bare,un,hok',r',q⟩:=h;have q':v=.bl true:=q;subst q';obtain rfl:u=Value.bool true:=r';refine⟨rfl,OldK.of_keep fun b o e=>?_,os,bare⟩
    cases q:H b with
    |none=>exact un.keep b o e q (by intro z;exact absurd (show b∈([]:List Addr)from z) (by simp)) (by simp)
    |some u=>
     rcases hO b with z|⟨ob,xs,z⟩
     ·rw[q]at z;cases z
     ·have z2:=un.frzs b ob _ z
      obtain⟨e1,_⟩:=hok b _ z;obtain⟨e2,_⟩:=hok' b _ z2;rw[e]at e1;cases e1;exact e2
 cases hk:K.lookup a with
 |some o=>
  have e:=KX a o hk
  rw[ha]at e;cases e;refine core (fun _=>none) (fun _=>.inl rfl) (.inr ⟨_,vs.toArray,_,hk,rfl,rfl,rfl,by rw[Qn,lenV];exact hl,by simpa using rv⟩) (fun b u z=>by have z':(none:Option HO)=some u:=z;cases z') (fun b z=>absurd rfl z) fun z=>absurd rfl z
 |none=>
  refine core (fun b=>if b=a then some (.frz {cls:=.type "list",data:=.seq vs.toArray} (.lst (ns.map V.int)))else none) (fun b=>?_) (.inl (.inr ⟨{cls:=.type "list",data:=.seq vs.toArray},Qb rfl⟩)) (fun b u z=>?_) (fun b z=>?_) fun _=>hk
  ·by_cases hb:b=a
   ·exact .inr ⟨_,_,Qb hb⟩
   ·exact .inl (Qw hb)
  ·by_cases hb:b=a
   ·have z':=(Qb hb).symm.trans z
    cases z';subst hb;exact⟨ha,by rw[Qv];exact hl,vs,_,rv,ha⟩
   ·have z':=(Qw hb).symm.trans z
    cases z'
  ·by_cases hb:b=a
   ·exact hb
   ·exact absurd (Qw hb) z
theorem b3R{l:PySem.W.OpenLaw}{n k:Nat}{q:Program}{loose:List Str}{XP:(OU)->Heap->Prop}{YP:World->Heap->Prop}{d:DefRec}{K:Params->Qq}{CX:World->CXT}{sp:World->Sp}{x:Str}
  (hn:l.most=some n)(hn2:n≤sizeLine)(hdf:d.params.defaults=[])(hr:Room k callerA)
  (hY:∀(w:World) (h:Heap),YP w h->(K w.params).In h)
  (F:∀(w:World) (mg:OU) (fa:Addr) (h:Heap),(K w.params).In h->h.Ns mainGlobals mg->mg d.name=some (.ref fa)->
   ∃fd:FuncData,(∀(s:Shared) (u:Value),BindsTo s fd ⟨[u],[]⟩ [(x,u)])/\
    ∀base:Heap,(K w.params).In base->base.Ns mainGlobals mg->FnOk l.prog w (K w.params) mg base (CX w) k fa fd [x] (sp w))
  (hsp:∀(w:World) (H:Hp) (a:Addr) (ns:List Int),ns.length≤n->a5B H->SqL (K w.params) H a (ns.map V.int)->sp w [.ref a] H (fun v _=>v=.bl true) fun _ _ _=>False)
  (hCX:∀(w:World) (H:Hp) (s:Shared) (e:Value) (s':Shared),CX w [] H s (fun _ _ _=>False) e s'->False):
  PySem.W.WalkO q loose XP YP l.row.toRowW d [] (fun f vs=>PySem.call f vs):=by
 refine Att.attach_call hn hdf fun w s₀ s₁ mg mb fa o pm cd doc a vs ns G Y ho hd hcd hmg hobj hints hlen hg=>?_
 have KX:=hY w _ Y
 obtain⟨fd,hb,hF⟩:=F w mg fa _ KX G.T.g hmg;exact b3Q KX G.T.g G.T.b G.T.builtins G.T.nolimit hg hobj hints (Zn hlen hn2) hr hF hb (fun H hO hS=>hsp w H a ns hlen hO hS) fun H e s'=>hCX w H s₁ e s'
def a1O(s:Stmt):Arguments:=match s with
 |.FunctionDef _ a _ _ _ _ _ _ _ _=>a
 |_=>{posonlyargs:=[],args:=[],vararg:=none,kwonlyargs:=[],kw_defaults:=[],kwarg:=none,defaults:=[]}
def a0W(s:Stmt):List Stmt:=match s with
 |.FunctionDef _ _ b _ _ _ _ _ _ _=>b
 |_=>[]
def v5_(s:Stmt):Scope:=match s with
 |.FunctionDef _ _ _ _ _ _ sc _ _ _=>sc
 |_=>{kind:=.function,names:=[],isGenerator:=false,isCoroutine:=false}
abbrev CX0:CXT:=fun _ _ _ _ _ _=>False
abbrev E0:XK:=fun _ _ _=>False
theorem a5C{X:Cx}:a3k CX0 X E0:=fun _ _ _ _ _ _ _ h=>h.elim
structure Fun(K:Qq)(x qual:Str)(st:Stmt)(f:Addr)(fd:FuncData):Prop where
 ex:∃(oc:Value) (od:Option Addr) (kV doc pm:Value) (an:Option Addr) (cdv ct:Value) (osl:Array (Option Value)),
  fd=PySem.W.fnOf x qual (a1O st) (a0W st) (v5_ st) .none kV doc pm an cdv ct/\K.lookup f=some ⟨oc,od,.func fd,osl⟩/\PySem.W.codeIn K cdv qual=true
 kp:PySem.W.keepIn K (.ref f)=true
section
variable{P:Program}{w:World}{K:Qq}{mg:OU}{base:Heap}
theorem Fun.ok{x qual:Str}{st:Stmt}{f:Addr}{fd:FuncData}{N ps:List Str}{k:Nat}{sp:Sp}(F:Fun K x qual st f fd)(S:FnScope N ps (v5_ st))(len:∀vs H Q E,sp vs H Q E->vs.length=ps.length)
  (hbody:∀(cdv:Value) (A:Around) (outer:List Env) (s:Shared) (H:Hp) (vs:List V) (Q:VK) (E:XK),Room k (A.deeper (envOfC qual (v5_ st) s.heap.objs.size f cdv))->sp vs H Q E->
   ∃t,PSs (a1M CX0 P w K mg base N qual (v5_ st) f cdv A outer s H E).nox (a0W st) t/\t {nx:=fun _ H'=>Q .non H',rt:=Q} (start N vs) H):FnOk P w K mg base CX0 (k+1) f fd ps sp:=by
 obtain⟨oc,od,kV,doc,pm,an,cdv,ct,osl,rfl,lk,hcd⟩:=F.ex;refine b3u lk hcd S len fun A outer s H vs Q E hr hsp=>?_
 obtain⟨t,h,q⟩:=hbody cdv A outer s H vs Q E hr hsp;exact⟨t,h.nox,q⟩
theorem Fun.binds{x qual:Str}{st:Stmt}{f:Addr}{fd:FuncData}{ps:List Str}(F:Fun K x qual st f fd)
  (h:∀(kV doc pm:Value) (an:Option Addr) (cdv ct:Value) (us:List Value),us.length=ps.length->bindArgs (PySem.W.fnOf x qual (a1O st) (a0W st) (v5_ st) .none kV doc pm an cdv ct) ⟨us,[]⟩=pure (ps.zip us)):a0u K fd ps []:=by
 obtain⟨oc,od,kV,doc,pm,an,cdv,ct,osl,rfl,lk,hcd⟩:=F.ex;exact .all (h kV doc pm an cdv ct)
theorem b3S{x qual:Str}{st:Stmt}{f:Addr}{oc:Value}{od an:Option Addr}{osl:Array (Option Value)}{kV doc pm cdv ct:Value}(l:K.lookup f=some ⟨oc,od,.func (PySem.W.fnOf x qual (a1O st) (a0W st) (v5_ st) .none kV doc pm an cdv ct),osl⟩)
  (c:PySem.W.codeIn K cdv qual=true)(k:PySem.W.keepIn K (.ref f)=true):Fun K x qual st f (PySem.W.fnOf x qual (a1O st) (a0W st) (v5_ st) .none kV doc pm an cdv ct):=⟨⟨oc,od,kV,doc,pm,an,cdv,ct,osl,rfl,l,c⟩,k⟩
end
theorem a5D{n:Nat}(h:n≤1000):n<sizeLine:=Nat.lt_of_le_of_lt h (by decide)
section
variable{X:Cx}
theorem pv(i:Nat){x:Str}{pos:Pos}(hN:X.N[i]? =some x:=by rfl)(hv:Vis X.env.scope x:=by first|exact Or.inl rfl|exact Or.inr (Or.inl rfl)|exact Or.inr (Or.inr rfl))(hd:(x==("__debug__":Str))=false:=by decide)
  (hcd:(x==("__classdict__":Str))=false:=by decide):PE X (.Name x pos) (a0f i):=b2b hN hv hd hcd
end
section
variable{κ:Type}[DecidableEq κ]
def a0m(kvs:List (κ×V))(k:κ):Option V:=(kvs.find? fun kv=>decide (kv.1=k)).map (·.2)
def a0L(kvs:List (κ×V))(k:κ)(v:V):List (κ×V):=
 if(kvs.any fun kv=>decide (kv.1=k))=true then kvs.map (fun kv=>if kv.1=k then(kv.1,v)else kv)else kvs++[(k,v)]
theorem a4l{p:κ×V}{r:List (κ×V)}{k:κ}(e:p.1=k):a0m (p::r) k=some p.2:=by simp[a0m,Jf,e]
theorem a4m{p:κ×V}{r:List (κ×V)}{k:κ}(e:¬ p.1=k):a0m (p::r) k=a0m r k:=by simp[a0m,Jf,e]
theorem a5E(k:κ):∀kvs:List (κ×V),(kvs.any fun kv=>decide (kv.1=k))=(a0m kvs k).isSome
 |[]=>rfl
 |p::r=>by
  rw[Vi]
  by_cases e:p.1=k
  ·simp only[a4l e,Yr e,Bool.true_or,Option.isSome_some]
  ·rw[a4m e,Zz e,Vt];exact a5E k r
theorem b3T(kvs:List (κ×V))(k:κ)(v:V):(a0L kvs k v).length≤kvs.length+1:=by
 unfold a0L;split
 ·rw[Qv];omega
 ·rw[Ql,Ys,List.length_nil];omega
end
theorem a0J.isSome_eq{o:Option V}{u:Option Value}(r:a0J o u):o.isSome=u.isSome:=by
 cases o with
 |none=>cases u with
  |none=>rfl
  |some _=>exact(show False from r).elim
 |some _=>cases u with
  |none=>exact(show False from r).elim
  |some _=>rfl
theorem a1P{P:Program}{w:World}{k:Key}{u:Value}(r:v2_ (kV k) u):(k5_ P w).is k u=true:=by
 cases k with
 |inl i=>obtain⟨t,e⟩:=(show∃t,u=Value.int i t from r);subst e;exact b1T P w i t
 |inr x=>obtain⟨t,e⟩:=(show∃t,u=Value.str x t from r);subst e;exact b1U P w x t
theorem a5F{P:Program}{w:World}:∀{ks:List Key}{us:List Value},q5_ (ks.map kV) us->ItemsAre (k5_ P w) ks us
 |[],_,r=>by rw[Jt]at r;cases r;exact .nil
 |k::ks,_,r=>by
  rw[Qm]at r;cases r with
  |cons h t=>exact .cons (a1P h) (a5F t)
abbrev KT(C:Addr->List Key->Prop)(H:Hp):List (List Key×V)->List (List Key×Addr×Value)->Prop:=Paired fun p q=>p.1=q.1/\(H q.2.1=some (.tup (p.1.map kV))∨C q.2.1 p.1)/\v2_ p.2 q.2.2
theorem KT.val{C:Addr->List Key->Prop}{H:Hp}{kvs:List (List Key×V)}{xs:List (List Key×Addr×Value)}(r:KT C H kvs xs)(k:List Key):a0J (a0m kvs k) ((atKey xs k).map (·.2)):=by
 induction r with
 |nil=>exact True.intro
 |@cons p q ps qs h t ih=>
  obtain⟨h1,_,h2⟩:=h
  by_cases e:p.1=k
  ·have e':q.1=k:=h1.symm.trans e
   have b:atKey (q::qs) k=some q.2:=by simp[atKey,Jf,e']
   rw[a4l e,b];exact h2
  ·have e':¬ q.1=k:=fun z=>e (h1.trans z)
   have b:atKey (q::qs) k=atKey qs k:=by simp[atKey,Jf,e']
   rw[a4m e,b];exact ih
theorem KT.repl{C:Addr->List Key->Prop}{H:Hp}{kvs:List (List Key×V)}{xs:List (List Key×Addr×Value)}(r:KT C H kvs xs)(k:List Key){y:V}{u:Value}(ry:v2_ y u):
  KT C H (kvs.map fun kv=>if kv.1=k then(kv.1,y)else kv) (xs.map (putAt k u)):=by
 induction r with
 |nil=>exact .nil
 |@cons p q ps qs h t ih=>
  rw[Qm,Qm];refine .cons ?_ ih;obtain⟨h1,h2,h3⟩:=h;unfold putAt
  by_cases e:p.1=k
  ·rw[Qb e,Qb (h1.symm.trans e)];exact⟨h1,h2,ry⟩
  ·rw[Qw e,Qw (fun z=>e (h1.trans z))];exact⟨h1,h2,h3⟩
theorem KT.put{C:Addr->List Key->Prop}{H:Hp}{kvs:List (List Key×V)}{xs:List (List Key×Addr×Value)}(r:KT C H kvs xs)(k:List Key){b:Addr}{y:V}{u:Value}(hb:H b=some (.tup (k.map kV))∨C b k)(ry:v2_ y u):
  KT C H (a0L kvs k y) (storedH xs k b u):=by
 have e:(kvs.any fun kv=>decide (kv.1=k))=(atKey xs k).isSome:=by
  rw[a5E,(r.val k).isSome_eq,Option.isSome_map]
 unfold a0L storedH;rw[e]
 by_cases q:(atKey xs k).isSome=true
 ·rw[Qb q,Qb q];exact r.repl k ry
 ·rw[Qw q,Qw q];exact Paired.snoc r ⟨rfl,hb,ry⟩
theorem KT.keeps{C:Addr->List Key->Prop}{H H':Hp}{kvs:List (List Key×V)}{xs:List (List Key×Addr×Value)}(r:KT C H kvs xs)(ht:∀b ys,H b=some (.tup ys)->H' b=some (.tup ys)):KT C H' kvs xs:=
 Paired.mapP r fun _ _ z=>⟨z.1,z.2.1.imp (ht _ _) id,z.2.2⟩
section
variable{P:Program}{w:World}{H:Hp}{h:Heap}{a:Addr}
theorem b3U{ks:List Key}(ok:HOk P w H h)(e:H a=some (.tup (ks.map kV))):(tupleKind (k5_ P w)).is h ks a:=by
 obtain⟨_,its,r,o,h1,h2,_,n,h3⟩:=(show k0_ P w H h a (.tup (ks.map kV))from ok a _ e)
 exact⟨o,its.toArray,n,h1,h2,h3,by simpa using a5F r⟩
end
section
variable{X:Cx}{pins:OX}{σ:St}{H:Hp}{s:Shared}{a:Addr}{y v:V}{u r:Value}{o:Option V}{A:Around}{E:OE}
theorem b3V{h':Heap}{t':Nat}{ob:HO}(I:Inv X pins σ H s)(mu:Mut (H a))(hs:Heap.SameBut a s.heap h')(he:∃q,h'.get? a=some q)(new:k0_ X.prog X.w (upd H a ob) h' a ob):
  Inv X pins σ (upd H a ob) {s with heap:=h',toks:=t'}:=
 I.write (x:=a) (e:=a) mu (.inl rfl) (fun b q hb z=>(hs.2 b hb).trans z) he new
end
def b3W(i:Expr):Prop:=∀ov iv,subscripted i false ov iv=operate [ov,iv] (getItem ov iv)
theorem b3X{prog:Program}{w:World}{A:Around}{E:OE}{s:Shared}{env:Env}{value slice:Expr}{pos:Pos}{T id:String}{Q:OE}
  (hl:typeLookup (.type T) "__getitem__"=pure (some (.builtin id)))(hs:b3W slice)
  (h:wpAny (model prog w) A (eval value env) (fun o s₁=>wpAny (model prog w) A (eval slice env) (fun i s₂=>s₂.TypeIs o T/\wpAny (model prog w) A (getItem o i) Q E s₂) E s₁) E s):
  wpAny (model prog w) A (eval (.Subscript value slice pos) env) Q E s:=by
 refine Subscript_ (Yp h (fun o s₁ h₁=>Yp h₁ (fun i s₂ h₂=>?_) fun _ _ x=>x) fun _ _ x=>x)
 obtain⟨hT,h₂⟩:=h₂;unfold subscriptTail;refine Qz ?_
 rw[getitemInPython_of_ne hT.not_modules];refine Qz (wpAny_specialOf hT hl ?_);have fin:wpAny (model prog w) A (subscripted slice false o i) (fun r s₃=>wpAny (model prog w) A (letTemporaryGo value o r>>=fun _=>pure r) Q E s₃) E s₂:=by
  rw[hs o i];exact wpAny_operating (Yp h₂ (fun r s₃ h₃=>Qz (wpAny_letTemporaryGo (Qj h₃))) fun _ _ x=>x)
 first
  |exact Qj (Qz fin)
  |exact Qz (Qj (Qz fin))
  |exact Qz fin
theorem Inv.big(I:Inv X pins σ H s):sysModules<s.heap.objs.size:=by
 have h:mainGlobals<s.heap.objs.size:=(I.mod.glob.keeps I.bk).lt
 exact Vp (by decide) h
end L2
namespace L2.Mir
open PySem PySem.Spec PyProof.Rows
inductive Ob where
 |exc (n:Str)|fn (n:Str)|dk (kvs:List (Key×Key))|dt (kvs:List (Str×List Int))
 deriving Inhabited
inductive D where
 |non|bl (b:Bool)|int (i:Int)|str (x:Str)|tup (ds:List D)|lst (ds:List D)|emp|obj (o:Ob)|dct (ks:OI) (vs:List D)
 deriving Inhabited
def b3Y(K:Qq)(t:Value):Prop:=∀T∈(["tuple","list","int","bool","str"]:List String),PySem.W.kitOne K t (.type T)=some false
def SqU(K:Qq)(G:Hp)(a:Addr)(xs:List V):Prop:=G a=some (.tup xs)∨ ∃(o:Obj) (its:Array Value) (n:Nat),K.lookup a=some o/\o.cls=.type "tuple"/\o.dict=none/\o.data=.seq its n/\its.size≤sizeLine/\q5_ xs its.toList
theorem SqU.t{K:Qq}{G:Hp}{a:Addr}{xs:List V}(h:SqU K G a xs):SqT K G a xs:=h.imp (fun e=>.inl e) id
def a2w(K:Qq)(G:Hp):List (Key×V)->List (Str×List Int)->Prop
 |[],[]=>True
 |p::ps,q::qs=>p.1=.inr q.1/\(∃a,p.2=.ref a/\SqU K G a (q.2.map V.int))/\a2w K G ps qs
 |_,_=>False
def a3l(K:Qq)(G:Hp)(v:V):Ob->Prop
 |.exc n=>∃a C HP,v=.ref a/\PySem.W.nsIn K mainGlobals n=some (some (.ref C))/\G a=some (.ext HP)/\PySem.W.KitX K (.ref a) (.ref C) HP/\b3Y K (.ref C)
 |.fn n=>∃f,v=.ref f/\PySem.W.nsIn K mainGlobals n=some (some (.ref f))/\PySem.W.KitX K (.ref f) (.type "function") (fun _=>True)
 |.dk kvs=>∃a,v=.ref a/\G a=some (.dK (kvs.map fun p=>(p.1,kV p.2)))
 |.dt kvs=>∃a ps,v=.ref a/\G a=some (.dK ps)/\a2w K G ps kvs
abbrev x0_(k:List Int):List Key:=k.map Sum.inl
def w3_(K:Qq):Addr->List Key->Prop:=fun b k=>SqU K (fun _=>none) b (k.map kV)
mutual
def Rep(K:Qq)(G:Hp):V->D->Prop
 |v,.non=>v=.non
 |v,.bl b=>v=.bl b
 |v,.int i=>v=.int i
 |v,.str x=>v=.str x/\x.length≤sizeLine
 |v,.tup ds=>∃a xs,v=.ref a/\SqU K G a xs/\z7_ K G xs ds
 |v,.lst ds=>∃a xs,v=.ref a/\SqL K G a xs/\z7_ K G xs ds
 |v,.emp=>∃a kvs,v=.ref a/\G a=some (.dK kvs)
 |v,.obj o=>a3l K G v o
 |v,.dct ks vs=>∃a kvs,v=.ref a/\G a=some (.dT (w3_ K) kvs)/\kvs.map (·.1)=ks.map x0_/\z7_ K G (kvs.map (·.2)) vs
def z7_(K:Qq)(G:Hp):List V->List D->Prop
 |xs,[]=>xs=[]
 |xs,d::ds=>∃x r,xs=x::r/\Rep K G x d/\z7_ K G r ds
end
def Le(G G':Hp):Prop:=∀b o,G b=some o->G' b=some o
theorem Le.refl{G:Hp}:Le G G:=fun _ _ e=>e
theorem Le.trans{G G1 G2:Hp}(a:Le G G1)(b:Le G1 G2):Le G G2:=fun x o e=>b x o (a x o e)
theorem Le.upd{G:Hp}{a:Addr}{o:HO}(h:G a=none):Le G (upd G a o):=fun b u e=>by rw[v4_ (g9_ e h)];exact e
theorem Le.sqU{K:Qq}{G G':Hp}(l:Le G G'){a:Addr}{xs:List V}(h:SqU K G a xs):SqU K G' a xs:=h.imp (fun e=>l _ _ e) id
theorem Le.sqT{K:Qq}{G G':Hp}(l:Le G G'){a:Addr}{xs:List V}(h:SqU K G a xs):SqT K G' a xs:=(l.sqU h).t
theorem Le.sqT'{K:Qq}{G G':Hp}(l:Le G G'){a:Addr}{xs:List V}(h:SqT K G a xs):SqT K G' a xs:=by
 rcases h with h|h
 ·rcases h with h|⟨o,h⟩
  ·exact .inl (.inl (l _ _ h))
  ·exact .inl (.inr ⟨o,l _ _ h⟩)
 ·exact .inr h
theorem Le.sqL{K:Qq}{G G':Hp}(l:Le G G'){a:Addr}{xs:List V}(h:SqL K G a xs):SqL K G' a xs:=by
 rcases h with h|h
 ·rcases h with h|⟨o,h⟩
  ·exact .inl (.inl (l _ _ h))
  ·exact .inl (.inr ⟨o,l _ _ h⟩)
 ·exact .inr h
theorem a2w.mono{K:Qq}{G G':Hp}(l:Le G G'):∀{ps:List (Key×V)}{qs:List (Str×List Int)},a2w K G ps qs->a2w K G' ps qs
 |[],[],_=>trivial
 |_::_,_::_,⟨h1,⟨a,h2,h3⟩,h4⟩=>⟨h1,⟨a,h2,l.sqU h3⟩,a2w.mono l h4⟩
theorem a3l.mono{K:Qq}{G G':Hp}(l:Le G G'){v:V}:∀{o:Ob},a3l K G v o->a3l K G' v o
 |.exc n,⟨a,C,HP,h1,h2,h3,h4⟩=>⟨a,C,HP,h1,h2,l _ _ h3,h4⟩
 |.fn n,h=>h
 |.dk kvs,⟨a,h1,h2⟩=>⟨a,h1,l _ _ h2⟩
 |.dt kvs,⟨a,ps,h1,h2,h3⟩=>⟨a,ps,h1,l _ _ h2,h3.mono l⟩
mutual
theorem Rep.mono{K:Qq}{G G':Hp}(l:Le G G'):∀(d:D) {v:V},Rep K G v d->Rep K G' v d
 |.non,_,h=>by simpa only[Rep]using h
 |.bl b,_,h=>by simpa only[Rep]using h
 |.int i,_,h=>by simpa only[Rep]using h
 |.str x,_,h=>by simpa only[Rep]using h
 |.tup ds,_,h=>by
  simp only[Rep]at h ⊢;obtain⟨a,xs,e,q,r⟩:=h;exact⟨a,xs,e,l.sqU q,z7_.mono l ds r⟩
 |.lst ds,_,h=>by
  simp only[Rep]at h ⊢;obtain⟨a,xs,e,q,r⟩:=h;exact⟨a,xs,e,l.sqL q,z7_.mono l ds r⟩
 |.emp,_,h=>by
  simp only[Rep]at h ⊢;obtain⟨a,kvs,e,q⟩:=h;exact⟨a,kvs,e,l _ _ q⟩
 |.obj o,_,h=>by
  simp only[Rep]at h ⊢;exact h.mono l
 |.dct ks vs,_,h=>by
  simp only[Rep]at h ⊢;obtain⟨a,kvs,e,q,k,r⟩:=h;exact⟨a,kvs,e,l _ _ q,k,z7_.mono l vs r⟩
theorem z7_.mono{K:Qq}{G G':Hp}(l:Le G G'):∀(ds:List D) {xs:List V},z7_ K G xs ds->z7_ K G' xs ds
 |[],_,h=>by simpa only[z7_]using h
 |d::ds,_,h=>by
  simp only[z7_]at h ⊢;obtain⟨x,r,e,q,t⟩:=h;exact⟨x,r,e,Rep.mono l d q,z7_.mono l ds t⟩
end
theorem repL_nil{K:Qq}{G:Hp}:z7_ K G [] []:=by simp only[z7_]
theorem repL_cons{K:Qq}{G:Hp}{x:V}{xs:List V}{d:D}{ds:List D}(h:Rep K G x d)(t:z7_ K G xs ds):z7_ K G (x::xs) (d::ds):=by
 simp only[z7_];exact⟨x,xs,rfl,h,t⟩
theorem z7_.length{K:Qq}{G:Hp}:∀{ds:List D}{xs:List V},z7_ K G xs ds->xs.length=ds.length
 |[],_,h=>by simp only[z7_]at h;subst h;rfl
 |d::ds,_,h=>by
  simp only[z7_]at h;obtain⟨x,r,e,q,t⟩:=h;subst e
  simp[z7_.length t]
theorem z7_.append{K:Qq}{G:Hp}:∀{ds es:List D}{xs ys:List V},z7_ K G xs ds->z7_ K G ys es->z7_ K G (xs++ys) (ds++es)
 |[],_,_,_,h,t=>by simp only[z7_]at h;subst h;exact t
 |d::ds,_,_,_,h,t=>by
  simp only[z7_]at h;obtain⟨x,r,e,q,u⟩:=h;subst e;exact repL_cons q (z7_.append u t)
theorem z7_.get{K:Qq}{G:Hp}:∀{ds:List D}{xs:List V}{i:Nat}{d:D},z7_ K G xs ds->ds[i]? =some d->∃x,xs[i]? =some x/\Rep K G x d
 |[],_,i,d,h,e=>by simp at e
 |d::ds,_,i,d',h,e=>by
  simp only[z7_]at h;obtain⟨x,r,e1,q,t⟩:=h;subst e1;cases i with
  |zero=>simp at e;subst e;exact⟨x,rfl,q⟩
  |succ i=>simpa using z7_.get (i:=i) t (by simpa using e)
theorem z7_.get'{K:Qq}{G:Hp}{ds:List D}{xs:List V}{i:Nat}{x:V}(h:z7_ K G xs ds)(e:xs[i]? =some x):∃d,ds[i]? =some d/\Rep K G x d:=by
 have hl:=h.length
 have hi:i<xs.length:=(Qy.mp e).1
 obtain⟨x',e',r⟩:=h.get (i:=i) (d:=ds[i]'(by omega)) (by simp)
 rw[e]at e';cases e';exact⟨_,by simp,r⟩
theorem z7_.take{K:Qq}{G:Hp}:∀{ds:List D}{xs:List V}(n:Nat),z7_ K G xs ds->z7_ K G (xs.take n) (ds.take n)
 |_,_,0,_=>by simp[repL_nil]
 |[],_,n+1,h=>by simp only[z7_]at h;subst h;simp[repL_nil]
 |d::ds,_,n+1,h=>by
  simp only[z7_]at h;obtain⟨x,r,e,q,t⟩:=h;subst e;exact repL_cons q (t.take n)
theorem z7_.drop{K:Qq}{G:Hp}:∀{ds:List D}{xs:List V}(n:Nat),z7_ K G xs ds->z7_ K G (xs.drop n) (ds.drop n)
 |_,_,0,h=>h
 |[],_,n+1,h=>by simp only[z7_]at h;subst h;simp[repL_nil]
 |d::ds,_,n+1,h=>by
  simp only[z7_]at h;obtain⟨x,r,e,q,t⟩:=h;subst e;exact t.drop n
theorem z7_.reverse{K:Qq}{G:Hp}:∀{ds:List D}{xs:List V},z7_ K G xs ds->z7_ K G xs.reverse ds.reverse
 |[],_,h=>by simp only[z7_]at h;subst h;simp[repL_nil]
 |d::ds,_,h=>by
  simp only[z7_]at h;obtain⟨x,r,e,q,t⟩:=h;subst e;simp only[Xq];exact t.reverse.append (repL_cons q repL_nil)
theorem z7_.set{K:Qq}{G:Hp}:∀{ds:List D}{xs:List V}{x:V}{d:D}(n:Nat),z7_ K G xs ds->Rep K G x d->z7_ K G (xs.set n x) (ds.set n d)
 |[],_,_,_,n,h,_=>by simp only[z7_]at h;subst h;simp[repL_nil]
 |d::ds,_,_,_,0,h,q'=>by
  simp only[z7_]at h;obtain⟨x,r,e,q,t⟩:=h;subst e;exact repL_cons q' t
 |d::ds,_,_,_,n+1,h,q'=>by
  simp only[z7_]at h;obtain⟨x,r,e,q,t⟩:=h;subst e;exact repL_cons q (t.set n q')
inductive Mu where
 |l (ds:List D)|d (ks:OI) (vs:List D)
 deriving Inhabited
inductive W where
 |nil|dat (d:D)|own (ds:List D)|par (ds:List D)|ownD (ks:OI) (vs:List D)|parD (ks:OI) (vs:List D)
 deriving Inhabited
abbrev Env':=List W
abbrev OZ:=D->Env'->Option Env'
def W.mut:W->Option Mu
 |.own ds=>some (.l ds)
 |.par ds=>some (.l ds)
 |.ownD ks vs=>some (.d ks vs)
 |.parD ks vs=>some (.d ks vs)
 |_=>none
def W.mutL:W->Option (List D)
 |.own ds=>some ds
 |.par ds=>some ds
 |_=>none
def W.mutD:W->Option (OI×List D)
 |.ownD ks vs=>some (ks,vs)
 |.parD ks vs=>some (ks,vs)
 |_=>none
def W.put:W->List D->W
 |.own _,ds=>.own ds
 |.par _,ds=>.par ds
 |w,_=>w
def W.isOwn:W->Bool
 |.own _=>true
 |.ownD _ _=>true
 |_=>false
def W.isPar:W->Bool
 |.par _=>true
 |.parD _ _=>true
 |_=>false
def W.putM(w:W):Mu->W
 |.l ds=>if w.isOwn then .own ds else if w.isPar then .par ds else w
 |.d ks vs=>if w.isOwn then .ownD ks vs else if w.isPar then .parD ks vs else w
theorem W.mutL_of{w:W}{ds:List D}(h:w.mutL=some ds):w.mut=some (.l ds):=by cases w<;>first|(cases h;rfl)|cases h
theorem W.mutD_of{w:W}{ks:OI}{vs:List D}(h:w.mutD=some (ks,vs)):w.mut=some (.d ks vs):=by cases w<;>first|(cases h;rfl)|cases h
theorem W.put_eq{w:W}{ds:List D}(h:w.mutL=some ds)(ds':List D):w.put ds'=w.putM (.l ds'):=by cases w<;>first|rfl|cases h
theorem W.putM_mut{w:W}{m:Mu}(h:w.mut=some m)(m':Mu):(w.putM m').mut=some m':=by
 cases w<;>cases m'<;>first|rfl|cases h
theorem W.putM_own{w:W}{m:Mu}(h:w.mut=some m)(m':Mu):(w.putM m').isOwn=w.isOwn:=by
 cases w<;>cases m'<;>first|rfl|cases h
theorem W.putM_par{w:W}{m:Mu}(h:w.mut=some m)(m':Mu):(w.putM m').isPar=w.isPar:=by
 cases w<;>cases m'<;>first|rfl|cases h
def Owned(σ:St)(env:Env')(a:Addr):Prop:=∃(i:Nat) (w:W) (m:Mu),env[i]? =some w/\w.mut=some m/\σ[i]? =some (some (V.ref a))
theorem own_mut{w:W}(h:w.isOwn=true):∃m,w.mut=some m:=by cases w<;>first|exact⟨_,rfl⟩|cases h
theorem par_mut{w:W}(h:w.isPar=true):∃m,w.mut=some m:=by cases w<;>first|exact⟨_,rfl⟩|cases h
def NT(o:HO):Prop:=∀ps,o≠.tbl ps
theorem nt_lst{xs:List V}:NT (.lst xs):=fun _ z=>by cases z
theorem nt_tup{xs:List V}:NT (.tup xs):=fun _ z=>by cases z
def lamQ(q:Str):Str:=(q++".<locals>.")++"<lambda>"
def tabQ(K:Qq)(P:Addr)(q:Str):Bool:=K.all fun p=>match p.2 with
 |⟨.type "code",_,.fields vs,_⟩=>(match (vs[11]? :Option Value)with|some (.ref P')=>P' !=P|_=>true)||(match vs.toList with|_::.str n _::_=>n==q|_=>false)
 |_=>true
def LamC(K:Qq)(P a:Addr):HO:=.ext fun h=>∀q,tabQ K P q=true->h.CodeRec (.ref a) (lamQ q)
def TabsOk(K:Qq)(H:Hp):Prop:=∀P ps,H P=some (.tbl ps)->TriplesOk ps.toList/\∀pos v,codeAmong pos ps.toList=some v->∃a,v=.ref a/\H a=some (LamC K P a)
theorem TabsOk.mono{K:Qq}{H H':Hp}(t:TabsOk K H)(h1:∀P ps,H' P=some (.tbl ps)->H P=some (.tbl ps))(h2:∀a φ,H a=some (.ext φ)->H' a=some (.ext φ)):TabsOk K H':=fun P ps e=>by
 obtain⟨q1,q2⟩:=t P ps (h1 P ps e);refine⟨q1,fun pos v e=>?_⟩
 obtain⟨a,e1,e2⟩:=q2 pos v e;exact⟨a,e1,h2 _ _ e2⟩
theorem TabsOk.upd{K:Qq}{H:Hp}(t:TabsOk K H){a:Addr}{o:HO}(no:NT o)(h:∀φ,H a≠some (.ext φ)):TabsOk K (upd H a o):=
 t.mono (fun P ps e=>by
  by_cases hb:P=a
  ·subst hb;rw[x3_]at e;cases e;exact absurd rfl (no ps)
  ·rw[v4_ hb]at e;exact e) fun b φ e=>by
  by_cases hb:b=a
  ·subst hb;exact absurd e (h φ)
  ·rw[v4_ hb];exact e
def RepM(K:Qq)(G:Hp)(o:HO):Mu->Prop
 |.l ds=>∃xs,o=.lst xs/\z7_ K G xs ds
 |.d ks vs=>∃kvs,o=.dT (w3_ K) kvs/\kvs.map (·.1)=ks.map x0_/\z7_ K G (kvs.map (·.2)) vs
theorem RepM.mono{K:Qq}{G G':Hp}(l:Le G G'){o:HO}:∀{m:Mu},RepM K G o m->RepM K G' o m
 |.l ds,⟨xs,e,r⟩=>⟨xs,e,z7_.mono l ds r⟩
 |.d ks vs,⟨kvs,e,k,r⟩=>⟨kvs,e,k,z7_.mono l vs r⟩
theorem RepM.nt{K:Qq}{G:Hp}{o:HO}:∀{m:Mu},RepM K G o m->NT o
 |.l ds,⟨xs,e,r⟩=>by subst e;exact nt_lst
 |.d ks vs,⟨kvs,e,k,r⟩=>by subst e;exact fun _ z=>by cases z
theorem RepM.ne{K:Qq}{G:Hp}{o:HO}{m:Mu}(r:RepM K G o m):∀φ,o≠.ext φ:=by
 cases m with
 |l ds=>obtain⟨xs,e,_⟩:=r;subst e;exact fun _ z=>by cases z
 |d ks vs=>obtain⟨xs,e,_⟩:=r;subst e;exact fun _ z=>by cases z
structure Rel(K:Qq)(B:OA)(G:Hp)(σ:St)(env:Env')(H:Hp):Prop where
 sub:Le G H
 len:env.length=σ.length
 dat:∀(i:Nat) (d:D),env[i]? =some (.dat d)->∃v,σ[i]? =some (some v)/\Rep K G v d
 own:∀(i:Nat) (w:W) (m:Mu),env[i]? =some w->w.mut=some m->∃a o,σ[i]? =some (some (V.ref a))/\H a=some o/\RepM K G o m/\G a=none
 inj:∀(i j:Nat) (w w':W) (ds es:Mu) (a:Addr),env[i]? =some w->w.mut=some ds->env[j]? =some w'->w'.mut=some es->σ[i]? =some (some (V.ref a))->σ[j]? =some (some (V.ref a))->i=j
 fresh:∀(i:Nat) (w:W) (a:Addr),env[i]? =some w->w.isOwn=true->σ[i]? =some (some (V.ref a))-> ¬ B a
 old:∀b,B b->H b≠none
 tabs:TabsOk K H
 gnt:∀b o,G b=some o->NT o
structure Ev(K:Qq)(B:OA)(G:Hp)(σ:St)(env:Env')(H:Hp)(G':Hp)(σ':St)(env':Env')(H':Hp):Prop where
 rel:Rel K B G' σ' env' H'
 same:Le G G'
 keep:∀b o,¬ Owned σ env b->NT o->H b=some o->H' b=some o
 live:∀b,H b≠none->H' b≠none
 stay:∀b,H b≠none-> ¬ Owned σ env b->G b=none->G' b=none
 sub:∀a,Owned σ' env' a->Owned σ env a∨H a=none
 par:∀(i:Nat) (w:W),env'[i]? =some w->w.isPar=true->σ'[i]? =σ[i]? /\ ∃w0,env[i]? =some w0/\w0.isPar=true
 slen:σ'.length=σ.length
theorem Ev.refl{K:Qq}{B:OA}{G:Hp}{σ:St}{env:Env'}{H:Hp}(r:Rel K B G σ env H):Ev K B G σ env H G σ env H:=
 ⟨r,Le.refl,fun _ _ _ _ e=>e,fun _ e=>e,fun _ _ _ e=>e,fun _ e=>.inl e,fun _ w e h=>⟨rfl,w,e,h⟩,rfl⟩
theorem Ev.trans{K:Qq}{B:OA}{G G1 G2:Hp}{σ σ1 σ2:St}{env env1 env2:Env'}{H H1 H2:Hp}(a:Ev K B G σ env H G1 σ1 env1 H1)(b:Ev K B G1 σ1 env1 H1 G2 σ2 env2 H2):Ev K B G σ env H G2 σ2 env2 H2 where
 rel:=b.rel
 same:=a.same.trans b.same
 keep:=fun x o n t e=>b.keep x o (fun z=>(a.sub x z).elim n fun q=>by rw[e]at q;cases q) t (a.keep x o n t e)
 live:=fun x e=>b.live x (a.live x e)
 stay:=fun x e n g=>b.stay x (a.live x e) (fun z=>(a.sub x z).elim n fun q=>e q) (a.stay x e n g)
 sub:=fun x z=>(b.sub x z).elim (fun q=>a.sub x q) fun q=>.inr (by
  cases h:H x with
  |none=>rfl
  |some o=>exact absurd q (a.live x (by rw[h];simp)))
 par:=fun i w e h=>by
  obtain⟨h1,d1,e1,p1⟩:=b.par i w e h;obtain⟨h2,d2,e2,p2⟩:=a.par i d1 e1 p1;exact⟨h1.trans h2,d2,e2,p2⟩
 slen:=b.slen.trans a.slen
theorem Rel.ownL{K:Qq}{B:OA}{G:Hp}{σ:St}{env:Env'}{H:Hp}(r:Rel K B G σ env H)(i:Nat)(w:W)(ds:List D)(e1:env[i]? =some w)(e2:w.mutL=some ds):∃a xs,σ[i]? =some (some (V.ref a))/\H a=some (.lst xs)/\z7_ K G xs ds/\G a=none:=by
 obtain⟨a,o,h1,h2,⟨xs,rfl,h3⟩,h4⟩:=r.own i w (.l ds) e1 (W.mutL_of e2);exact⟨a,xs,h1,h2,h3,h4⟩
theorem Rel.ownD{K:Qq}{B:OA}{G:Hp}{σ:St}{env:Env'}{H:Hp}(r:Rel K B G σ env H)(i:Nat)(w:W)(ks:OI)(vs:List D)(e1:env[i]? =some w)(e2:w.mutD=some (ks,vs)):∃a kvs,σ[i]? =some (some (V.ref a))/\H a=some (.dT (w3_ K) kvs)/\kvs.map (·.1)=ks.map x0_/\z7_ K G (kvs.map (·.2)) vs/\G a=none:=by
 obtain⟨a,o,h1,h2,⟨kvs,rfl,h3,h4⟩,h5⟩:=r.own i w (.d ks vs) e1 (W.mutD_of e2);exact⟨a,kvs,h1,h2,h3,h4,h5⟩
abbrev Mo(α:Type):=Env'->Option (α×Env')
section
variable(K:Qq)(B:OA)
def TD(m:Mo D):TE:=fun σ H Q=>∃G env d env',Rel K B G σ env H/\m env=some (d,env')/\∀v G' H',Ev K B G σ env H G' σ env' H'->Rep K G' v d->Q v H'
def TL(m:Mo (List D)):TE:=fun σ H Q=>∃G env ds env',Rel K B G σ env H/\m env=some (ds,env')/\∀a xs G' H',Ev K B G σ env H G' σ env' H'->H a=none-> ¬ Owned σ env' a->H' a=some (.lst xs)->G' a=none->z7_ K G' xs ds->Q (.ref a) H'
def TTm(m:Mo Bool):TT:=fun σ H Q=>∃G env b env',Rel K B G σ env H/\m env=some (b,env')/\∀G' H',Ev K B G σ env H G' σ env' H'->Q b H'
inductive Ar where
 |d (d:D)|sl (i:Nat)
 deriving Inhabited
def RepA(G:Hp)(σ:St):List V->List Ar->Prop
 |xs,[]=>xs=[]
 |xs,.d d::as=>∃x r,xs=x::r/\Rep K G x d/\RepA G σ r as
 |xs,.sl i::as=>∃x r,xs=x::r/\σ[i]? =some (some x)/\RepA G σ r as
def TAm(m:Mo (List Ar)):TA:=fun σ H Q=>∃G env as env',Rel K B G σ env H/\m env=some (as,env')/\∀vs G' H',Ev K B G σ env H G' σ env' H'->RepA K G' σ vs as->Q vs H'
def TDs(m:Mo (List D)):TA:=fun σ H Q=>∃G env ds env',Rel K B G σ env H/\m env=some (ds,env')/\∀vs G' H',Ev K B G σ env H G' σ env' H'->z7_ K G' vs ds->Q vs H'
inductive Fl where
 |nx|bk|ct|ret (d:D)|retL (ds:List D)
def Post(G:Hp)(σ:St)(env:Env')(H:Hp)(env':Env')(D:Ends):Fl->Prop
 |.nx=>∀σ' G' H',Ev K B G σ env H G' σ' env' H'->D.nx σ' H'
 |.bk=>∀σ' G' H',Ev K B G σ env H G' σ' env' H'->D.bk σ' H'
 |.ct=>∀σ' G' H',Ev K B G σ env H G' σ' env' H'->D.ct σ' H'
 |.ret d=>∀v σ' G' H',Ev K B G σ env H G' σ' env' H'->Rep K G' v d->D.rt v H'
 |.retL ds=>∀a xs σ' G' H',Ev K B G σ env H G' σ' env' H'-> ¬ B a-> ¬ Owned σ' env' a->H' a=some (.lst xs)->G' a=none->z7_ K G' xs ds->D.rt (.ref a) H'
def TSm(m:Mo Fl):TS:=fun D σ H=>∃G env fl env',Rel K B G σ env H/\m env=some (fl,env')/\Post K B G σ env H env' D fl
theorem Post.after{G G1:Hp}{σ σ1:St}{env env1 env':Env'}{H H1:Hp}{D:Ends}{fl:Fl}(k:Post K B G σ env H env' D fl)(ev:Ev K B G σ env H G1 σ1 env1 H1):Post K B G1 σ1 env1 H1 env' D fl:=by
 cases fl with
 |nx=>exact fun σ2 G2 H2 ev2=>k σ2 G2 H2 (ev.trans ev2)
 |bk=>exact fun σ2 G2 H2 ev2=>k σ2 G2 H2 (ev.trans ev2)
 |ct=>exact fun σ2 G2 H2 ev2=>k σ2 G2 H2 (ev.trans ev2)
 |ret d=>exact fun v σ2 G2 H2 ev2=>k v σ2 G2 H2 (ev.trans ev2)
 |retL d=>exact fun a xs σ2 G2 H2 ev2=>k a xs σ2 G2 H2 (ev.trans ev2)
end
abbrev ED(X:Cx)(B:OA)(e:Expr)(m:Mo D):Prop:=PE X e (TD X.K B m)
abbrev EL(X:Cx)(B:OA)(e:Expr)(m:Mo (List D)):Prop:=PE X e (TL X.K B m)
abbrev ET(X:Cx)(B:OA)(e:Expr)(m:Mo Bool):Prop:=PT X e (TTm X.K B m)
abbrev EAr(X:Cx)(B:OA)(es:List Expr)(m:Mo (List Ar)):Prop:=PA X es (TAm X.K B m)
abbrev EDs(X:Cx)(B:OA)(es:List Expr)(m:Mo (List D)):Prop:=PA X es (TDs X.K B m)
abbrev ES(X:Cx)(B:OA)(s:Stmt)(m:Mo Fl):Prop:=PS X s (TSm X.K B m)
abbrev ESs(X:Cx)(B:OA)(s:List Stmt)(m:Mo Fl):Prop:=PSs X s (TSm X.K B m)
theorem pe_imp{X:Cx}{e:Expr}{t t':TE}(h:PE X e t)(i:∀σ H Q,t' σ H Q->t σ H Q):PE X e t':=fun pins s σ H Q I q=>h pins s σ H Q I (i σ H Q q)
theorem pt_imp{X:Cx}{e:Expr}{t t':TT}(h:PT X e t)(i:∀σ H Q,t' σ H Q->t σ H Q):PT X e t':=fun pins s σ H Q I q=>h pins s σ H Q I (i σ H Q q)
theorem pw_imp{X:Cx}{e:Expr}{t t':TT}(h:PW X e t)(i:∀σ H Q,t' σ H Q->t σ H Q):PW X e t':=fun wh pins s σ H Q I q=>h wh pins s σ H Q I (i σ H Q q)
theorem pa_imp{X:Cx}{e:List Expr}{t t':TA}(h:PA X e t)(i:∀σ H Q,t' σ H Q->t σ H Q):PA X e t':=fun pos pins s σ H Q I q=>h pos pins s σ H Q I (i σ H Q q)
theorem ps_imp{X:Cx}{e:Stmt}{t t':TS}(h:PS X e t)(i:∀D σ H,t' D σ H->t D σ H):PS X e t':=fun pins s σ H D I q=>h pins s σ H D I (i D σ H q)
theorem pss_imp{X:Cx}{e:List Stmt}{t t':TS}(h:PSs X e t)(i:∀D σ H,t' D σ H->t D σ H):PSs X e t':=fun pins s σ H D I q=>h pins s σ H D I (i D σ H q)
section
variable{K:Qq}{B:OA}{G G':Hp}{σ σ':St}{env env':Env'}{H H':Hp}
theorem Rel.gnone(r:Rel K B G σ env H){p:Addr}(h:H p=none):G p=none:=by
 cases e:G p with
 |none=>rfl
 |some o=>rw[r.sub p o e]at h;cases h
theorem Rel.unowned(r:Rel K B G σ env H){p:Addr}(h:H p=none):¬ Owned σ env p:=by
 rintro⟨i,w,ds,e1,e2,e3⟩;obtain⟨a,xs,e4,e5,_⟩:=r.own i w ds e1 e2;rw[e3]at e4;cases e4;rw[h]at e5;cases e5
theorem a5G{G:Hp}{p:Addr}{o:HO}(h:∀b o,G b=some o->NT o)(no:NT o):∀b u,upd G p o b=some u->NT u:=fun b u e=>by
 by_cases hb:b=p
 ·subst hb;rw[x3_]at e;cases e;exact no
 ·rw[v4_ hb]at e;exact h b u e
theorem Rel.alloc(r:Rel K B G σ env H){p:Addr}{o:HO}(h:H p=none)(no:NT o:=by intro _ z;cases z):Ev K B G σ env H (upd G p o) σ env (upd H p o):=by
 have gp:=r.gnone h
 refine⟨⟨fun b u e=>?_,r.len,fun i d e=>?_,fun i w ds e1 e2=>?_,r.inj,r.fresh,fun b e=>?_,r.tabs.upd no (fun φ z=>by rw[h]at z;cases z),a5G r.gnt no⟩,Le.upd gp,fun b u _ _ e=>?_,fun b e=>?_,fun b e _ g=>?_,fun a z=>.inl z,fun i w e hp=>⟨rfl,w,e,hp⟩,rfl⟩
 ·by_cases hb:b=p
  ·subst hb;rw[x3_]at e ⊢;exact e
  ·rw[v4_ hb]at e ⊢;exact r.sub b u e
 ·obtain⟨v,e1,e2⟩:=r.dat i d e
  exact⟨v,e1,Rep.mono (Le.upd gp) d e2⟩
 ·obtain⟨a,xs,e3,e4,e5,e6⟩:=r.own i w ds e1 e2
  have ha:a≠p:=g9_ e4 h
  exact⟨a,xs,e3,by rw[v4_ ha];exact e4,e5.mono (Le.upd gp),by rw[v4_ ha];exact e6⟩
 ·by_cases hb:b=p
  ·subst hb;rw[x3_];simp
  ·rw[v4_ hb];exact r.old b e
 ·rw[v4_ (g9_ e h)];exact e
 ·by_cases hb:b=p
  ·subst hb;rw[x3_];simp
  ·rw[v4_ hb];exact e
 ·have hb:b≠p:=fun z=>e (z ▸ h)
  rw[v4_ hb];exact g
theorem Rel.allocM(r:Rel K B G σ env H){p:Addr}{o:HO}(h:H p=none)(no:NT o:=by intro _ z;cases z):Ev K B G σ env H G σ env (upd H p o):=by
 refine⟨⟨fun b u e=>?_,r.len,r.dat,fun i w ds e1 e2=>?_,r.inj,r.fresh,fun b e=>?_,r.tabs.upd no (fun φ z=>by rw[h]at z;cases z),r.gnt⟩,Le.refl,fun b u _ _ e=>?_,fun b e=>?_,fun b e _ g=>g,fun a z=>.inl z,fun i w e hp=>⟨rfl,w,e,hp⟩,rfl⟩
 ·rw[v4_ (g9_ (r.sub b u e) h)];exact r.sub b u e
 ·obtain⟨a,xs,e3,e4,e5,e6⟩:=r.own i w ds e1 e2
  exact⟨a,xs,e3,by rw[v4_ (g9_ e4 h)];exact e4,e5,e6⟩
 ·by_cases hb:b=p
  ·subst hb;rw[x3_];simp
  ·rw[v4_ hb];exact r.old b e
 ·rw[v4_ (g9_ e h)];exact e
 ·by_cases hb:b=p
  ·subst hb;rw[x3_];simp
  ·rw[v4_ hb];exact e
theorem Ev.frz{a:Addr}{xs:List V}(v:Ev K B G σ env H G' σ' env' H')(ha:H a=none)(no:¬ Owned σ' env' a)(h':H' a=some (.lst xs))(g':G' a=none):
  Ev K B G σ env H (upd G' a (.lst xs)) σ' env' H':=by
 refine⟨⟨fun b u e=>?_,v.rel.len,fun i d e=>?_,fun i w ds e1 e2=>?_,v.rel.inj,v.rel.fresh,v.rel.old,v.rel.tabs,a5G v.rel.gnt nt_lst⟩,v.same.trans (Le.upd g'),v.keep,v.live,fun b e n g=>?_,v.sub,v.par,v.slen⟩
 ·by_cases hb:b=a
  ·subst hb;rw[x3_]at e;cases e;exact h'
  ·rw[v4_ hb]at e;exact v.rel.sub b u e
 ·obtain⟨x,e1,e2⟩:=v.rel.dat i d e
  exact⟨x,e1,Rep.mono (Le.upd g') d e2⟩
 ·obtain⟨p,ys,e3,e4,e5,e6⟩:=v.rel.own i w ds e1 e2
  have hp:p≠a:=fun z=>no ⟨i,w,ds,e1,e2,by rw[←z];exact e3⟩
  exact⟨p,ys,e3,e4,e5.mono (Le.upd g'),by rw[v4_ hp];exact e6⟩
 ·have hb:b≠a:=fun z=>e (z ▸ ha)
  rw[v4_ hb];exact v.stay b e n g
theorem a8U{a:Addr}{xs:List V}{ds:List D}(h:G a=some (.lst xs))(r:z7_ K G xs ds):Rep K G (.ref a) (.lst ds):=by
 simp only[Rep];exact⟨a,xs,rfl,.inl (.inl h),r⟩
theorem a1Q{a:Addr}{xs:List V}{ds:List D}(h:G a=some (.tup xs))(r:z7_ K G xs ds):Rep K G (.ref a) (.tup ds):=by
 simp only[Rep];exact⟨a,xs,rfl,.inl h,r⟩
theorem Rel.frzSlotM{i:Nat}{w0:W}{m:Mu}{d:D}(r:Rel K B G σ env H)(e:env[i]? =some w0)(em:w0.mut=some m)(hrep:∀G1 a o,G1 a=some o->RepM K G1 o m->Rep K G1 (.ref a) d):
  ∃a o,σ[i]? =some (some (.ref a))/\Rep K (upd G a o) (.ref a) d/\Ev K B G σ env H (upd G a o) σ (env.set i (.dat d)) H:=by
 obtain⟨a,o,e1,e2,e3,e4⟩:=r.own i _ m e em;have rp:Rep K (upd G a o) (.ref a) d:=hrep _ a o x3_ (e3.mono (Le.upd e4));have ow:Owned σ env a:=⟨i,_,m,e,em,e1⟩;have hi:i<env.length:=(Qy.mp e).1;have ne:∀j w es,(env.set i (.dat d))[j]? =some w->w.mut=some es->j≠i/\env[j]? =some w:=fun j w es q1 q2=>by
  by_cases hj:j=i
  ·subst hj;rw[Yb hi]at q1;cases q1;cases q2
  ·rw[Qc (Zh hj)]at q1;exact⟨hj,q1⟩
 refine⟨a,o,e1,rp,⟨⟨fun b u q=>?_,by rw[Zl];exact r.len,fun j d q=>?_,fun j w es q1 q2=>?_,fun j k w w' es fs b q1 q2 q3 q4 q5 q6=>?_,fun j w b q1 qo q2=>?_,r.old,r.tabs,a5G r.gnt e3.nt⟩,Le.upd e4,fun b o _ _ q=>q,fun b q=>q,fun b q n g=>?_,fun b z=>?_,fun j w q qp=>?_,rfl⟩⟩
 ·by_cases hb:b=a
  ·subst hb;rw[x3_]at q;cases q;exact e2
  ·rw[v4_ hb]at q;exact r.sub b u q
 ·by_cases hj:j=i
  ·subst hj;rw[Yb hi]at q;cases q;exact⟨_,e1,rp⟩
  ·rw[Qc (Zh hj)]at q
   obtain⟨x,q1,q2⟩:=r.dat j d q;exact⟨x,q1,Rep.mono (Le.upd e4) d q2⟩
 ·obtain⟨hj,q⟩:=ne j w es q1 q2
  obtain⟨p,ys,e3',e4',e5',e6'⟩:=r.own j w es q q2;have hp:p≠a:=fun z=>hj (r.inj j i w _ es m a q q2 e em (by rw[e3',z]) e1)
  exact⟨p,ys,e3',e4',e5'.mono (Le.upd e4),by rw[v4_ hp];exact e6'⟩
 ·exact r.inj j k w w' es fs b (ne j w es q1 q2).2 q2 (ne k w' fs q3 q4).2 q4 q5 q6
 ·obtain⟨es,hm⟩:=own_mut qo
  exact r.fresh j w b (ne j _ es q1 hm).2 qo q2
 ·have hb:b≠a:=fun z=>n (z ▸ ow)
  rw[v4_ hb];exact g
 ·obtain⟨j,w,es,q1,q2,q3⟩:=z
  exact .inl ⟨j,w,es,(ne j w es q1 q2).2,q2,q3⟩
 ·obtain⟨es,hm⟩:=par_mut qp
  exact⟨rfl,w,(ne j _ es q hm).2,qp⟩
theorem Rel.frzSlot{i:Nat}{ds:List D}(r:Rel K B G σ env H)(e:env[i]? =some (.own ds)):
  ∃a o,σ[i]? =some (some (.ref a))/\Rep K (upd G a o) (.ref a) (.lst ds)/\Ev K B G σ env H (upd G a o) σ (env.set i (.dat (.lst ds))) H:=
 r.frzSlotM (m:=.l ds) e rfl fun G1 a o h ⟨xs,z,q⟩=>by subst z;exact a8U h q
theorem Rel.frzSlotD{i:Nat}{ks:OI}{vs:List D}(r:Rel K B G σ env H)(e:env[i]? =some (.ownD ks vs)):
  ∃a o,σ[i]? =some (some (.ref a))/\Rep K (upd G a o) (.ref a) (.dct ks vs)/\Ev K B G σ env H (upd G a o) σ (env.set i (.dat (.dct ks vs))) H:=
 r.frzSlotM (m:=.d ks vs) e rfl fun G1 a o h ⟨kvs,z,q1,q2⟩=>by subst z;simp only[Rep];exact⟨a,kvs,rfl,h,q1,q2⟩
end
def z0_(i:Nat):Mo D:=fun env=>match env[i]? with
 |some (.dat d)=>some (d,env)
 |some (.own ds)=>some (.lst ds,env.set i (.dat (.lst ds)))
 |some (.ownD ks vs)=>some (.dct ks vs,env.set i (.dat (.dct ks vs)))
 |_=>none
def mC(d:D):Mo D:=fun env=>some (d,env)
section
variable{X:Cx}{B:OA}{pos:Pos}
theorem z2_{i:Nat}{x:Str}(h:PE X (.Name x pos) (a0f i)):ED X B (.Name x pos) (z0_ i):=by
 refine pe_imp h fun σ H Q q=>?_
 obtain⟨G,env,d,env',r,e,k⟩:=q;unfold z0_ at e;split at e
 ·rename_i d' e1
  cases e;obtain⟨v,e2,e3⟩:=r.dat i _ e1;exact⟨v,e2,k v G H (.refl r) e3⟩
 ·rename_i ds e1
  cases e;obtain⟨a,xs,e2,e3,e4⟩:=r.frzSlot e1;exact⟨_,e2,k _ _ H e4 e3⟩
 ·rename_i ks vs e1
  cases e;obtain⟨a,xs,e2,e3,e4⟩:=r.frzSlotD e1;exact⟨_,e2,k _ _ H e4 e3⟩
 ·cases e
theorem a4n{e:Expr}{v:V}{d:D}(h:PE X e (tC v))(hd:∀K G,Rep K G v d):ED X B e (mC d):=by
 refine pe_imp h fun σ H Q q=>?_
 obtain⟨G,env,d',env',r,e,k⟩:=q;cases e;exact k v G H (.refl r) (hd _ _)
theorem q4_{i:Int}{j:Nat}:ED X B (.Constant (.int i) j pos) (mC (.int i)):=a4n a8m fun _ _=>by simp only[Rep]
theorem w7_{b:Bool}{j:Nat}:ED X B (.Constant (.bool b) j pos) (mC (.bl b)):=a4n b2c fun _ _=>by simp only[Rep]
theorem b3Z{x:Str}{j:Nat}(hx:x.length≤1000):ED X B (.Constant (.str x) j pos) (mC (.str x)):=a4n b2d fun _ _=>by simp only[Rep];exact⟨trivial,Uf (a5D hx)⟩
theorem b4a{x:Str}{i:Int}{t:Tok}(hg:Gl X x)(hm:X.mg x=some (.int i t))(hd:(x==("__debug__":Str))=false:=by decide):ED X B (.Name x pos) (mC (.int i)):=
 a4n (a5i (v:=.int i) hg hm ⟨t,rfl⟩ hd) fun _ _=>by simp only[Rep]
def z4_(f:D->D->Option D)(ma mb:Mo D):Mo D:=fun env=>(ma env).bind fun p=>(mb p.2).bind fun q=>(f p.1 q.1).map fun d=>(d,q.2)
def OpD(X:Cx)(B:OA)(r:R2)(f:D->D->Option D):Prop:=
 ∀(G:Hp) (σ:St) (env:Env') (H:Hp) (x y:V) (a b c:D) (Q:VK),Rel X.K B G σ env H->Rep X.K G x a->Rep X.K G y b->f a b=some c->
  (∀v G' H',Ev X.K B G σ env H G' σ env H'->Rep X.K G' v c->Q v H')->r x y H Q
theorem a4o{r:R2}{f:D->D->Option D}{ma mb:Mo D}(o:OpD X B r f):∀σ H Q,TD X.K B (z4_ f ma mb) σ H Q->tOp r (TD X.K B ma) (TD X.K B mb) σ H Q:=by
 rintro σ H Q ⟨G,env,d,env',rl,e,k⟩;unfold z4_ at e;cases ea:ma env with
 |none=>rw[ea]at e;cases e
 |some p=>
  obtain⟨d1,env1⟩:=p;rw[ea]at e;simp only[Qk]at e;cases eb:mb env1 with
  |none=>rw[eb]at e;cases e
  |some p=>
   obtain⟨d2,env2⟩:=p;rw[eb]at e;simp only[Qk]at e;cases ef:f d1 d2 with
   |none=>rw[ef]at e;cases e
   |some c=>
    rw[ef]at e;cases e;refine⟨G,env,d1,env1,rl,ea,fun v1 G1 H1 v r1=>⟨G1,env1,d2,_,v.rel,eb,fun v2 G2 H2 v' r2=>?_⟩⟩
    exact o G2 σ _ H2 v1 v2 d1 d2 _ Q v'.rel (Rep.mono v'.same _ r1) r2 ef fun v3 G3 H3 v3' r3=>k v3 G3 H3 ((v.trans v').trans v3') r3
theorem y5_{op:Operator}{r:R2}{f:D->D->Option D}{a b:Expr}{ma mb:Mo D}(ho:OpR X (binaryOp op) r)(o:OpD X B r f)(ha:ED X B a ma)(hb:ED X B b mb):ED X B (.BinOp a op b pos) (z4_ f ma mb):=
 pe_imp (b2Z ho ha hb) (a4o o)
theorem a8V{op:CmpOp}{r:R2}{f:D->D->Option D}{a b:Expr}{ma mb:Mo D}(ho:OpR X (compareOp op) r)(o:OpD X B r f)(ha:ED X B a ma)(hb:ED X B b mb)(hm:behindInMarks op b=false):ED X B (.Compare a [op] [b] pos) (z4_ f ma mb):=
 pe_imp (b3f ho ha hb hm) (a4o o)
def fI(C:Int->Int->Bool)(g:Int->Int->D):D->D->Option D
 |.int i,.int j=>if C i j then some (g i j)else none
 |_,_=>none
theorem a4p{C:Int->Int->Prop}{c:Int->Int->Bool}{g:Int->Int->V}{g':Int->Int->D}(hc:∀i j,c i j=true->C i j)(hg:∀K G i j,Rep K G (g i j) (g' i j)):OpD X B (rI C g) (fI c g'):=by
 intro G σ env H x y a b d Q rl ra rb e k;cases a<;>cases b<;>first|(exact absurd (show(none:Option D)=some d from e) (by simp))|skip
 rename_i i j;simp only[Rep]at ra rb;subst ra rb;simp only[fI]at e;split at e
 ·rename_i h
  cases e;exact⟨i,j,rfl,rfl,hc i j h,k _ G H (.refl rl) (hg _ _ i j)⟩
 ·cases e
theorem a3m{g:Int->Int->V}{g':Int->Int->D}(hg:∀K G i j,Rep K G (g i j) (g' i j)):OpD X B (rI0 g) (fI (fun _ _=>true) g'):=by
 intro G σ env H x y a b d Q rl ra rb e k;cases a<;>cases b<;>first|(exact absurd (show(none:Option D)=some d from e) (by simp))|skip
 rename_i i j;simp only[Rep]at ra rb;subst ra rb;simp only[fI,Zs]at e;cases e;exact⟨i,j,rfl,rfl,k _ G H (.refl rl) (hg _ _ i j)⟩
theorem OpR.or{f:Value->Value->Sem Value}{r r':R2}(h:OpR X f r)(h':OpR X f r'):OpR X f (fun x y H Q=>r x y H Q∨r' x y H Q):=by
 intro pins s σ H x y v u Q I rx ry q
 rcases q with q|q
 ·exact h pins s σ H x y v u Q I rx ry q
 ·exact h' pins s σ H x y v u Q I rx ry q
def fOr(f g:D->D->Option D):D->D->Option D:=fun a b=>match f a b with
 |some c=>some c
 |none=>g a b
theorem OpD.or{r r':R2}{f g:D->D->Option D}(h:OpD X B r f)(h':OpD X B r' g):OpD X B (fun x y H Q=>r x y H Q∨r' x y H Q) (fOr f g):=by
 intro G σ env H x y a b d Q rl ra rb e k;unfold fOr at e;split at e
 ·rename_i c ec
  cases e;exact .inl (h G σ env H x y a b _ Q rl ra rb ec k)
 ·exact .inr (h' G σ env H x y a b d Q rl ra rb e k)
def a1R(i j:Int):Bool:=(decide (-(2^64)<i)&&decide (i<2^64))||(decide (-(2^64)<j)&&decide (j<2^64))
def a4q(_ j:Int):Bool:=decide (0<j)&&decide (j<1073741824)
def a4r(i j:Int):Bool:=decide (0≤j)&&decide (j≤1000000)&&decide (i.natAbs<2^64)
def w8_:=fI (fun _ _=>true) fun i j=>.int (i-j)
def a5H:=fI a1R fun i j=>.int (i * j)
def a3n:=fI a4q fun i j=>.int (i/j)
def a0n:=fI (fun _ j=>decide (0<j)) fun i j=>.int (i%j)
def a1j:=fI a4r fun i j=>.int (i^j.toNat)
def a4s:=fI (fun _ _=>true) fun i j=>.int (i+j)
def dLt:=fI (fun _ _=>true) fun i j=>.bl (decide (i<j))
def dLe:=fI (fun _ _=>true) fun i j=>.bl (decide (i≤j))
def dGe:=fI (fun _ _=>true) fun i j=>.bl (decide (j≤i))
theorem a1S:OpD X B (rI0 fun i j=>.int (i-j)) w8_:=a3m fun _ _ _ _=>by simp only[Rep]
theorem a8W:OpD X B (rI0 fun i j=>.int (i+j)) a4s:=a3m fun _ _ _ _=>by simp only[Rep]
theorem b4b:OpD X B (rI a1K fun i j=>.int (i * j)) a5H:=a4p (fun i j h=>by simpa [a1K,a1R]using h) fun _ _ _ _=>by simp only[Rep]
theorem a8X:OpD X B (rI a5r fun i j=>.int (i/j)) a3n:=a4p (fun i j h=>by simpa [a5r,a4q]using h) fun _ _ _ _=>by simp only[Rep]
theorem a2x:OpD X B (rI (fun _ j=>0<j) fun i j=>.int (i%j)) a0n:=a4p (fun i j h=>by simpa using h) fun _ _ _ _=>by simp only[Rep]
theorem a8Y:OpD X B (rI a5s fun i j=>.int (i^j.toNat)) a1j:=a4p (fun i j h=>by simpa [a5s,a4r,and_assoc]using h) fun _ _ _ _=>by simp only[Rep]
theorem b4c:OpD X B (rI0 fun i j=>.bl (decide (i<j))) dLt:=a3m fun _ _ _ _=>by simp only[Rep]
theorem a2y:OpD X B (rI0 fun i j=>.bl (decide (i≤j))) dLe:=a3m fun _ _ _ _=>by simp only[Rep]
theorem b4d:OpD X B (rI0 fun i j=>.bl (decide (j≤i))) dGe:=a3m fun _ _ _ _=>by simp only[Rep]
end
section
variable{X:Cx}{B:OA}{pos:Pos}{a b c e:Expr}{ma mb mc:Mo D}{ta tb:Mo Bool}
theorem TD.bind{K:Qq}{m:Mo D}{σ:St}{H:Hp}{Q:VK}{G:Hp}{env env':Env'}{d:D}(r:Rel K B G σ env H)(e:m env=some (d,env'))
  (k:∀v G' H',Ev K B G σ env H G' σ env' H'->Rep K G' v d->Q v H'):TD K B m σ H Q:=⟨G,env,d,env',r,e,k⟩
def asB:D×Env'->Option (Bool×Env')
 |(.bl b,e)=>some (b,e)
 |_=>none
def mT(m:Mo D):Mo Bool:=fun env=>(m env).bind asB
theorem a5I{t:TE}{m:Mo D}(i:∀σ H Q,TD X.K B m σ H Q->t σ H Q)(mono:True):∀σ H Q,TTm X.K B (mT m) σ H Q->(fun σ H (Q:Bool->Hp->Prop)=>t σ H fun x H'=>∃k,x=.bl k/\Q k H') σ H Q:=by
 rintro σ H Q ⟨G,env,b,env',rl,e,k⟩;unfold mT at e;cases em:m env with
 |none=>rw[em]at e;cases e
 |some p=>
  obtain⟨d,env1⟩:=p;rw[em]at e;simp only[Qk]at e;cases d<;>first|(exact absurd (show(none:Option (Bool×Env'))=some (b,env')from e) (by simp))|skip
  cases e;refine i σ H _ (.bind rl em fun v G' H' ev r=>?_)
  simp only[Rep]at r;exact⟨_,r,k G' H' ev⟩
theorem a0o(h:ED X B e ma)(he:∀whole,isTrue e X.env whole=(do let v←whole;standAt e.pos;holding [v] (truthy v)):=by intro _;rfl):ET X B e (mT ma):=
 pt_imp (b2g h he) (a5I (fun _ _ _ q=>q) trivial)
theorem w1_{op:CmpOp}{r:R2}{f:D->D->Option D}(ho:OpR X (compareOp op) r)(o:OpD X B r f)(ha:ED X B a ma)(hb:ED X B b mb)(hm:behindInMarks op b=false):ET X B (.Compare a [op] [b] pos) (mT (z4_ f ma mb)):=
 pt_imp (b3g ho ha hb hm) (a5I (a4o o) trivial)
def x5_(t:Mo Bool):Mo Bool:=fun env=>(t env).map fun p=>(!p.1,p.2)
theorem a0h(h:ET X B a ta):ET X B (.UnaryOp .Not a pos) (x5_ ta):=by
 refine pt_imp (b2m h) ?_
 rintro σ H Q ⟨G,env,b,env',rl,e,k⟩;unfold x5_ at e;cases em:ta env with
 |none=>rw[em]at e;cases e
 |some p=>rw[em]at e;cases e;exact⟨G,env,_,_,rl,em,k⟩
def a3o(t u:Mo Bool):Mo Bool:=fun env=>(t env).bind fun p=>if p.1 then u p.2 else some (false,p.2)
def k6_(t u:Mo Bool):Mo Bool:=fun env=>(t env).bind fun p=>if p.1 then some (true,p.2)else u p.2
theorem b4e:∀σ H Q,TTm X.K B (a3o ta tb) σ H Q->a8o (TTm X.K B ta) (TTm X.K B tb) σ H Q:=by
 rintro σ H Q ⟨G,env,b,env',rl,e,k⟩;unfold a3o at e;cases em:ta env with
 |none=>rw[em]at e;cases e
 |some p=>
  obtain⟨b1,env1⟩:=p;rw[em]at e;simp only[Qk]at e;refine⟨G,env,b1,env1,rl,em,fun G1 H1 ev=>?_⟩
  cases b1 with
  |true=>
   simp only[Zs]at e ⊢;exact⟨G1,env1,b,env',ev.rel,e,fun G2 H2 ev2=>k G2 H2 (ev.trans ev2)⟩
  |false=>
   simp only[Zx,Yx]at e ⊢;cases e;exact k G1 H1 ev
theorem b4f:∀σ H Q,TTm X.K B (k6_ ta tb) σ H Q->tOr (TTm X.K B ta) (TTm X.K B tb) σ H Q:=by
 rintro σ H Q ⟨G,env,b,env',rl,e,k⟩;unfold k6_ at e;cases em:ta env with
 |none=>rw[em]at e;cases e
 |some p=>
  obtain⟨b1,env1⟩:=p;rw[em]at e;simp only[Qk]at e;refine⟨G,env,b1,env1,rl,em,fun G1 H1 ev=>?_⟩
  cases b1 with
  |false=>
   simp only[Zx,Yx]at e ⊢;exact⟨G1,env1,b,env',ev.rel,e,fun G2 H2 ev2=>k G2 H2 (ev.trans ev2)⟩
  |true=>
   simp only[Zs]at e ⊢;cases e;exact k G1 H1 ev
abbrev EW(X:Cx)(B:OA)(e:Expr)(m:Mo Bool):Prop:=PW X e (TTm X.K B m)
variable{rest:List Expr}
theorem a8Z(h:ET X B a ta):EW X B (.BoolOp .And [a] pos) ta:=b2i h
theorem a1T(h:ET X B a ta):EW X B (.BoolOp .Or [a] pos) ta:=b2j h
theorem a9a(h:ET X B a ta)(h2:EW X B (.BoolOp .And (b::rest) pos) tb):EW X B (.BoolOp .And (a::b::rest) pos) (a3o ta tb):=pw_imp (b2k h h2) b4e
theorem a1U(h:ET X B a ta)(h2:EW X B (.BoolOp .Or (b::rest) pos) tb):EW X B (.BoolOp .Or (a::b::rest) pos) (k6_ ta tb):=pw_imp (b2l h h2) b4f
theorem a0X(h:EW X B e ta):ET X B e ta:=h.pt
def u0_(m n:Mo D):Mo D:=fun env=>(m env).bind fun p=>match p.1 with
 |.bl true=>n p.2
 |.bl false=>some (.bl false,p.2)
 |_=>none
theorem a3p{op}(h:ED X B a ma):ED X B (.BoolOp op [a] pos) ma:=b2p h
theorem a3q(ha:ED X B a ma)(hb:ED X B (.BoolOp .And (b::rest) pos) mb):ED X B (.BoolOp .And (a::b::rest) pos) (u0_ ma mb):=by
 refine pe_imp (b2q ha hb) ?_
 rintro σ H Q ⟨G,env,d,env',rl,e,k⟩;unfold u0_ at e;cases em:ma env with
 |none=>rw[em]at e;cases e
 |some p=>
  obtain⟨d1,env1⟩:=p;rw[em]at e;simp only[Qk]at e;refine .bind rl em fun v G1 H1 ev r1=>?_
  split at e
  ·simp only[Rep]at r1
   exact⟨true,r1,by simp only[Zs];exact .bind ev.rel e fun v2 G2 H2 ev2 r2=>k v2 G2 H2 (ev.trans ev2) r2⟩
  ·simp only[Rep]at r1
   cases e;exact⟨false,r1,by simp only[Zx,Yx];exact k _ G1 H1 ev (by simp only[Rep])⟩
  ·cases e
def a5J(m:Mo D):Mo D:=fun env=>(m env).bind fun p=>match p.1 with
 |.bl b=>some (.bl (!b),p.2)
 |_=>none
theorem b4g(ha:ED X B a ma):ED X B (.UnaryOp .Not a pos) (a5J ma):=by
 refine pe_imp (b2r ha) ?_
 rintro σ H Q ⟨G,env,d,env',rl,e,k⟩;unfold a5J at e;cases em:ma env with
 |none=>rw[em]at e;cases e
 |some p=>
  obtain⟨d1,env1⟩:=p;rw[em]at e;simp only[Qk]at e;refine .bind rl em fun v G1 H1 ev r1=>?_
  split at e
  ·rename_i b1
   simp only[Rep]at r1;cases e;exact⟨b1,r1,k _ G1 H1 ev (by simp only[Rep])⟩
  ·cases e
def a1k(m:Mo D):Mo D:=fun env=>(m env).bind fun p=>match p.1 with
 |.int b=>some (.int (-b),p.2)
 |_=>none
theorem a9b(ha:ED X B a ma):ED X B (.UnaryOp .USub a pos) (a1k ma):=by
 refine pe_imp (a8t a8w ha) ?_
 rintro σ H Q ⟨G,env,d,env',rl,e,k⟩;unfold a1k at e;cases em:ma env with
 |none=>rw[em]at e;cases e
 |some p=>
  obtain⟨d1,env1⟩:=p;rw[em]at e;simp only[Qk]at e;refine .bind rl em fun v G1 H1 ev r1=>?_
  split at e
  ·rename_i b1
   simp only[Rep]at r1;cases e;exact⟨b1,r1,k _ G1 H1 ev (by simp only[Rep])⟩
  ·cases e
def a0B(f g:D->D->Option D)(ma mb mc:Mo D):Mo D:=fun env=>(ma env).bind fun p=>(mb p.2).bind fun q=>match f p.1 q.1 with
 |some (.bl true)=>(mc q.2).bind fun r=>(g q.1 r.1).map fun d=>(d,r.2)
 |some (.bl false)=>some (.bl false,q.2)
 |_=>none
theorem a9c{r r':R2}{f g:D->D->Option D}(o:OpD X B r f)(o':OpD X B r' g):∀σ H Q,TD X.K B (a0B f g ma mb mc) σ H Q->a5t r r' (TD X.K B ma) (TD X.K B mb) (TD X.K B mc) σ H Q:=by
 rintro σ H Q ⟨G,env,d,env',rl,e,k⟩;unfold a0B at e;cases ea:ma env with
 |none=>rw[ea]at e;cases e
 |some p=>
  obtain⟨d1,env1⟩:=p;rw[ea]at e;simp only[Qk]at e;cases eb:mb env1 with
  |none=>rw[eb]at e;cases e
  |some p=>
   obtain⟨d2,env2⟩:=p;rw[eb]at e;simp only[Qk]at e;refine .bind rl ea fun v1 G1 H1 ev1 r1=>.bind ev1.rel eb fun v2 G2 H2 ev2 r2=>?_
   split at e
   ·rename_i ef
    refine o G2 σ _ H2 v1 v2 d1 d2 _ _ ev2.rel (Rep.mono ev2.same _ r1) r2 ef fun v3 G3 H3 ev3 r3=>?_
    simp only[Rep]at r3;refine⟨true,r3,?_⟩;simp only[Zs];cases ec:mc env2 with
    |none=>rw[ec]at e;cases e
    |some p=>
     obtain⟨d3,env3⟩:=p;rw[ec]at e;simp only[Qk]at e;cases eg:g d2 d3 with
     |none=>rw[eg]at e;cases e
     |some d4=>
      rw[eg]at e;cases e;refine .bind ev3.rel ec fun v4 G4 H4 ev4 r4=>?_
      exact o' G4 σ _ H4 v2 v4 d2 d3 _ Q ev4.rel (Rep.mono ev4.same _ (Rep.mono ev3.same _ r2)) r4 eg fun v5 G5 H5 ev5 r5=>k v5 G5 H5 ((((ev1.trans ev2).trans ev3).trans ev4).trans ev5) r5
   ·rename_i ef
    cases e;refine o G2 σ _ H2 v1 v2 d1 d2 _ _ ev2.rel (Rep.mono ev2.same _ r1) r2 ef fun v3 G3 H3 ev3 r3=>?_
    simp only[Rep]at r3;refine⟨false,r3,?_⟩;simp only[Zx,Yx];exact k _ G3 H3 ((ev1.trans ev2).trans ev3) (by simp only[Rep])
   ·cases e
theorem b4h{op op':CmpOp}{r r':R2}{f g:D->D->Option D}(ho:OpR X (compareOp op) r)(ho':OpR X (compareOp op') r')(o:OpD X B r f)(o':OpD X B r' g)(ha:ED X B a ma)(hb:ED X B b mb)(hc:ED X B c mc)
  (hm:lastMarks [op,op'] [b,c]=false:=by with_unfolding_all rfl):ED X B (.Compare a [op,op'] [b,c] pos) (a0B f g ma mb mc):=pe_imp (b3h ho ho' ha hb hc hm) (a9c o o')
theorem a9d{op op':CmpOp}{r r':R2}{f g:D->D->Option D}(ho:OpR X (compareOp op) r)(ho':OpR X (compareOp op') r')(o:OpD X B r f)(o':OpD X B r' g)(ha:ED X B a ma)(hb:ED X B b mb)(hc:ED X B c mc)
  (hm:lastMarks [op,op'] [b,c]=false:=by with_unfolding_all rfl):ET X B (.Compare a [op,op'] [b,c] pos) (mT (a0B f g ma mb mc)):=pt_imp (b3i ho ho' ha hb hc hm) (a5I (a9c o o') trivial)
variable{es:List Expr}{ms:Mo (List D)}{as:Mo (List Ar)}
def z6_:Mo (List D):=fun env=>some ([],env)
def z3_(m:Mo D)(ms:Mo (List D)):Mo (List D):=fun env=>(m env).bind fun p=>(ms p.2).map fun q=>(p.1::q.1,q.2)
theorem q6_:EDs X B [] z6_:=by
 refine pa_imp a4j ?_
 rintro σ H Q ⟨G,env,d,env',rl,e,k⟩;cases e;exact k [] G H (.refl rl) repL_nil
theorem q1_(ha:ED X B e ma)(hr:EDs X B es ms)(hs:starEach (e::es) X.env=(false,eval e X.env)::starEach es X.env:=by rfl):EDs X B (e::es) (z3_ ma ms):=by
 refine pa_imp (a2v ha hr hs) ?_
 rintro σ H Q ⟨G,env,d,env',rl,e,k⟩;unfold z3_ at e;cases ea:ma env with
 |none=>rw[ea]at e;cases e
 |some p=>
  obtain⟨d1,env1⟩:=p;rw[ea]at e;simp only[Qk]at e;cases eb:ms env1 with
  |none=>rw[eb]at e;cases e
  |some p=>
   obtain⟨d2,env2⟩:=p;rw[eb]at e;cases e;exact .bind rl ea fun v1 G1 H1 ev1 r1=>⟨G1,env1,d2,_,ev1.rel,eb,fun vs G2 H2 ev2 r2=>k _ G2 H2 (ev1.trans ev2) (repL_cons (Rep.mono ev2.same _ r1) r2)⟩
def z8_:Mo (List Ar):=fun env=>some ([],env)
def z5_(m:Mo D)(ms:Mo (List Ar)):Mo (List Ar):=fun env=>(m env).bind fun p=>(ms p.2).map fun q=>(.d p.1::q.1,q.2)
def a0i(i:Nat)(ms:Mo (List Ar)):Mo (List Ar):=fun env=>((env[i]?).bind W.mut).bind fun _=>(ms env).map fun q=>(.sl i::q.1,q.2)
theorem q9_:EAr X B [] z8_:=by
 refine pa_imp a4j ?_
 rintro σ H Q ⟨G,env,d,env',rl,e,k⟩;cases e;exact k [] G H (.refl rl) (by simp only[RepA])
theorem q2_(ha:ED X B e ma)(hr:EAr X B es as)(hs:starEach (e::es) X.env=(false,eval e X.env)::starEach es X.env:=by rfl):EAr X B (e::es) (z5_ ma as):=by
 refine pa_imp (a2v ha hr hs) ?_
 rintro σ H Q ⟨G,env,d,env',rl,e,k⟩;unfold z5_ at e;cases ea:ma env with
 |none=>rw[ea]at e;cases e
 |some p=>
  obtain⟨d1,env1⟩:=p;rw[ea]at e;simp only[Qk]at e;cases eb:as env1 with
  |none=>rw[eb]at e;cases e
  |some p=>
   obtain⟨d2,env2⟩:=p;rw[eb]at e;cases e;exact .bind rl ea fun v1 G1 H1 ev1 r1=>⟨G1,env1,d2,_,ev1.rel,eb,fun vs G2 H2 ev2 r2=>k _ G2 H2 (ev1.trans ev2) (by simp only[RepA];exact⟨_,_,rfl,Rep.mono ev2.same _ r1,r2⟩)⟩
theorem a4t{i:Nat}{x:Str}{p:Pos}(ha:PE X (.Name x p) (a0f i))(hr:EAr X B es as)(hs:starEach (.Name x p::es) X.env=(false,eval (.Name x p) X.env)::starEach es X.env:=by rfl):EAr X B (.Name x p::es) (a0i i as):=by
 refine pa_imp (a2v ha hr hs) ?_
 rintro σ H Q ⟨G,env,d,env',rl,e,k⟩;unfold a0i at e;cases ew:env[i]? with
 |none=>rw[ew]at e;cases e
 |some w=>
  rw[ew]at e;simp only[Qk]at e;cases em:w.mut with
  |none=>rw[em]at e;cases e
  |some ds=>
   rw[em]at e;simp only[Qk]at e;cases eb:as env with
   |none=>rw[eb]at e;cases e
   |some p=>
    obtain⟨d2,env2⟩:=p;rw[eb]at e;cases e;obtain⟨a',xs,hv,_⟩:=rl.own i w ds ew em;exact⟨_,hv,G,env,d2,_,rl,eb,fun vs G2 H2 ev2 r2=>k _ G2 H2 ev2 (by simp only[RepA];exact⟨_,_,rfl,hv,r2⟩)⟩
end
section
variable{X:Cx}{B:OA}{pos:Pos}{a b c e:Expr}{ma mb mc:Mo D}{ms:Mo (List D)}{es:List Expr}
theorem q7_{α β:Type}{o:Option α}{f:α->Option β}{y:β}(h:o.bind f=some y):∃x,o=some x/\f x=some y:=by
 cases o with
 |none=>cases h
 |some x=>exact⟨x,rfl,h⟩
theorem x4_{α β:Type}{o:Option α}{f:α->β}{y:β}(h:o.map f=some y):∃x,o=some x/\f x=y:=by
 cases o with
 |none=>cases h
 |some x=>exact⟨x,rfl,Zw h⟩
def x6_(ms:Mo (List D)):Mo D:=fun env=>(ms env).bind fun p=>if p.1.length≤1000 then some (.tup p.1,p.2)else none
theorem g4_{x1:Nat}(h:EDs X B es ms):ED X B (.Tuple es x1 pos) (x6_ ms):=by
 refine pe_imp (b3r h) ?_
 rintro σ H Q ⟨G,env,d,env',rl,e,k⟩;obtain⟨⟨ds,env1⟩,e1,e2⟩:=q7_ e;dsimp only at e2;split at e2
 ·rename_i hl
  cases e2;refine⟨G,env,ds,_,rl,e1,fun vs G1 H1 ev r1=>⟨by rw[r1.length];exact Uf (a5D hl),fun p hp=>?_⟩⟩
  exact k _ _ _ (ev.trans (ev.rel.alloc hp)) (a1Q x3_ (z7_.mono (Le.upd (ev.rel.gnone hp)) _ r1))
 ·cases e2
def a1l(ms:Mo (List D)):Mo (List D):=fun env=>(ms env).bind fun p=>if p.1.length≤1000 then some p else none
theorem b4i{K:Qq}{G G1:Hp}{σ:St}{env env1:Env'}{H H1:Hp}{p:Addr}{xs:List V}{ds:List D}{Q:VK}(ev:Ev K B G σ env H G1 σ env1 H1)(hp:H1 p=none)(r:z7_ K G1 xs ds)
  (k:∀a xs G' H',Ev K B G σ env H G' σ env1 H'->H a=none-> ¬ Owned σ env1 a->H' a=some (.lst xs)->G' a=none->z7_ K G' xs ds->Q (.ref a) H'):Q (.ref p) (upd H1 p (.lst xs)):=by
 refine k p xs G1 _ (ev.trans (ev.rel.allocM hp)) ?_ (ev.rel.unowned hp) x3_ (ev.rel.gnone hp) r;cases h:H p with
 |none=>rfl
 |some o=>exact absurd hp (ev.live p (by rw[h];simp))
theorem a3r(h:EDs X B es ms):EL X B (.List es pos) (a1l ms):=by
 refine pe_imp (b3s h) ?_
 rintro σ H Q ⟨G,env,d,env',rl,e,k⟩;obtain⟨⟨ds,env1⟩,e1,e2⟩:=q7_ e;dsimp only at e2;split at e2
 ·rename_i hl
  cases e2;exact⟨G,env,_,_,rl,e1,fun vs G1 H1 ev r1=>⟨by rw[r1.length];exact Uf (a5D hl),fun p hp=>b4i ev hp r1 k⟩⟩
 ·cases e2
def mF(m:Mo (List D)):Mo D:=fun env=>(m env).map fun p=>(.lst p.1,p.2)
theorem u1_(h:EL X B e ms):ED X B e (mF ms):=by
 refine pe_imp h ?_
 rintro σ H Q ⟨G,env,d,env',rl,e,k⟩;obtain⟨⟨ds,env1⟩,e1,e2⟩:=x4_ e;cases e2;exact⟨G,env,ds,_,rl,e1,fun a xs G' H' ev ha no h' g' r=>k (.ref a) _ H' (ev.frz ha no h' g') (a8U x3_ (z7_.mono (Le.upd g') ds r))⟩
theorem a5K{K:Qq}{G:Hp}{xs:List V}{ds:List D}{k:Int}{d:D}(r:z7_ K G xs ds)(h:atI ds k=some d):∃x,atI xs k=some x/\Rep K G x d:=by
 unfold atI at h ⊢;rw[r.length];obtain⟨j,e1,e2⟩:=q7_ h;rw[e1];exact r.get e2
def dIx:D->D->Option D
 |.lst ds,.int k=>atI ds k
 |.tup ds,.int k=>atI ds k
 |_,_=>none
theorem b4j:OpD X B (rIx X.K) dIx:=by
 intro G σ env H x y a b d Q rl ra rb e k;cases a<;>cases b<;>first|(exact absurd (show(none:Option D)=some d from e) (by simp))|skip
 ·simp only[Rep]at ra rb
  obtain⟨p,xs,e1,q,r⟩:=ra;subst e1 rb;obtain⟨v,e3,e4⟩:=a5K r e;exact .inr (.inl ⟨p,xs,_,v,rfl,rfl,rl.sub.sqT q,e3,k v G H (.refl rl) e4⟩)
 ·simp only[Rep]at ra rb
  obtain⟨p,xs,e1,q,r⟩:=ra;subst e1 rb;obtain⟨v,e3,e4⟩:=a5K r e;exact .inl ⟨p,xs,_,v,rfl,rfl,rl.sub.sqL q,e3,k v G H (.refl rl) e4⟩
theorem k9_(ha:ED X B a ma)(hb:ED X B b mb)(hs:a4k b):ED X B (.Subscript a b pos) (z4_ dIx ma mb):=pe_imp (a8J b3E ha hb hs) (a4o b4j)
def w9_(i:Nat)(mb:Mo D):Mo D:=fun env=>(mb env).bind fun p=>((p.2[i]?).bind W.mutL).bind fun ds=>(dIx (.lst ds) p.1).map fun d=>(d,p.2)
theorem a1m{i:Nat}{x:Str}{p:Pos}(ha:PE X (.Name x p) (a0f i))(hb:ED X B b mb)(hs:a4k b)(hr:∀env d env' w ds,mb env=some (d,env')->env'[i]? =some w->w.mut=some ds->∃w0 ds0,env[i]? =some w0/\w0.mut=some ds0):
  ED X B (.Subscript (.Name x p) b pos) (w9_ i mb):=by
 refine pe_imp (a8J a8N ha hb hs) ?_
 rintro σ H Q ⟨G,env,d,env',rl,e,k⟩;obtain⟨⟨d1,env1⟩,e1,e2⟩:=q7_ e;obtain⟨ds,e3,e4⟩:=q7_ e2;obtain⟨w,e5,e6⟩:=q7_ e3;obtain⟨d2,e7,e8⟩:=x4_ e4;cases e8;obtain⟨w0,ds0,e9,e10⟩:=hr env d1 _ w (.l ds) e1 e5 (W.mutL_of e6);obtain⟨q,xs,h1,_⟩:=rl.own i w0 ds0 e9 e10;refine⟨_,h1,.bind rl e1 fun v G1 H1 ev r1=>?_⟩
 obtain⟨q',ys,h2,h3,h4,h5⟩:=ev.rel.ownL i w ds e5 e6;rw[h1]at h2;cases h2;dsimp only at e7;cases d1<;>first|(exact absurd (show(none:Option D)=some _ from e7) (by simp))|skip
 simp only[Rep]at r1;obtain⟨z,h6,h7⟩:=a5K h4 e7;exact⟨q,ys,_,z,rfl,r1,.inl (.inl h3),h6,k z G1 H1 ev h7⟩
def a0Y(X:Cx)(B:OA)(r:List V->Hp->VK->Prop)(f:List D->Option D):Prop:=
 ∀(G:Hp) (σ:St) (env:Env') (H:Hp) (xs:List V) (ds:List D) (c:D) (Q:VK),Rel X.K B G σ env H->z7_ X.K G xs ds->f ds=some c->
  (∀v G' H',Ev X.K B G σ env H G' σ env H'->Rep X.K G' v c->Q v H')->r xs H Q
def mCB(f:List D->Option D)(ms:Mo (List D)):Mo D:=fun env=>(ms env).bind fun p=>(f p.1).map fun d=>(d,p.2)
theorem a9e{r:List V->Hp->VK->Prop}{f:List D->Option D}(o:a0Y X B r f):∀σ H Q,TD X.K B (mCB f ms) σ H Q->tCB r (TDs X.K B ms) σ H Q:=by
 rintro σ H Q ⟨G,env,d,env',rl,e,k⟩;obtain⟨⟨ds,env1⟩,e1,e2⟩:=q7_ e;obtain⟨d1,e3,e4⟩:=x4_ e2;cases e4;exact⟨G,env,ds,_,rl,e1,fun vs G1 H1 ev r1=>o G1 σ _ H1 vs ds _ Q ev.rel r1 e3 fun v G2 H2 ev2 r2=>k v G2 H2 (ev.trans ev2) r2⟩
variable{r:List V->Hp->VK->Prop}{f:List D->Option D}{g:List D->Option (List D)}{id T:String}{x:Str}{p:Pos}
theorem k1_(hc:a0t X (.builtin id) r)(o:a0Y X B r f)(hg:Gl X x)(hm:X.mg x=none)(hv:bootBuiltins x=some (.builtin id))(ha:EDs X B (e::es) ms)(hn:x≠"__name__":=by decide)(hdb:(x==("__debug__":Str))=false:=by decide)
  (he:starEach (e::es) X.env=(false,eval e X.env)::starEach es X.env:=by rfl)(hpl:(backTo pos (starEach es X.env)).any (·.1)=false:=by rfl):ED X B (.Call (.Name x p) (e::es) [] pos) (mCB f ms):=
 pe_imp (a5v hc hg hm hv ha hn hdb he hpl) (a9e o)
theorem a0C(hc:a0t X (.type T) r)(o:a0Y X B r f)(hg:Gl X x)(hm:X.mg x=none)(hv:bootBuiltins x=some (.type T))(ha:EDs X B (e::es) ms)(hn:x≠"__name__":=by decide)(hdb:(x==("__debug__":Str))=false:=by decide)
  (he:starEach (e::es) X.env=(false,eval e X.env)::starEach es X.env:=by rfl)(hpl:(backTo pos (starEach es X.env)).any (·.1)=false:=by rfl):ED X B (.Call (.Name x p) (e::es) [] pos) (mCB f ms):=
 pe_imp (b3v hc hg hm hv ha hn hdb he hpl) (a9e o)
theorem a1n{K:Qq}{G:Hp}{xs:List V}{d:D}(h:z7_ K G xs [d]):∃x,xs=[x]/\Rep K G x d:=by
 simp only[z7_]at h;obtain⟨x,r,e,q,t⟩:=h;subst t;exact⟨x,e,q⟩
theorem a4u{K:Qq}{G:Hp}{xs:List V}{d d':D}(h:z7_ K G xs [d,d']):∃x y,xs=[x,y]/\Rep K G x d/\Rep K G y d':=by
 simp only[z7_]at h;obtain⟨x,r,e,q,y,r2,e2,q2,t⟩:=h;subst t e2;exact⟨x,y,e,q,q2⟩
def D.items:D->Option (List D)
 |.lst ds=>some ds
 |.tup ds=>some ds
 |_=>none
theorem a9f{K:Qq}{G H:Hp}{v:V}{d:D}{ds:List D}(l:Le G H)(r:Rep K G v d)(h:d.items=some ds):∃a xs,v=.ref a/\(SqL K H a xs∨SqT K H a xs)/\z7_ K G xs ds:=by
 cases d<;>first|(exact absurd (show(none:Option (List D))=some ds from h) (by simp))|skip
 ·cases h;simp only[Rep]at r;obtain⟨a,xs,e,q,t⟩:=r;exact⟨a,xs,e,.inr (l.sqT q),t⟩
 ·cases h;simp only[Rep]at r;obtain⟨a,xs,e,q,t⟩:=r;exact⟨a,xs,e,.inl (l.sqL q),t⟩
def y0_:List D->Option D
 |[d]=>d.items.map fun ds=>.int ds.length
 |_=>none
theorem j5_:a0Y X B (fun xs H Q=>∃p ys,xs=[.ref p]/\(SqL X.K H p ys∨SqT X.K H p ys)/\Q (.int ys.length) H) y0_:=by
 intro G σ env H xs ds c Q rl r e k
 match ds,e with
 |[d],e=>
  obtain⟨x,rfl,q⟩:=a1n r;obtain⟨ds,e1,e2⟩:=x4_ e;obtain⟨a,ys,rfl,h1,h2⟩:=a9f rl.sub q e1;exact⟨a,ys,rfl,h1,k _ G H (.refl rl) (by rw[←e2,h2.length];simp only[Rep])⟩
def j6_:List D->Option D
 |[d]=>d.items.map fun ds=>.tup ds
 |_=>none
theorem a0D:a0Y X B (fun xs H Q=>∃p ys,xs=[.ref p]/\((SqL X.K H p ys/\∀l,H l=none->Q (.ref l) (upd H l (.tup ys)))∨(SqT X.K H p ys/\Q (.ref p) H))) j6_:=by
 intro G σ env H xs ds c Q rl r e k
 match ds,e with
 |[d],e=>
  obtain⟨x,rfl,q⟩:=a1n r;obtain⟨ds,e1,e2⟩:=x4_ e;subst e2;cases d<;>first|(exact absurd (show(none:Option (List D))=some ds from e1) (by simp))|skip
  ·cases e1
   have q0:=q
   simp only[Rep]at q;obtain⟨a,ys,rfl,h1,h2⟩:=q;exact⟨a,ys,rfl,.inr ⟨rl.sub.sqT h1,k _ G H (.refl rl) q0⟩⟩
  ·cases e1
   simp only[Rep]at q;obtain⟨a,ys,rfl,h1,h2⟩:=q;exact⟨a,ys,rfl,.inl ⟨rl.sub.sqL h1,fun l hl=>k _ _ _ (rl.alloc hl) (a1Q x3_ (z7_.mono (Le.upd (rl.gnone hl)) _ h2))⟩⟩
end
section
variable{K:Qq}{B:OA}{G G1:Hp}{σ σ1:St}{env env1:Env'}{H H1:Hp}{i:Nat}
theorem w0_{α:Type}{l:List α}{i j:Nat}{a b:α}(h:(l.set i a)[j]? =some b):(j=i/\b=a)∨(j≠i/\l[j]? =some b):=by
 by_cases hj:j=i
 ·subst hj
  have hl:j<l.length:=by
   have:=(Qy.mp h).1;rwa [Zl]at this
  rw[Yb hl]at h;cases h;exact .inl ⟨rfl,rfl⟩
 ·rw[Qc (Zh hj)]at h
  exact .inr ⟨hj,h⟩
theorem a2z{α β:Type}{l:List α}{m:List β}{i:Nat}{a b:α}{c:β}(h:(l.set i a)[i]? =some b)(hl:l.length=m.length):(m.set i c)[i]? =some c:=by
 have:=(Qy.mp h).1;rw[Zl]at this;exact Yb (by omega)
theorem Ev.setDat{v:V}{d:D}(ev:Ev K B G σ env H G1 σ1 env1 H1)(r:Rep K G1 v d):Ev K B G σ env H G1 (σ1.set i (some v)) (env1.set i (.dat d)) H1:=by
 have rl:=ev.rel
 have ne:∀(j:Nat) (w:W) (es:Mu),(env1.set i (.dat d))[j]? =some w->w.mut=some es->j≠i/\env1[j]? =some w:=fun j w es q1 q2=>by
  rcases w0_ q1 with⟨_,z⟩|z
  ·rw[z]at q2;cases q2
  ·exact z
 refine⟨⟨rl.sub,by rw[Zl,Zl];exact rl.len,fun j d' q=>?_,fun j w es q1 q2=>?_,fun j k w w' es fs b q1 q2 q3 q4 q5 q6=>?_,fun j w b q1 qo q2=>?_,rl.old,rl.tabs,rl.gnt⟩,ev.same,ev.keep,ev.live,ev.stay,fun b z=>?_,fun j w q qp=>?_,by rw[Zl];exact ev.slen⟩
 ·rcases w0_ q with⟨z1,z2⟩|⟨z1,z2⟩
  ·subst z1;cases z2
   exact⟨v,a2z q rl.len,r⟩
  ·obtain⟨x,q1,q2⟩:=rl.dat j d' z2
   exact⟨x,by rw[Qc (Zh z1)];exact q1,q2⟩
 ·obtain⟨hj,q⟩:=ne j w es q1 q2
  obtain⟨p,ys,e3,e4⟩:=rl.own j w es q q2;exact⟨p,ys,by rw[Qc (Zh hj)];exact e3,e4⟩
 ·obtain⟨h1,h2⟩:=ne j w es q1 q2
  obtain⟨h3,h4⟩:=ne k w' fs q3 q4;rw[Qc (Zh h1)]at q5;rw[Qc (Zh h3)]at q6;exact rl.inj j k w w' es fs b h2 q2 h4 q4 q5 q6
 ·obtain⟨es,hm⟩:=own_mut qo
  obtain⟨h1,h2⟩:=ne j _ es q1 hm;rw[Qc (Zh h1)]at q2;exact rl.fresh j w b h2 qo q2
 ·obtain⟨j,w,es,q1,q2,q3⟩:=z
  obtain⟨h1,h2⟩:=ne j w es q1 q2;rw[Qc (Zh h1)]at q3;exact ev.sub b ⟨j,w,es,h2,q2,q3⟩
 ·obtain⟨es,hm⟩:=par_mut qp
  obtain⟨h1,h2⟩:=ne j _ es q hm;obtain⟨h3,h4⟩:=ev.par j w h2 qp;exact⟨by rw[Qc (Zh h1)];exact h3,h4⟩
theorem Ev.setOwnM{a:Addr}{o:HO}{m:Mu}{wn:W}(ev:Ev K B G σ env H G1 σ1 env1 H1)(nb:¬ B a)(ha:H a=none)(no:¬ Owned σ1 env1 a)(h1:H1 a=some o)(g1:G1 a=none)(r:RepM K G1 o m)(wm:wn.mut=some m)(wo:wn.isPar=false):
  Ev K B G σ env H G1 (σ1.set i (some (.ref a))) (env1.set i wn) H1:=by
 have rl:=ev.rel
 refine⟨⟨rl.sub,by rw[Zl,Zl];exact rl.len,fun j d' q=>?_,fun j w es q1 q2=>?_,fun j k w w' es fs b q1 q2 q3 q4 q5 q6=>?_,fun j w b q1 qo q2=>?_,rl.old,rl.tabs,rl.gnt⟩,ev.same,ev.keep,ev.live,ev.stay,fun b z=>?_,fun j w q qp=>?_,by rw[Zl];exact ev.slen⟩
 ·rcases w0_ q with⟨z1,z2⟩|⟨z1,z2⟩
  ·rw[←z2]at wm;cases wm
  ·obtain⟨x,q1,q2⟩:=rl.dat j d' z2
   exact⟨x,by rw[Qc (Zh z1)];exact q1,q2⟩
 ·rcases w0_ q1 with⟨z1,z2⟩|⟨z1,z2⟩
  ·subst z1 z2;rw[wm]at q2;cases q2
   exact⟨a,o,a2z q1 rl.len,h1,r,g1⟩
  ·obtain⟨p,ys,e3,e4⟩:=rl.own j w es z2 q2
   exact⟨p,ys,by rw[Qc (Zh z1)];exact e3,e4⟩
 ·rcases w0_ q1 with⟨z1,z2⟩|⟨z1,z2⟩
  ·rcases w0_ q3 with⟨y1,y2⟩|⟨y1,y2⟩
   ·rw[z1,y1]
   ·subst z1
    rw[a2z q1 rl.len]at q5;cases q5;rw[Qc (Zh y1)]at q6;exact absurd ⟨k,w',fs,y2,q4,q6⟩ no
  ·rw[Qc (Zh z1)]at q5
   rcases w0_ q3 with⟨y1,y2⟩|⟨y1,y2⟩
   ·subst y1
    rw[a2z q3 rl.len]at q6;cases q6;exact absurd ⟨j,w,es,z2,q2,q5⟩ no
   ·rw[Qc (Zh y1)]at q6
    exact rl.inj j k w w' es fs b z2 q2 y2 q4 q5 q6
 ·rcases w0_ q1 with⟨z1,z2⟩|⟨z1,z2⟩
  ·subst z1
   rw[a2z q1 rl.len]at q2;cases q2;exact nb
  ·rw[Qc (Zh z1)]at q2
   exact rl.fresh j w b z2 qo q2
 ·obtain⟨j,w,es,q1,q2,q3⟩:=z
  rcases w0_ q1 with⟨z1,z2⟩|⟨z1,z2⟩
  ·subst z1
   rw[a2z q1 rl.len]at q3;cases q3;exact .inr ha
  ·rw[Qc (Zh z1)]at q3
   exact ev.sub b ⟨j,w,es,z2,q2,q3⟩
 ·rcases w0_ q with⟨z1,z2⟩|⟨z1,z2⟩
  ·rw[z2,wo]at qp;cases qp
  ·obtain⟨h3,h4⟩:=ev.par j w z2 qp
   exact⟨by rw[Qc (Zh z1)];exact h3,h4⟩
theorem Ev.setOwn{a:Addr}{xs:List V}{ds:List D}(ev:Ev K B G σ env H G1 σ1 env1 H1)(nb:¬ B a)(ha:H a=none)(no:¬ Owned σ1 env1 a)(h1:H1 a=some (.lst xs))(g1:G1 a=none)(r:z7_ K G1 xs ds):
  Ev K B G σ env H G1 (σ1.set i (some (.ref a))) (env1.set i (.own ds)) H1:=ev.setOwnM (m:=.l ds) nb ha no h1 g1 ⟨xs,rfl,r⟩ rfl rfl
theorem Ev.writeM{a:Addr}{o':HO}{w:W}{m m':Mu}(ev:Ev K B G σ env H G1 σ1 env1 H1)(e1:env1[i]? =some w)(e2:w.mut=some m)(e3:σ1[i]? =some (some (.ref a)))(r:RepM K G1 o' m'):
  Ev K B G σ env H G1 σ1 (env1.set i (w.putM m')) (upd H1 a o'):=by
 have rl:=ev.rel
 obtain⟨a',o0,h1,h2,h3,h4⟩:=rl.own i w m e1 e2;rw[e3]at h1;cases h1;have ow:Owned σ1 env1 a:=⟨i,w,m,e1,e2,e3⟩;have wp:(w.putM m').mut=some m':=W.putM_mut e2 m';have nd:∀d,w.putM m'≠.dat d:=fun d z=>by rw[z]at wp;cases wp
 have oo:Owned σ env a∨H a=none:=ev.sub a ow
 refine⟨⟨fun b u e=>?_,by rw[Zl];exact rl.len,fun j d' q=>?_,fun j v es q1 q2=>?_,fun j k v v' es fs b q1 q2 q3 q4 q5 q6=>?_,fun j v b q1 qo q2=>?_,fun b hb=>?_,rl.tabs.upd r.nt (fun φ z=>by rw[h2]at z;cases z;exact h3.ne φ rfl),rl.gnt⟩,ev.same,fun b o n t e=>?_,fun b e=>?_,ev.stay,fun b z=>?_,fun j v q qp=>?_,ev.slen⟩
 ·have hb:b≠a:=fun z=>by rw[z,h4]at e;cases e
  rw[v4_ hb];exact rl.sub b u e
 ·rcases w0_ q with⟨z1,z2⟩|⟨z1,z2⟩
  ·exact absurd z2.symm (nd d')
  ·exact rl.dat j d' z2
 ·rcases w0_ q1 with⟨z1,z2⟩|⟨z1,z2⟩
  ·subst z1 z2
   rw[wp]at q2;cases q2;exact⟨a,o',e3,x3_,r,h4⟩
  ·obtain⟨p,ys,f1,f2,f3,f4⟩:=rl.own j v es z2 q2
   have hp:p≠a:=fun z=>z1 (rl.inj j i v w es m a z2 q2 e1 e2 (by rw[f1,z]) e3)
   exact⟨p,ys,f1,by rw[v4_ hp];exact f2,f3,f4⟩
 ·have g:∀(n:Nat) (v:W) (es:Mu),(env1.set i (w.putM m'))[n]? =some v->v.mut=some es->∃v0 es0,env1[n]? =some v0/\v0.mut=some es0:=fun n v es y1 y2=>by
   rcases w0_ y1 with⟨z1,z2⟩|⟨z1,z2⟩
   ·rw[z1];exact⟨w,m,e1,e2⟩
   ·exact⟨v,es,z2,y2⟩
  obtain⟨v0,es0,y1,y2⟩:=g j v es q1 q2;obtain⟨v1,es1,y3,y4⟩:=g k v' fs q3 q4;exact rl.inj j k v0 v1 es0 es1 b y1 y2 y3 y4 q5 q6
 ·rcases w0_ q1 with⟨z1,z2⟩|⟨z1,z2⟩
  ·subst z1
   exact rl.fresh j w b e1 (by rw[z2,W.putM_own e2]at qo;exact qo) q2
  ·exact rl.fresh j v b z2 qo q2
 ·by_cases h:b=a
  ·subst h;rw[x3_];simp
  ·rw[v4_ h];exact rl.old b hb
 ·have hb:b≠a:=fun z=>by
   rcases oo with q|q
   ·exact n (z ▸ q)
   ·rw[z,q]at e;cases e
  rw[v4_ hb];exact ev.keep b o n t e
 ·by_cases h:b=a
  ·subst h;rw[x3_];simp
  ·rw[v4_ h];exact ev.live b e
 ·obtain⟨j,v,es,q1,q2,q3⟩:=z
  rcases w0_ q1 with⟨z1,z2⟩|⟨z1,z2⟩
  ·rw[z1,e3]at q3;cases q3
   exact oo
  ·exact ev.sub b ⟨j,v,es,z2,q2,q3⟩
 ·rcases w0_ q with⟨z1,z2⟩|⟨z1,z2⟩
  ·subst z1
   exact ev.par j w e1 (by rw[z2,W.putM_par e2]at qp;exact qp)
  ·exact ev.par j v z2 qp
theorem Ev.write{a:Addr}{xs':List V}{w:W}{ds ds':List D}(ev:Ev K B G σ env H G1 σ1 env1 H1)(e1:env1[i]? =some w)(e2:w.mutL=some ds)(e3:σ1[i]? =some (some (.ref a)))(r:z7_ K G1 xs' ds'):
  Ev K B G σ env H G1 σ1 (env1.set i (w.put ds')) (upd H1 a (.lst xs')):=by
 rw[W.put_eq e2];exact ev.writeM e1 (W.mutL_of e2) e3 ⟨xs',rfl,r⟩
end
section
variable{X:Cx}{B:OA}{pos:Pos}{a b c e:Expr}{ma mb mc:Mo D}{ms:Mo (List D)}{es:List Expr}{st:Stmt}{rest:List Stmt}{s1 s2:Mo Fl}
def mNx:Mo Fl:=fun env=>some (.nx,env)
def q0_(m n:Mo Fl):Mo Fl:=fun env=>(m env).bind fun p=>match p.1 with
 |.nx=>n p.2
 |fl=>some (fl,p.2)
theorem k2_:ESs X B [] mNx:=by
 refine pss_imp b2v ?_
 rintro D σ H ⟨G,env,fl,env',rl,e,k⟩;cases e;exact k σ G H (.refl rl)
theorem v0_(h1:ES X B st s1)(h2:ESs X B rest s2):ESs X B (st::rest) (q0_ s1 s2):=by
 refine pss_imp (b2w h1 h2) ?_
 rintro D σ H ⟨G,env,fl,env',rl,e,k⟩;obtain⟨⟨fl1,env1⟩,e1,e2⟩:=q7_ e;dsimp only at e2;cases fl1 with
 |nx=>
  dsimp only at e2;exact⟨G,env,.nx,env1,rl,e1,fun σ1 G1 H1 ev=>⟨G1,env1,fl,env',ev.rel,e2,Post.after _ _ k ev⟩⟩
 |bk=>cases e2;exact⟨G,env,.bk,_,rl,e1,k⟩
 |ct=>cases e2;exact⟨G,env,.ct,_,rl,e1,k⟩
 |ret d=>cases e2;exact⟨G,env,.ret d,_,rl,e1,k⟩
 |retL d=>cases e2;exact⟨G,env,.retL d,_,rl,e1,k⟩
theorem q3_(h1:ES X B st s1):ESs X B [st] s1:=b2x h1
def v9_(t:Mo Bool)(m n:Mo Fl):Mo Fl:=fun env=>(t env).bind fun p=>if p.1 then m p.2 else n p.2
theorem k3_{c:Expr}{s t:List Stmt}{tc:Mo Bool}(hc:ET X B c tc)(h1:ESs X B s s1)(h2:ESs X B t s2):ES X B (.If c s t pos) (v9_ tc s1 s2):=by
 refine ps_imp (b2B hc h1 h2) ?_
 rintro D σ H ⟨G,env,fl,env',rl,e,k⟩;obtain⟨⟨b1,env1⟩,e1,e2⟩:=q7_ e;dsimp only at e2;refine⟨G,env,b1,env1,rl,e1,fun G1 H1 ev=>?_⟩
 cases b1 with
 |true=>simp only[Zs]at e2 ⊢;exact⟨G1,env1,fl,env',ev.rel,e2,Post.after _ _ k ev⟩
 |false=>simp only[Zx,Yx]at e2 ⊢;exact⟨G1,env1,fl,env',ev.rel,e2,Post.after _ _ k ev⟩
def a2A:Mo Fl:=fun _=>none
theorem a3s:ES X B st a2A:=by
 refine ps_imp b2D ?_
 rintro D σ H ⟨G,env,fl,env',rl,e,k⟩;cases e
def q8_(m:Mo D):Mo Fl:=fun env=>(m env).map fun p=>(.ret p.1,p.2)
theorem v6_(h:ED X B e ma):ES X B (.Return (some e) pos) (q8_ ma):=by
 refine ps_imp (a8q h) ?_
 rintro D σ H ⟨G,env,fl,env',rl,e,k⟩;obtain⟨⟨d,env1⟩,e1,e2⟩:=x4_ e;cases e2;exact⟨G,env,d,_,rl,e1,fun v G' H' ev r=>k v σ G' H' ev r⟩
def a1V(m:Mo (List D)):Mo Fl:=fun env=>(m env).map fun p=>(.retL p.1,p.2)
theorem a5L(h:EL X B e ms):ES X B (.Return (some e) pos) (a1V ms):=by
 refine ps_imp (a8q h) ?_
 rintro D σ H ⟨G,env,fl,env',rl,e,k⟩;obtain⟨⟨d,env1⟩,e1,e2⟩:=x4_ e;cases e2;exact⟨G,env,d,_,rl,e1,fun a xs G' H' ev ha no h' g' r=>k a xs σ G' H' ev (fun z=>rl.old a z ha) no h' g' r⟩
def c0b(i:Nat):Mo Fl:=fun env=>match env[i]? with
 |some (.own ds)=>some (.retL ds,env.set i .nil)
 |_=>none
def v7_(i:Nat)(m:Mo D):Mo Fl:=fun env=>(m env).map fun p=>(.nx,p.2.set i (.dat p.1))
def a0p(i:Nat)(m:Mo (List D)):Mo Fl:=fun env=>(m env).map fun p=>(.nx,p.2.set i (.own p.1))
section
variable{i:Nat}{x:Str}{pos':Pos}
theorem k4_(hN:X.N.Nodup)(hi:X.N[i]? =some x)(hx:Loc X.env.scope x)(he:ED X B e ma)(hs:swapsWith e (some (.Name x pos')) pos.line X.env=pure false:=by rfl)(hf:X.fn x=true∨X.env.scope.names.lookup x=some .local:=by first|exact .inl rfl|exact .inr rfl|assumption):
  ES X B (.Assign [.Name x pos'] e pos) (v7_ i ma):=by
 refine ps_imp (a5m hN hi hx he hs hf) ?_
 rintro D σ H ⟨G,env,fl,env',rl,e,k⟩;obtain⟨⟨d,env1⟩,e1,e2⟩:=x4_ e;cases e2;exact⟨G,env,d,_,rl,e1,fun v G' H' ev r=>k _ G' H' (ev.setDat r)⟩
theorem a5M(hN:X.N.Nodup)(hi:X.N[i]? =some x)(hx:Loc X.env.scope x)(he:EL X B e ms)(hs:swapsWith e (some (.Name x pos')) pos.line X.env=pure false:=by rfl)(hf:X.fn x=true∨X.env.scope.names.lookup x=some .local:=by first|exact .inl rfl|exact .inr rfl|assumption):
  ES X B (.Assign [.Name x pos'] e pos) (a0p i ms):=by
 refine ps_imp (a5m hN hi hx he hs hf) ?_
 rintro D σ H ⟨G,env,fl,env',rl,e,k⟩;obtain⟨⟨d,env1⟩,e1,e2⟩:=x4_ e;cases e2;exact⟨G,env,d,_,rl,e1,fun a xs G' H' ev ha no h' g' r=>k _ G' H' (ev.setOwn (fun z=>rl.old a z ha) ha no h' g' r)⟩
def a4v(i:Nat)(f:D->D->Option D)(m:Mo D):Mo Fl:=fun env=>match env[i]? with
 |some (.dat d0)=>(m env).bind fun p=>(f d0 p.1).map fun d=>(.nx,p.2.set i (.dat d))
 |_=>none
theorem b4k{op:Operator}{r:R2}{f:D->D->Option D}(hN:X.N.Nodup)(hi:X.N[i]? =some x)(hx:Loc X.env.scope x)(he:ED X B e ma)(ho:OpR X (inplaceOp op) r)(o:OpD X B r f)
  (hf:X.fn x=true∨X.env.scope.names.lookup x=some .local:=by first|exact .inl rfl|exact .inr rfl|assumption):ES X B (.AugAssign (.Name x pos') op e pos) (a4v i f ma):=by
 refine ps_imp (b2O hN hi hx he (ti:=r) (fun pins s σ H x y v u Q I rx ry q=>ho pins s σ H x y v u Q I rx ry q) hf) ?_
 rintro D σ H ⟨G,env,fl,env',rl,e,k⟩;unfold a4v at e;split at e
 ·rename_i d0 e0
  obtain⟨⟨d,env1⟩,e1,e2⟩:=q7_ e;obtain⟨d2,e3,e4⟩:=x4_ e2;cases e4;obtain⟨v0,h0,r0⟩:=rl.dat i d0 e0;exact⟨v0,h0,.bind rl e1 fun v G' H' ev r1=>o G' σ _ H' v0 v d0 d _ _ ev.rel (Rep.mono ev.same _ r0) r1 e3 fun v2 G2 H2 ev2 r2=>k _ G2 H2 ((ev.trans ev2).setDat r2)⟩
 ·cases e
end
def a1W(i:Nat)(m:Mo D):Mo Fl:=fun env=>((env[i]?).bind W.mutL).bind fun _=>(m env).bind fun p=>(p.2[i]?).bind fun w=>w.mutL.bind fun ds=>if ds.length<100000 then some (.nx,p.2.set i (w.put (ds++[p.1])))else none
theorem a4w{i:Nat}{x:Str}{p apos cpos:Pos}(ho:PE X (.Name x p) (a0f i))(ha:EDs X B [e] (z3_ ma z6_))
  (hbase:attributeBase (.Name x p) "append" X.env (eval (.Name x p) X.env)=eval (.Name x p) X.env:=by rfl)
  (hfew:((backTo cpos (starEach [e] X.env)).all (fun x=>!x.1)&&(backToKw cpos (keywordEach [] X.env)).all (fun x=>x.1.isSome)
   &&decide ([e].length+([]:List Keyword).length+(if([]:List Keyword).isEmpty then 0 else 1)<30))=true:=by rfl)
  (hline:(apos.endLine==cpos.line)=true:=by rfl)(hs:starEach [e] X.env=(false,eval e X.env)::starEach [] X.env:=by rfl)(hplain:(backTo cpos (starEach [] X.env)).any (·.1)=false:=by rfl)
  (hsw:swapsWith (.Call (.Attribute (.Name x p) "append" apos) [e] [] cpos) none pos.line X.env=pure false:=by rfl):
  ES X B (.Expr (.Call (.Attribute (.Name x p) "append" apos) [e] [] cpos) pos) (a1W i ma):=by
 refine ps_imp (a8p (a5A PySem.F.plainAttrs_list PySem.F.slot_list_append PySem.F.type_list_append a8R ho ha hbase hfew hline hs hplain) hsw) ?_
 rintro D σ H ⟨G,env,fl,env',rl,e,k⟩;obtain⟨ds0,e0,e⟩:=q7_ e;obtain⟨w0,e00,em0⟩:=q7_ e0;obtain⟨⟨d,env1⟩,e1,e2⟩:=q7_ e;obtain⟨w,e3,e4⟩:=q7_ e2;obtain⟨ds,e5,e6⟩:=q7_ e4;dsimp only at e3 e6;split at e6
 ·rename_i hl
  cases e6;obtain⟨q,xs0,h1,h2,h3,h4⟩:=rl.ownL i w0 ds0 e00 em0;refine⟨_,h1,.inl ⟨rfl,xs0,.inl (.inl h2)⟩,G,env,[d],env1,rl,by show(ma env).bind _=_;rw[e1];rfl,fun vs G1 H1 ev r1=>?_⟩
  obtain⟨v,rfl,rv⟩:=a1n r1;obtain⟨q',xs,g1,g2,g3,g4⟩:=ev.rel.ownL i w ds e3 e5;rw[h1]at g1;cases g1;have hz:xs.length<sizeLine:=by rw[g3.length];exact Vp hl (by decide)
  exact⟨q,xs,v,rfl,rfl,g2,hz,k _ G1 _ (ev.write e3 e5 h1 (g3.append (repL_cons rv repL_nil)))⟩
 ·cases e6
end
section
variable(K:Qq)(B:OA)
def TGm(n:Nat)(g:OZ):TG:=fun v σ H Q=>∃G env d env',Rel K B G σ env H/\Rep K G v d/\g d env=some env'/\∀σ' G' H',Ev K B G σ env H G' σ' env' H'->(∀j,j<n->σ'[j]? =σ[j]?)->Q σ' H'
def b4l(n:Nat)(g:List D->Env'->Option Env'):TGs:=fun vs σ H Q=>∃G env ds env',Rel K B G σ env H/\z7_ K G vs ds/\g ds env=some env'/\∀σ' G' H',Ev K B G σ env H G' σ' env' H'->(∀j,j<n->σ'[j]? =σ[j]?)->Q σ' H'
end
abbrev EG(X:Cx)(B:OA)(n:Nat)(e:Expr)(g:OZ):Prop:=PG X e (TGm X.K B n g)
abbrev EGs(X:Cx)(B:OA)(n:Nat)(es:List Expr)(g:List D->Env'->Option Env'):Prop:=PGs X es (b4l X.K B n g)
theorem a4x{X:Cx}{e:Expr}{t t':TG}(h:PG X e t)(i:∀v σ H Q,t' v σ H Q->t v σ H Q):PG X e t':=fun pins s σ H v u Q I r q=>h pins s σ H v u Q I r (i v σ H Q q)
theorem a9g{X:Cx}{e:List Expr}{t t':TGs}(h:PGs X e t)(i:∀v σ H Q,t' v σ H Q->t v σ H Q):PGs X e t':=fun pins s σ H v u Q I r q=>h pins s σ H v u Q I r (i v σ H Q q)
def gN(i:Nat):OZ:=fun d env=>some (env.set i (.dat d))
def gNl:List D->Env'->Option Env':=fun ds env=>match ds with
 |[]=>some env
 |_=>none
def gCn(g:OZ)(gs:List D->Env'->Option Env'):List D->Env'->Option Env':=fun ds env=>match ds with
 |d::ds=>(g d env).bind (gs ds)
 |[]=>none
def gT(n:Nat)(gs:List D->Env'->Option Env'):OZ:=fun d env=>match d with
 |.tup ds=>if ds.length=n then gs ds env else none
 |_=>none
section
variable{X:Cx}{B:OA}{pos:Pos}{a b c e tg:Expr}{ma mb mc:Mo D}{ms:Mo (List D)}{es:List Expr}{g:OZ}{gs:List D->Env'->Option Env'}
theorem y6_{n i:Nat}{x:Str}(hn:n≤i)(hN:X.N.Nodup)(hi:X.N[i]? =some x)(hx:Loc X.env.scope x)(hf:X.fn x=true∨X.env.scope.names.lookup x=some .local:=by first|exact .inl rfl|exact .inr rfl|assumption):EG X B n (.Name x pos) (gN i):=by
 refine a4x (b2E hN hi hx hf) ?_
 rintro v σ H Q ⟨G,env,d,env',rl,r,e,k⟩;cases e;exact k _ G H ((Ev.refl rl).setDat r) fun j hj=>Qc (by omega)
theorem a1o{n:Nat}:EGs X B n [] gNl:=by
 refine a9g b2H ?_
 rintro vs σ H Q ⟨G,env,ds,env',rl,r,e,k⟩;unfold gNl at e;split at e
 ·cases e
  simp only[z7_]at r;exact⟨r,k _ G H (.refl rl) fun _ _=>rfl⟩
 ·cases e
theorem j7_{n:Nat}(h1:EG X B n e g)(h2:EGs X B n es gs)(hs:(assignEach (e::es) X.env).map (·.2)=assign e X.env::(assignEach es X.env).map (·.2):=by rfl):EGs X B n (e::es) (gCn g gs):=by
 refine a9g (b2I h1 h2 hs) ?_
 rintro vs σ H Q ⟨G,env,ds,env',rl,r,e,k⟩;unfold gCn at e;split at e
 ·rename_i d ds
  obtain⟨env1,e1,e2⟩:=q7_ e;simp only[z7_]at r;obtain⟨x,xs,e3,r1,r2⟩:=r;exact⟨x,xs,e3,G,env,d,env1,rl,r1,e1,fun σ1 G1 H1 ev y1=>⟨G1,env1,ds,env',ev.rel,z7_.mono ev.same _ r2,e2,fun σ2 G2 H2 ev2 y2=>k σ2 G2 H2 (ev.trans ev2) fun j hj=>(y2 j hj).trans (y1 j hj)⟩⟩
 ·cases e
theorem a1p{nb n k':Nat}(hc:X.calm=true)(h:EGs X B nb es gs)(hn:(assignEach es X.env).length=n:=by rfl)(hst:(assignEach es X.env).findIdx? (·.1)=none:=by rfl):EG X B nb (.Tuple es k' pos) (gT n gs):=by
 refine a4x (b2K hc h hn hst) ?_
 rintro v σ H Q ⟨G,env,d,env',rl,r,e,k⟩;unfold gT at e;split at e
 ·rename_i ds
  split at e
  ·rename_i hl
   simp only[Rep]at r;obtain⟨p,xs,e1,q,t⟩:=r;exact⟨p,xs,e1,rl.sub.sqT q,t.length.trans hl,G,env,ds,env',rl,t,e,k⟩
  ·cases e
 ·cases e
def gS(s:Nat)(mi:Mo D):OZ:=fun d env=>((env[s]?).bind W.mutL).bind fun _=>(mi env).bind fun p=>match p.1 with
 |.int k=>(p.2[s]?).bind fun w=>w.mutL.bind fun ds=>(ixN ds.length k).map fun j=>p.2.set s (w.put (ds.set j d))
 |_=>none
theorem a9h{n s:Nat}{x:Str}{p:Pos}(ho:PE X (.Name x p) (a0f s))(hi:ED X B b mb)
  (ha:∀v,assign (.Subscript (.Name x p) b pos) X.env v=(do
   let ov←holding [v] (eval (.Name x p) X.env)
   let iv←holding [v,ov] (eval b X.env)
   standAt pos
   holding [v,ov,iv] (setItem ov iv v)
   release [v,ov,iv] []):=by intro _;rfl):EG X B n (.Subscript (.Name x p) b pos) (gS s mb):=by
 refine a4x (a8r ho hi b3H ha) ?_
 rintro v σ H Q ⟨G,env,d,env',rl,r,e,k⟩;obtain⟨ds0,e0,e⟩:=q7_ e;obtain⟨w0,e00,em0⟩:=q7_ e0;obtain⟨⟨d1,env1⟩,e1,e2⟩:=q7_ e;dsimp only at e2;split at e2
 ·rename_i kk
  obtain⟨w,e3,e4⟩:=q7_ e2;obtain⟨ds,e5,e6⟩:=q7_ e4;obtain⟨j,e7,e8⟩:=x4_ e6;cases e8;obtain⟨q,xs0,h1,h2,h3,h4⟩:=rl.ownL s w0 ds0 e00 em0;refine⟨_,h1,.bind rl e1 fun iv G1 H1 ev r1=>?_⟩
  simp only[Rep]at r1;obtain⟨q',xs,g1,g2,g3,g4⟩:=ev.rel.ownL s w ds e3 e5;rw[h1]at g1;cases g1;exact⟨q,xs,kk,j,rfl,r1,g2,by rw[g3.length];exact e7,k _ G1 _ (ev.write e3 e5 h1 (g3.set j (Rep.mono ev.same _ r))) fun _ _=>rfl⟩
 ·cases e2
def w2_(m:Mo D)(g:OZ):Mo Fl:=fun env=>(m env).bind fun p=>(g p.1 p.2).map fun e=>(.nx,e)
theorem a2B(he:ED X B e ma)(hg:EG X B 0 tg g)(hs:swapsWithSole [tg] e pos.line X.env=pure false:=by rfl)(hw:swappedStores [tg] e X.env=pure none:=by rfl)
  (h1:(assignEach [tg] X.env).map (·.2)=[assign tg X.env]:=by rfl):ES X B (.Assign [tg] e pos) (w2_ ma g):=by
 refine ps_imp (b2M he hg hs hw h1) ?_
 rintro D σ H ⟨G,env,fl,env',rl,e,k⟩;obtain⟨⟨d1,env1⟩,e1,e2⟩:=q7_ e;obtain⟨env2,e3,e4⟩:=x4_ e2;cases e4;exact .bind rl e1 fun v G1 H1 ev r=>⟨G1,env1,d1,_,ev.rel,r,e3,fun σ2 G2 H2 ev2 _=>k σ2 G2 H2 (ev.trans ev2)⟩
def mPar(i j:Nat)(ms:Mo (List D)):Mo Fl:=fun env=>(ms env).bind fun p=>match p.1 with
 |[d,d']=>some (.nx,(p.2.set i (.dat d)).set j (.dat d'))
 |_=>none
structure ItD(K:Qq)(J:It)(G:Hp)(ds:List D):Prop where
 go:∀i H,Le G H->i<ds.length->J.go i H
 stop:∀i H,Le G H->ds.length≤i->J.stop i H
 yld:∀i H x H' d,Le G H->J.yld i H x H'->ds[i]? =some d->(H'=H/\Rep K G x d)∨ ∃p o,NT o/\H p=none/\H'=upd H p o/\Rep K (upd G p o) x d
end
section
variable(K:Qq)(B:OA)
def TIm(m:Mo (List D)):TI:=fun σ H R=>∃G env ds env',Rel K B G σ env H/\m env=some (ds,env')/\∀J G' H',Ev K B G σ env H G' σ env' H'->ItD K J G' ds->R J H'
end
abbrev EI(X:Cx)(B:OA)(tg e:Expr)(m:Mo (List D)):Prop:=PI X tg e (TIm X.K B m)
theorem a4y{X:Cx}{tg e:Expr}{t t':TI}(h:PI X tg e t)(i:∀σ H R,t' σ H R->t σ H R):PI X tg e t':=fun pins s σ H R I q=>h pins s σ H R I (i σ H R q)
section
variable{X:Cx}{B:OA}{pos:Pos}{a b c e tg:Expr}{ma mb mc:Mo D}{ms:Mo (List D)}{es:List Expr}{g:OZ}{gs:List D->Env'->Option Env'}
def b4m(K:Qq)(tl:TE):TI:=fun σ H R=>tl σ H fun x H1=>∃a,x=.ref a/\(((∃xs,SqL K H1 a xs)/\R (Itl K a) H1)∨((∃xs,SqT K H1 a xs)/\R (Itt K a) H1))
theorem b4n{l:Expr}{tl:TE}(hl:PE X l tl):PI X tg l (b4m X.K tl):=by
 intro pins s σ H R I h;refine thn (hl pins s σ H _ I h) fun v s1 ⟨x,H1,I1,r1,q1⟩=>?_
 obtain⟨a,e,q⟩:=q1;subst e;cases r1
 rcases q with⟨⟨xs,hq⟩,q⟩|⟨⟨xs,hq⟩,q⟩
 ·obtain⟨its,rv,p,hz⟩:=I1.list hq
  refine Ua p.isList ?_
  refine⟨s1.heap.objs.size,[s1.heap.objs.size],_,_,H1,rfl,I1.kept (t':=s1.toks) fun b o e=>Qx _ e,b2P a _,⟨_,Qg _ rfl,rfl,rfl⟩,fun b hb=>?_,q⟩
  have e:b=s1.heap.objs.size:=by simpa using hb
  subst e;exact I1.fpOk (Qu _) (I1.hok.fresh (Qu _))
 ·obtain⟨its,rv,p,hz⟩:=I1.tuple hq
  refine Vr (show s1.heap.IsTuple a its.toArray from p) ?_
  refine⟨s1.heap.objs.size,[s1.heap.objs.size],_,_,H1,rfl,I1.kept (t':=s1.toks) fun b o e=>Qx _ e,b2Q a _,⟨_,Qg _ rfl,rfl,rfl⟩,fun b hb=>?_,q⟩
  have e:b=s1.heap.objs.size:=by simpa using hb
  subst e;exact I1.fpOk (Qu _) (I1.hok.fresh (Qu _))
def x1_(m:Mo D):Mo (List D):=fun env=>(m env).bind fun p=>p.1.items.map fun ds=>(ds,p.2)
theorem b4o{K:Qq}{G:Hp}{p:Addr}{xs:List V}{ds:List D}(q:SqL K G p xs)(r:z7_ K G xs ds):ItD K (Itl K p) G ds where
 go:=fun i H l hi=>⟨xs,xs[i]'(by rw[r.length];exact hi),l.sqL q,by simp⟩
 stop:=fun i H l hi=>⟨xs,l.sqL q,by rw[r.length];exact hi⟩
 yld:=fun i H x H' d l y e=>by
  obtain⟨rfl,y⟩:=y;obtain⟨x',e1,e2⟩:=r.get e;have:=y xs (l.sqL q);rw[e1]at this;cases this;exact .inl ⟨rfl,e2⟩
theorem b4p{K:Qq}{G:Hp}{p:Addr}{xs:List V}{ds:List D}(q:SqU K G p xs)(r:z7_ K G xs ds):ItD K (Itt K p) G ds where
 go:=fun i H l hi=>⟨xs,xs[i]'(by rw[r.length];exact hi),l.sqT q,by simp⟩
 stop:=fun i H l hi=>⟨xs,l.sqT q,by rw[r.length];exact hi⟩
 yld:=fun i H x H' d l y e=>by
  obtain⟨rfl,y⟩:=y;obtain⟨x',e1,e2⟩:=r.get e;have:=y xs (l.sqT q);rw[e1]at this;cases this;exact .inl ⟨rfl,e2⟩
theorem u8_(h:ED X B e ma):EI X B tg e (x1_ ma):=by
 refine a4y (b4n h) ?_
 rintro σ H R ⟨G,env,ds,env',rl,e,k⟩;obtain⟨⟨d,env1⟩,e1,e2⟩:=q7_ e;obtain⟨ds',e3,e4⟩:=x4_ e2;cases e4;refine .bind rl e1 fun v G1 H1 ev r=>?_
 cases d<;>first|(exact absurd (show(none:Option (List D))=some _ from e3) (by simp))|skip
 ·cases e3
  simp only[Rep]at r;obtain⟨p,xs,e5,q,t⟩:=r;exact⟨p,e5,.inr ⟨⟨xs,ev.rel.sub.sqT q⟩,k _ G1 H1 ev (b4p q t)⟩⟩
 ·cases e3
  simp only[Rep]at r;obtain⟨p,xs,e5,q,t⟩:=r;exact⟨p,e5,.inl ⟨⟨xs,ev.rel.sub.sqL q⟩,k _ G1 H1 ev (b4o q t)⟩⟩
def u9_(lo:Int)(n:Nat):List D:=(List.range n).map fun(i:Nat)=>D.int (lo+i)
theorem a9i{K:Qq}{G:Hp}{lo:Int}{n:Nat}:ItD K (Itr lo n) G (u9_ lo n)where
 go:=fun i H l hi=>by
  have h:i<n:=by simpa [u9_]using hi
  exact h
 stop:=fun i H l hi=>by
  have h:n≤i:=by simpa [u9_]using hi
  exact h
 yld:=fun i H x H' d l y e=>by
  obtain⟨rfl,rfl⟩:=y;refine .inl ⟨rfl,?_⟩;unfold u9_ at e;rw[Zc]at e;cases hr:(List.range n)[i]? with
  |none=>rw[hr]at e;cases e
  |some j=>
   rw[hr]at e;cases e;obtain⟨h1,h2⟩:=Qy.mp hr
   simp at h2
   subst h2;simp only[Rep]
def j0_(ms:Mo (List D)):Mo (List D):=fun env=>(ms env).bind fun p=>match p.1 with
 |[.int j]=>if-1000000<j/\j<1000000 then some (u9_ 0 j.toNat,p.2)else none
 |_=>none
def a3t(ms:Mo (List D)):Mo (List D):=fun env=>(ms env).bind fun p=>match p.1 with
 |[.int i,.int j]=>if-1000000<i/\i<1000000/\ -1000000<j/\j<1000000 then some (u9_ i (j-i).toNat,p.2)else none
 |_=>none
theorem a1q{p:Pos}(hg:Gl X "range")(hm:X.mg "range"=none)(ha:EDs X B [a] ms)(hs:starEach [a] X.env=[(false,eval a X.env)]:=by rfl):EI X B tg (.Call (.Name "range" p) [a] [] pos) (j0_ ms):=by
 have h0:=b2U (tg:=tg) (p:=p) (pos:=pos) hg hm ha hs
 refine a4y h0 ?_
 rintro σ H R ⟨G,env,ds,env',rl,e,k⟩;obtain⟨⟨ds',env1⟩,e1,e2⟩:=q7_ e;dsimp only at e2;split at e2
 ·rename_i j
  split at e2
  ·rename_i hj
   cases e2;refine⟨G,env,_,_,rl,e1,fun vs G1 H1 ev r=>?_⟩
   obtain⟨v,rfl,r1⟩:=a1n r;simp only[Rep]at r1;subst r1;exact⟨j,rfl,by omega,by omega,k _ G1 H1 ev a9i⟩
  ·cases e2
 ·cases e2
theorem b4q{p:Pos}(hg:Gl X "range")(hm:X.mg "range"=none)(ha:EDs X B [a,b] ms)(hs:starEach [a,b] X.env=[(false,eval a X.env),(false,eval b X.env)]:=by rfl)(hs2:starEach [b] X.env=[(false,eval b X.env)]:=by rfl):EI X B tg (.Call (.Name "range" p) [a,b] [] pos) (a3t ms):=by
 have h0:=b2V (tg:=tg) (p:=p) (pos:=pos) hg hm ha hs hs2
 refine a4y h0 ?_
 rintro σ H R ⟨G,env,ds,env',rl,e,k⟩;obtain⟨⟨ds',env1⟩,e1,e2⟩:=q7_ e;dsimp only at e2;split at e2
 ·rename_i i j
  split at e2
  ·rename_i hj
   cases e2;refine⟨G,env,_,_,rl,e1,fun vs G1 H1 ev r=>?_⟩
   obtain⟨v,w,rfl,r1,r2⟩:=a4u r;simp only[Rep]at r1 r2;subst r1 r2;exact⟨i,j,rfl,⟨by omega,by omega,by omega,by omega⟩,k _ G1 H1 ev a9i⟩
  ·cases e2
 ·cases e2
def loop(g:OZ)(body:Mo Fl):List D->Mo Fl
 |[],env=>some (.nx,env)
 |d::ds,env=>(g d env).bind fun e1=>(body e1).bind fun p=>match p.1 with
  |.nx=>loop g body ds p.2
  |.ct=>loop g body ds p.2
  |.bk=>some (.nx,p.2)
  |.ret d=>some (.ret d,p.2)
  |.retL d=>some (.retL d,p.2)
def w4_(mi:Mo (List D))(g:OZ)(body:Mo Fl):Mo Fl:=fun env=>(mi env).bind fun p=>loop g body p.1 p.2
theorem a0E{iter:Expr}{body:List Stmt}{mi:Mo (List D)}{mbd:Mo Fl}(hp:PassesOwn (model X.prog X.w) X.A X.env X.xe)(hc:X.calm=true)(hi:EI X B tg iter mi)(hg:EG X B 0 tg g)(hb:ESs X B body mbd)
  (hs:∀x,foldedSetIterable iter X.env x=pure x:=by intro _;rfl):ES X B (.For tg iter body [] pos) (w4_ mi g mbd):=by
 refine ps_imp (b2Y hp hc hi hg hb hs) ?_
 rintro D σ H ⟨G,env,fl,env',rl,e,k⟩;obtain⟨⟨ds,env1⟩,e1,e2⟩:=q7_ e;dsimp only at e2;refine⟨G,env,ds,env1,rl,e1,fun J G1 H1 ev1 it=>?_⟩
 refine⟨fun i m σ2 H2=>m=ds.length-i/\i≤ds.length/\∃G2 env2,Ev X.K B G σ env H G2 σ2 env2 H2/\Le G1 G2/\loop g mbd (ds.drop i) env2=some (fl,env'),⟨_,rfl,Xw _,G1,env1,ev1,Le.refl,by simpa using e2⟩,?_⟩
 rintro i m σ2 H2 ⟨rfl,hi2,G2,env2,ev2,l2,e3⟩;have lH:Le G1 H2:=l2.trans ev2.rel.sub
 by_cases hlt:i<ds.length
 ·refine .inr ⟨it.go i H2 lH hlt,fun σ' H'=>∃G3 env3,Ev X.K B G σ env H G3 σ' env3 H'/\Le G1 G3/\loop g mbd (ds.drop (i+1)) env3=some (fl,env'),?_,fun x H3 y=>?_⟩
  ·rintro σ' H' ⟨G3,env3,ev3,l3,e4⟩
   exact⟨ds.length-(i+1),by omega,rfl,hlt,G3,env3,ev3,l3,e4⟩
  ·have ed:ds.drop i=ds[i]::ds.drop (i+1):=List.drop_eq_getElem_cons hlt
   rw[ed]at e3;obtain⟨env4,e4,e5⟩:=q7_ e3;obtain⟨⟨fl5,env5⟩,e6,e7⟩:=q7_ e5;have hget:ds[i]? =some ds[i]:=by simp[hlt]
   have st:∃G3,Ev X.K B G σ env H G3 σ2 env2 H3/\Le G1 G3/\Rep X.K G3 x ds[i]:=by
    rcases it.yld i H2 x H3 ds[i] lH y hget with⟨rfl,r⟩|⟨p,o,hno,hp2,rfl,r⟩
    ·exact⟨G2,ev2,l2,Rep.mono l2 _ r⟩
    ·have gp:=ev2.rel.gnone hp2
     refine⟨upd G2 p o,ev2.trans (ev2.rel.alloc hp2 hno),l2.trans (Le.upd gp),Rep.mono (fun b u q=>?_) _ r⟩
     by_cases hb2:b=p
     ·subst hb2;rw[x3_]at q ⊢;exact q
     ·rw[v4_ hb2]at q ⊢;exact l2 b u q
   obtain⟨G3,ev3,l3,r3⟩:=st;refine⟨G3,env2,ds[i],env4,ev3.rel,r3,e4,fun σ4 G4 H4 ev4 _=>?_⟩
   have ev5:=ev3.trans ev4
   refine⟨G4,env4,fl5,env5,ev4.rel,e6,?_⟩;cases fl5 with
   |nx=>exact fun σ6 G6 H6 ev6=>⟨G6,env5,ev5.trans ev6,(l3.trans ev4.same).trans ev6.same,e7⟩
   |ct=>exact fun σ6 G6 H6 ev6=>⟨G6,env5,ev5.trans ev6,(l3.trans ev4.same).trans ev6.same,e7⟩
   |bk=>cases e7;exact fun σ6 G6 H6 ev6=>k σ6 G6 H6 (ev5.trans ev6)
   |ret d=>cases e7;exact fun v σ6 G6 H6 ev6=>k v σ6 G6 H6 (ev5.trans ev6)
   |retL d=>cases e7;exact fun a xs σ6 G6 H6 ev6=>k a xs σ6 G6 H6 (ev5.trans ev6)
 ·have ei:i=ds.length:=by omega
  subst ei;rw[List.drop_length]at e3;cases e3;exact .inl ⟨it.stop _ H2 lH (Qu _),k σ2 G2 H2 ev2⟩
end
inductive Rr where
 |d (d:D)|l (ds:List D)
abbrev Fn:=List W->Option (Rr×List W)
def a0a:OA:=fun _=>False
def a3u(ws:List W):Prop:=∀w∈ws,(∃d,w=.dat d)∨w.isPar=true
def b4r(K:Qq)(G:Hp)(vs:List V)(ws:List W)(H:Hp)(ws':List W)(Q:VK):Rr->Prop
 |.d d=>∀v G' H',Ev K a0a G (vs.map some) ws H G' (vs.map some) ws' H'->Rep K G' v d->Q v H'
 |.l ds=>∀a xs G' H',Ev K a0a G (vs.map some) ws H G' (vs.map some) ws' H'->H a=none-> ¬ Owned (vs.map some) ws' a->H' a=some (.lst xs)->G' a=none->z7_ K G' xs ds->Q (.ref a) H'
def SpF(K:Qq)(n:Nat)(f:Fn):Sp:=fun vs H Q _=>∃G ws r ws',ws.length=n/\a3u ws/\Rel K a0a G (vs.map some) ws H/\f ws=some (r,ws')/\b4r K G vs ws H ws' Q r
def a4z:W->W->W
 |.par _,.par ds=>.par ds
 |.par _,.parD ks vs=>.parD ks vs
 |.parD _ _,.par ds=>.par ds
 |.parD _ _,.parD ks vs=>.parD ks vs
 |.par _,_=>.nil
 |.parD _ _,_=>.nil
 |w,_=>w
def a0v(ws env:List W):List W:=List.zipWith a4z ws env
def fnM(N:Nat)(mb:Mo Fl):Fn:=fun ws=>match mb (ws++List.replicate (N-ws.length) .nil)with
 |some (.ret d,env)=>some (.d d,a0v ws env)
 |some (.retL ds,env)=>some (.l ds,a0v ws env)
 |some (.nx,env)=>some (.d .non,a0v ws env)
 |_=>none
theorem a1X{N:List Str}{vs:List V}{i:Nat}(hi:i<vs.length):(start N vs)[i]? =(vs.map some)[i]?:=by
 unfold start;rw[Yc (by simpa using hi)]
theorem a1r{α:Type}{l:List α}{n i:Nat}{a b:α}(h:(l++List.replicate n a)[i]? =some b):(i<l.length/\l[i]? =some b)∨(l.length≤i/\b=a):=by
 by_cases hi:i<l.length
 ·rw[Yc hi]at h;exact .inl ⟨hi,h⟩
 ·rw[List.getElem?_append_right (by omega),Ur]at h
  split at h
  ·cases h;exact .inr ⟨by omega,rfl⟩
  ·cases h
section
variable{K:Qq}{G:Hp}{vs:List V}{ws:List W}{H:Hp}{N:List Str}
theorem a9j(hl:ws.length=vs.length){n:Nat}{a:Addr}:Owned (start N vs) (ws++List.replicate n .nil) a↔Owned (vs.map some) ws a:=by
 constructor
 ·rintro⟨i,w,ds,e1,e2,e3⟩
  rcases a1r e1 with⟨h1,h2⟩|⟨h1,h2⟩
  ·rw[a1X (by omega)]at e3;exact⟨i,w,ds,h2,e2,e3⟩
  ·rw[h2]at e2;cases e2
 ·rintro⟨i,w,ds,e1,e2,e3⟩
  have hi:i<ws.length:=(Qy.mp e1).1
  exact⟨i,w,ds,by rw[Yc hi];exact e1,e2,by rw[a1X (by omega)];exact e3⟩
theorem b4s(r:Rel K a0a G (vs.map some) ws H)(ok:a3u ws)(hN:vs.length≤N.length):Rel K (fun b=>H b≠none) G (start N vs) (ws++List.replicate (N.length-ws.length) .nil) H:=by
 have hl:ws.length=vs.length:=by have:=r.len;rwa [Qv]at this
 have noOwn:∀(i:Nat) (w:W),ws[i]? =some w->w.isOwn=true->False:=fun i w e h=>by
  rcases ok _ (Je e)with⟨d,z⟩|z
  ·subst z;cases h
  ·cases w<;>first|(cases h;done)|(cases z;done)
 refine⟨r.sub,?_,fun i d e=>?_,fun i w ds e1 e2=>?_,fun i j w w' ds es a q1 q2 q3 q4 q5 q6=>?_,fun i w a q1 qo q2=>?_,fun b h=>h,r.tabs,r.gnt⟩
 ·unfold start
  simp only[Ql,Yn,Qv]
  omega
 ·rcases a1r e with⟨h1,h2⟩|⟨h1,h2⟩
  ·obtain⟨v,e1,e2⟩:=r.dat i d h2
   exact⟨v,by rw[a1X (by omega)];exact e1,e2⟩
  ·cases h2
 ·rcases a1r e1 with⟨h1,h2⟩|⟨h1,h2⟩
  ·obtain⟨a,xs,e3,e4⟩:=r.own i w ds h2 e2
   exact⟨a,xs,by rw[a1X (by omega)];exact e3,e4⟩
  ·rw[h2]at e2;cases e2
 ·rcases a1r q1 with⟨h1,h2⟩|⟨h1,h2⟩
  ·rcases a1r q3 with⟨h3,h4⟩|⟨h3,h4⟩
   ·rw[a1X (by omega)]at q5 q6
    exact r.inj i j w w' ds es a h2 q2 h4 q4 q5 q6
   ·rw[h4]at q4;cases q4
  ·rw[h2]at q2;cases q2
 ·rcases a1r q1 with⟨h1,h2⟩|⟨h1,h2⟩
  ·exact(noOwn i w h2 qo).elim
  ·subst h2;cases qo
theorem a5N{ws env:List W}{i:Nat}{w:W}(h:(a0v ws env)[i]? =some w):∃w1 w2,ws[i]? =some w1/\env[i]? =some w2/\w=a4z w1 w2:=by
 unfold a0v at h;rw[Yo]at h;cases e1:ws[i]? with
 |none=>rw[e1]at h;cases h
 |some w1=>
  cases e2:env[i]? with
  |none=>rw[e1,e2]at h;cases h
  |some w2=>rw[e1,e2]at h;cases h;exact⟨w1,w2,rfl,rfl,rfl⟩
theorem a9k{w1 w2:W}{m:Mu}(ok:(∃d,w1=.dat d)∨w1.isPar=true)(h:(a4z w1 w2).mut=some m):w2.mut=some m/\w2.isPar=true/\a4z w1 w2=w2/\w1.isPar=true:=by
 rcases ok with⟨d,z⟩|z
 ·subst z;cases h
 ·cases w1<;>cases w2<;>first|exact⟨h,rfl,rfl,rfl⟩|(cases z;done)|(cases h;done)
theorem a5O{G':Hp}{σ':St}{env':Env'}{H':Hp}(r:Rel K a0a G (vs.map some) ws H)(ok:a3u ws)(hN:vs.length≤N.length)
  (ev:Ev K (fun b=>H b≠none) G (start N vs) (ws++List.replicate (N.length-ws.length) .nil) H G' σ' env' H'):Ev K a0a G (vs.map some) ws H G' (vs.map some) (a0v ws env') H':=by
 have hl:ws.length=vs.length:=by have:=r.len;rwa [Qv]at this
 have okg:∀{i:Nat}{w:W},ws[i]? =some w->(∃d,w=.dat d)∨w.isPar=true:=fun e=>ok _ (Je e)
 have hle:ws.length≤env'.length:=by
  have h1:=ev.rel.len
  have h2:=ev.slen
  have h3:(start N vs).length=N.length:=by unfold start;simp only[Ql,Yn,Qv];omega
  omega
 have par:∀(i:Nat) (w:W) (m:Mu),(a0v ws env')[i]? =some w->w.mut=some m->∃w0,ws[i]? =some w0/\w0.isPar=true/\env'[i]? =some w/\w.isPar=true/\σ'[i]? =(vs.map some)[i]?:=fun i w m e1 e2=>by
  obtain⟨w1,w2,h1,h2,h3⟩:=a5N e1;subst h3;obtain⟨h4,h5,h6,h7⟩:=a9k (okg h1) e2;have hi:i<vs.length:=by have:=(Qy.mp h1).1;omega
  rw[h6];exact⟨w1,h1,h7,h2,h5,(ev.par i w2 h2 h5).1.trans (a1X hi)⟩
 refine⟨⟨ev.rel.sub,?_,fun i d e=>?_,fun i w ds e1 e2=>?_,fun i j w w' ds es a q1 q2 q3 q4 q5 q6=>?_,fun i w a q1 qo q2 h=>h,fun b h=>h.elim,ev.rel.tabs,ev.rel.gnt⟩,ev.same,fun b o n t e=>ev.keep b o (fun z=>n ((a9j hl).mp z)) t e,ev.live,fun b e n g=>ev.stay b e (fun z=>n ((a9j hl).mp z)) g,fun a z=>?_,fun i w e hp=>?_,rfl⟩
 ·unfold a0v
  rw[Jp,Qv];omega
 ·obtain⟨w1,w2,h1,h2,h3⟩:=a5N e
  rcases okg h1 with⟨d1,z⟩|z
  ·subst z
   cases h3;obtain⟨v,e1,e2⟩:=r.dat i d h1;exact⟨v,e1,Rep.mono ev.same d e2⟩
  ·cases w1<;>cases w2<;>first|(cases h3;done)|(cases z;done)
 ·obtain⟨d0,h1,hp,h2,h3,h4⟩:=par i w ds e1 e2
  obtain⟨a,xs,e3,e4⟩:=ev.rel.own i _ ds h2 e2;exact⟨a,xs,by rw[←h4];exact e3,e4⟩
 ·obtain⟨d0,h1,hp,h2,h3,h4⟩:=par i w ds q1 q2
  obtain⟨d1,h5,hp',h6,h7,h8⟩:=par j w' es q3 q4;exact ev.rel.inj i j _ _ ds es a h2 q2 h6 q4 (by rw[h4];exact q5) (by rw[h8];exact q6)
 ·obtain⟨i,w,ds,e1,e2,e3⟩:=z
  obtain⟨d0,h1,hp,h2,h3,h4⟩:=par i w ds e1 e2;obtain⟨m0,hm0⟩:=par_mut hp;exact .inl ⟨i,_,m0,h1,hm0,e3⟩
 ·obtain⟨m,hm⟩:=par_mut hp
  obtain⟨d0,h1,hp',h2,h3,h4⟩:=par i _ m e hm;exact⟨rfl,d0,h1,hp'⟩
end
theorem y1_{P:Program}{w:World}{K:Qq}{mg:OU}{base:Heap}{x qual:Str}{st:Stmt}{f:Addr}{fd:FuncData}{N ps:List Str}{k:Nat}{mb:Mo Fl}(F:Fun K x qual st f fd)(S:FnScope N ps (v5_ st))
  (hb:∀(cdv:Value) (A:Around) (outer:List Env) (s:Shared) (H:Hp) (E:XK),Room k (A.deeper (envOfC qual (v5_ st) s.heap.objs.size f cdv))->
   ESs (a1M CX0 P w K mg base N qual (v5_ st) f cdv A outer s H E).nox (fun b=>H b≠none) (a0W st) mb):FnOk P w K mg base CX0 (k+1) f fd ps (SpF K ps.length (fnM N.length mb)):=by
 have hpl:ps.length≤N.length:=by have:=Yh List.length S.pre;rw[Vz]at this;omega
 refine F.ok S (fun vs H Q E h=>?_) (fun cdv A outer s H vs Q E hr h=>?_)
 ·obtain⟨G,ws,r,ws',hl,ok,rl,_⟩:=h
  have:=rl.len;rw[Qv]at this;omega
 ·obtain⟨G,ws,r,ws',hl,ok,rl,e,k⟩:=h
  have hv:ws.length=vs.length:=by have:=rl.len;rwa [Qv]at this
  refine⟨_,hb cdv A outer s H E hr,?_⟩;have rl':=b4s (N:=N) rl ok (by omega)
  unfold fnM at e;split at e
  ·rename_i d env em
   cases e;refine⟨G,_,_,env,rl',em,?_⟩;exact fun v σ' G' H' ev rp=>k v G' H' (a5O rl ok (by omega) ev) rp
  ·rename_i ds env em
   cases e;refine⟨G,_,_,env,rl',em,?_⟩;intro a xs σ' G' H' ev nb no h' g' rp;refine k a xs G' H' (a5O rl ok (by omega) ev) (Uu nb) ?_ h' g' rp
   rintro⟨i,w',es,e1,e2,e3⟩;obtain⟨w1,w2,q1,q2,q3⟩:=a5N e1;subst q3;obtain⟨q4,q5,q6,q7⟩:=a9k (ok _ (Je q1)) e2;have hi:i<vs.length:=by have:=(Qy.mp q1).1;omega
   exact no ⟨i,_,es,q2,q4,by rw[(ev.par i w2 q2 q5).1,a1X hi];exact e3⟩
  ·rename_i env em
   cases e;refine⟨G,_,_,env,rl',em,?_⟩;exact fun σ' G' H' ev=>k .non G' H' (a5O rl ok (by omega) ev) (by simp only[Rep])
  ·cases e
def slots:List Ar->List Nat
 |[]=>[]
 |.d _::r=>slots r
 |.sl i::r=>i::slots r
def a1Y:Mu->W
 |.l ds=>.par ds
 |.d ks vs=>.parD ks vs
theorem a9l(c:Mu):(a1Y c).mut=some c:=by cases c<;>rfl
theorem a9m(c:Mu):(a1Y c).isPar=true:=by cases c<;>rfl
def u2_(c:Mu):Ar->W
 |.d d=>.dat d
 |.sl _=>a1Y c
def a1s:List W->Option Mu
 |[]=>none
 |.par ds::_=>some (.l ds)
 |.parD ks vs::_=>some (.d ks vs)
 |_::r=>a1s r
def a0Z(n:Nat)(f:Fn)(as:Mo (List Ar)):Mo Rr:=fun env=>(as env).bind fun p=>if p.1.length=n then
 match slots p.1 with
 |[]=>(f (p.1.map (u2_ (.l [])))).map fun q=>(q.1,p.2)
 |[i]=>(p.2[i]?).bind fun w=>w.mut.bind fun c=>(f (p.1.map (u2_ c))).bind fun q=>(a1s q.2).map fun c'=>(q.1,p.2.set i (w.putM c'))
 |_=>none
 else none
theorem a2C:∀{as:List Ar},slots as=[]->∀(k j:Nat),as[k]? ≠some (.sl j)
 |[],_,k,j,e=>by simp at e
 |.d _::r,h,k,j,e=>by
  cases k with
  |zero=>simp at e
  |succ k=>exact a2C (as:=r) h k j (by simpa using e)
 |.sl i::r,h,k,j,e=>by simp[slots]at h
theorem a5P:∀{as:List Ar}{i:Nat},slots as=[i]->∃k:Nat,as[k]? =some (.sl i)/\∀(k' j:Nat),as[k']? =some (.sl j)->k'=k/\j=i
 |[],_,h=>by simp[slots]at h
 |.d _::r,i,h=>by
  obtain⟨k,h1,h2⟩:=a5P (as:=r) h;refine⟨k+1,by simpa using h1,fun k' j e=>?_⟩
  cases k' with
  |zero=>simp at e
  |succ k'=>
   obtain⟨a,b⟩:=h2 k' j (by simpa using e)
   exact⟨by omega,b⟩
 |.sl i'::r,i,h=>by
  simp only[slots,Vb]at h;obtain⟨rfl,h⟩:=h;refine⟨0,by simp,fun k' j e=>?_⟩
  cases k' with
  |zero=>simp at e;exact⟨rfl,e.symm⟩
  |succ k'=>exact absurd (by simpa using e) (a2C h k' j)
theorem a3v:∀{ws:List W}{c:Mu},a1s ws=some c->∃k:Nat,ws[k]? =some (a1Y c)
 |[],_,h=>by simp[a1s]at h
 |.par ds::r,c,h=>by simp only[a1s,Zf]at h;subst h;exact⟨0,by simp[a1Y]⟩
 |.parD ks vs::r,c,h=>by simp only[a1s,Zf]at h;subst h;exact⟨0,by simp[a1Y]⟩
 |.nil::r,c,h=>by obtain⟨k,e⟩:=a3v (ws:=r) h;exact⟨k+1,by simpa using e⟩
 |.dat _::r,c,h=>by obtain⟨k,e⟩:=a3v (ws:=r) h;exact⟨k+1,by simpa using e⟩
 |.own _::r,c,h=>by obtain⟨k,e⟩:=a3v (ws:=r) h;exact⟨k+1,by simpa using e⟩
 |.ownD _ _::r,c,h=>by obtain⟨k,e⟩:=a3v (ws:=r) h;exact⟨k+1,by simpa using e⟩
section
variable{K:Qq}{G:Hp}{σ:St}
theorem RepA.length:∀{as:List Ar}{vs:List V},RepA K G σ vs as->vs.length=as.length
 |[],_,h=>by simp only[RepA]at h;subst h;rfl
 |.d d::as,_,h=>by
  simp only[RepA]at h;obtain⟨x,r,rfl,_,t⟩:=h
  simp[RepA.length t]
 |.sl i::as,_,h=>by
  simp only[RepA]at h;obtain⟨x,r,rfl,_,t⟩:=h
  simp[RepA.length t]
theorem RepA.getD:∀{as:List Ar}{vs:List V}{k:Nat}{d:D},RepA K G σ vs as->as[k]? =some (.d d)->∃v,vs[k]? =some v/\Rep K G v d
 |[],_,k,d,h,e=>by simp at e
 |.d d'::as,_,k,d,h,e=>by
  simp only[RepA]at h;obtain⟨x,r,rfl,q,t⟩:=h;cases k with
  |zero=>simp at e;subst e;exact⟨x,by simp,q⟩
  |succ k=>simpa using RepA.getD (k:=k) t (by simpa using e)
 |.sl i::as,_,k,d,h,e=>by
  simp only[RepA]at h;obtain⟨x,r,rfl,q,t⟩:=h;cases k with
  |zero=>simp at e
  |succ k=>simpa using RepA.getD (k:=k) t (by simpa using e)
theorem RepA.getS:∀{as:List Ar}{vs:List V}{k i:Nat},RepA K G σ vs as->as[k]? =some (.sl i)->∃v,vs[k]? =some v/\σ[i]? =some (some v)
 |[],_,k,i,h,e=>by simp at e
 |.d d'::as,_,k,i,h,e=>by
  simp only[RepA]at h;obtain⟨x,r,rfl,q,t⟩:=h;cases k with
  |zero=>simp at e
  |succ k=>simpa using RepA.getS (k:=k) t (by simpa using e)
 |.sl i'::as,_,k,i,h,e=>by
  simp only[RepA]at h;obtain⟨x,r,rfl,q,t⟩:=h;cases k with
  |zero=>simp at e;subst e;exact⟨x,by simp,q⟩
  |succ k=>simpa using RepA.getS (k:=k) t (by simpa using e)
end
section
variable{K:Qq}{B:OA}{G:Hp}{σ:St}{env:Env'}{H:Hp}{as:List Ar}{vs:List V}{c:Mu}
theorem a9n:a3u (as.map (u2_ c)):=fun w hw=>by
 obtain⟨a,_,rfl⟩:=Yq.mp hw;cases a with
 |d d=>exact .inl ⟨d,rfl⟩
 |sl i=>exact .inr (a9m c)
theorem a2D{k:Nat}{w:W}(e:(as.map (u2_ c))[k]? =some w):(∃d,as[k]? =some (.d d)/\w=.dat d)∨ ∃j,as[k]? =some (.sl j)/\w=a1Y c:=by
 rw[Zc]at e;cases h:as[k]? with
 |none=>rw[h]at e;cases e
 |some a=>
  rw[h]at e;cases a with
  |d d=>cases e;exact .inl ⟨d,rfl,rfl⟩
  |sl j=>cases e;exact .inr ⟨j,rfl,rfl⟩
theorem a9o{k:Nat}{v:V}(h:vs[k]? =some v):(vs.map some)[k]? =some (some v):=by rw[Zc,h];rfl
theorem a9p{k:Nat}{v:V}(h:(vs.map some)[k]? =some (some v)):vs[k]? =some v:=by
 rw[Zc]at h;cases e:vs[k]? with
 |none=>rw[e]at h;cases h
 |some u=>rw[e]at h;cases h;rfl
theorem a9q{i:Nat}{w:W}(rl:Rel K B G σ env H)(ra:RepA K G σ vs as)(u:∀(k j:Nat),as[k]? =some (.sl j)->j=i/\env[i]? =some w/\w.mut=some c)(un:∀(k k' j j':Nat),as[k]? =some (.sl j)->as[k']? =some (.sl j')->k=k'):
  Rel K a0a G (vs.map some) (as.map (u2_ c)) H:=by
 refine⟨rl.sub,by rw[Qv,Qv,ra.length],fun k d e=>?_,fun k v ds e1 e2=>?_,fun k k' v v' ds es a q1 q2 q3 q4 q5 q6=>?_,fun k w a e _ _ h=>h,fun b h=>h.elim,rl.tabs,rl.gnt⟩
 ·rcases a2D e with⟨d',h1,h2⟩|⟨j,h1,h2⟩
  ·cases h2
   obtain⟨v,q1,q2⟩:=ra.getD h1;exact⟨v,a9o q1,q2⟩
  ·cases c<;>cases h2
 ·rcases a2D e1 with⟨d',h1,h2⟩|⟨j,h1,h2⟩
  ·subst h2;cases e2
  ·subst h2;rw[a9l]at e2;cases e2
   obtain⟨v,q1,q2⟩:=ra.getS h1;obtain⟨rfl,q3,q4⟩:=u k j h1;obtain⟨a,xs,q5,q6,q7,q8⟩:=rl.own j w c q3 q4;rw[q2]at q5;cases q5;exact⟨a,xs,a9o q1,q6,q7,q8⟩
 ·rcases a2D q1 with⟨d',h1,h2⟩|⟨j,h1,h2⟩
  ·subst h2;cases q2
  ·rcases a2D q3 with⟨d',h3,h4⟩|⟨j',h3,h4⟩
   ·subst h4;cases q4
   ·exact un k k' j j' h1 h3
theorem a9r{i:Nat}(ra:RepA K G σ vs as)(u:∀(k j:Nat),as[k]? =some (.sl j)->j=i){a:Addr}(h:Owned (vs.map some) (as.map (u2_ c)) a):σ[i]? =some (some (V.ref a))/\∃k:Nat,as[k]? =some (Ar.sl i):=by
 obtain⟨k,v,ds,e1,e2,e3⟩:=h
 rcases a2D e1 with⟨d',h1,h2⟩|⟨j,h1,h2⟩
 ·subst h2;cases e2
 ·obtain⟨v',q1,q2⟩:=ra.getS h1
  have:=u k j h1;subst this;have e4:=a9p e3;rw[q1]at e4;cases e4;exact⟨q2,k,h1⟩
theorem a9s{G2 H2:Hp}{ws':List W}(rl:Rel K B G σ env H)(ra:RepA K G σ vs as)(hs:slots as=[])(ev:Ev K a0a G (vs.map some) (as.map (u2_ c)) H G2 (vs.map some) ws' H2):Ev K B G σ env H G2 σ env H2:=by
 have no:∀a,¬ Owned (vs.map some) (as.map (u2_ c)) a:=fun a z=>by
  obtain⟨_,k,e⟩:=a9r (i:=0) ra (fun k j e=>absurd e (a2C hs k j)) z
  exact a2C hs k 0 e
 refine⟨⟨ev.rel.sub,rl.len,fun i d e=>?_,fun i w ds e1 e2=>?_,rl.inj,rl.fresh,fun b h=>ev.live b (rl.old b h),ev.rel.tabs,ev.rel.gnt⟩,ev.same,fun b o _ t e=>ev.keep b o (no b) t e,ev.live,fun b e _ g=>ev.stay b e (no b) g,fun a z=>.inl z,fun i w e hp=>⟨rfl,w,e,hp⟩,rfl⟩
 ·obtain⟨v,q1,q2⟩:=rl.dat i d e
  exact⟨v,q1,Rep.mono ev.same d q2⟩
 ·obtain⟨a,xs,q1,q2,q3,q4⟩:=rl.own i w ds e1 e2
  exact⟨a,xs,q1,ev.keep a _ (no a) q3.nt q2,q3.mono ev.same,ev.stay a (by rw[q2];simp) (no a) q4⟩
theorem a9t{G2 H2:Hp}{ws':List W}{i:Nat}{w:W}{c':Mu}(rl:Rel K B G σ env H)(ra:RepA K G σ vs as)(hs:slots as=[i])(e1:env[i]? =some w)(e2:w.mut=some c)(hp:a1s ws'=some c')
  (ev:Ev K a0a G (vs.map some) (as.map (u2_ c)) H G2 (vs.map some) ws' H2):Ev K B G σ env H G2 σ (env.set i (w.putM c')) H2:=by
 obtain⟨k,hk,uk⟩:=a5P hs;obtain⟨a,xs,h1,h2,h3,h4⟩:=rl.own i w c e1 e2;have ow:Owned σ env a:=⟨i,w,c,e1,e2,h1⟩;have isA:∀b,Owned (vs.map some) (as.map (u2_ c)) b->b=a:=fun b z=>by
  obtain⟨q,_⟩:=a9r ra (fun k j e=>(uk k j e).2) z
  rw[h1]at q;cases q;rfl
 obtain⟨k',hk'⟩:=a3v hp;have ek:k'=k:=by
  obtain⟨_,d0,q,qp⟩:=ev.par k' _ hk' (a9m c')
  rcases a2D q with⟨d',z1,z2⟩|⟨j,z1,z2⟩
  ·subst z2;cases qp
  ·exact(uk k' j z1).1
 subst ek;obtain⟨a2,ys,g1,g2,g3,g4⟩:=ev.rel.own k' _ c' hk' (a9l c');obtain⟨v,q1,q2⟩:=ra.getS hk;have g5:=a9p g1;rw[q1]at g5;cases g5;rw[h1]at q2;cases q2;have wp:(w.putM c').mut=some c':=W.putM_mut e2 c';have nd:∀d,w.putM c'≠.dat d:=fun d z=>by rw[z]at wp;cases wp
 refine⟨⟨ev.rel.sub,by rw[Zl];exact rl.len,fun j d' q=>?_,fun j v es y1 y2=>?_,fun j m v v' es fs b y1 y2 y3 y4 y5 y6=>?_,fun j v b y1 yo y2=>?_,fun b h=>ev.live b (rl.old b h),ev.rel.tabs,ev.rel.gnt⟩,ev.same,fun b o n t e=>ev.keep b o (fun z=>n (isA b z ▸ ow)) t e,ev.live,fun b e n g=>ev.stay b e (fun z=>n (isA b z ▸ ow)) g,fun b z=>.inl ?_,fun j v q qp=>⟨rfl,?_⟩,rfl⟩
 ·rcases w0_ q with⟨z1,z2⟩|⟨z1,z2⟩
  ·exact absurd z2.symm (nd d')
  ·obtain⟨v,q1,q2⟩:=rl.dat j d' z2
   exact⟨v,q1,Rep.mono ev.same d' q2⟩
 ·rcases w0_ y1 with⟨z1,z2⟩|⟨z1,z2⟩
  ·subst z1 z2
   rw[wp]at y2;cases y2;exact⟨a,ys,h1,g2,g3,g4⟩
  ·obtain⟨p,zs,f1,f2,f3,f4⟩:=rl.own j v es z2 y2
   have hp:p≠a:=fun z=>z1 (rl.inj j i v w es c a z2 y2 e1 e2 (by rw[f1,z]) h1)
   have np:¬ Owned (vs.map some) (as.map (u2_ c)) p:=fun z=>hp (isA p z)
   exact⟨p,zs,f1,ev.keep p _ np f3.nt f2,f3.mono ev.same,ev.stay p (by rw[f2];simp) np f4⟩
 ·have g:∀(m:Nat) (v:W) (es:Mu),(env.set i (w.putM c'))[m]? =some v->v.mut=some es->∃v0 es0,env[m]? =some v0/\v0.mut=some es0:=fun m v es y1 y2=>by
   rcases w0_ y1 with⟨z1,z2⟩|⟨z1,z2⟩
   ·rw[z1];exact⟨w,c,e1,e2⟩
   ·exact⟨v,es,z2,y2⟩
  obtain⟨v0,es0,x1,x2⟩:=g j v es y1 y2;obtain⟨v1,es1,x3,x4⟩:=g m v' fs y3 y4;exact rl.inj j m v0 v1 es0 es1 b x1 x2 x3 x4 y5 y6
 ·rcases w0_ y1 with⟨z1,z2⟩|⟨z1,z2⟩
  ·subst z1
   exact rl.fresh j w b e1 (by rw[z2,W.putM_own e2]at yo;exact yo) y2
  ·exact rl.fresh j v b z2 yo y2
 ·obtain⟨j,v,es,y1,y2,y3⟩:=z
  rcases w0_ y1 with⟨z1,z2⟩|⟨z1,z2⟩
  ·rw[z1,h1]at y3;cases y3;exact ow
  ·exact⟨j,v,es,z2,y2,y3⟩
 ·rcases w0_ q with⟨z1,z2⟩|⟨z1,z2⟩
  ·subst z1
   exact⟨w,e1,by rw[z2,W.putM_par e2]at qp;exact qp⟩
  ·exact⟨v,z2,qp⟩
end
def asD:Rr×Env'->Option (D×Env')
 |(.d d,e)=>some (d,e)
 |_=>none
def asL:Rr×Env'->Option (List D×Env')
 |(.l d,e)=>some (d,e)
 |_=>none
def mCD(n:Nat)(f:Fn)(as:Mo (List Ar)):Mo D:=fun env=>(a0Z n f as env).bind asD
def a1a(n:Nat)(f:Fn)(as:Mo (List Ar)):Mo (List D):=fun env=>(a0Z n f as env).bind asL
def b4t(K:Qq)(B:OA)(G:Hp)(σ:St)(env:Env')(H:Hp)(env':Env')(Q:VK):Rr->Prop
 |.d d=>∀v G' H',Ev K B G σ env H G' σ env' H'->Rep K G' v d->Q v H'
 |.l ds=>∀a xs G' H',Ev K B G σ env H G' σ env' H'->H a=none-> ¬ Owned σ env' a->H' a=some (.lst xs)->G' a=none->z7_ K G' xs ds->Q (.ref a) H'
theorem a5Q{K:Qq}{B:OA}{n:Nat}{f:Fn}{as:Mo (List Ar)}{σ:St}{H:Hp}{G:Hp}{env env':Env'}{r:Rr}{Q:VK}{E:XK}(rl:Rel K B G σ env H)(e:a0Z n f as env=some (r,env'))
  (k:b4t K B G σ env H env' Q r):
  a5u (SpF K n f) [] E (TAm K B as) σ H Q:=by
 obtain⟨⟨av,env1⟩,e1,e2⟩:=q7_ e;dsimp only at e2;split at e2
 ·rename_i hn
  refine⟨G,env,av,env1,rl,e1,fun vs G1 H1 ev ra=>?_⟩
  show SpF K n f (vs++[]) H1 Q E;rw[Uw];have hnone:∀a,H1 a=none->H a=none:=fun a h=>by
   cases q:H a with
   |none=>rfl
   |some o=>exact absurd h (ev.live a (by rw[q];simp))
  split at e2
  ·rename_i hs
   obtain⟨⟨r',ws'⟩,e3,e4⟩:=x4_ e2;cases e4;refine⟨G1,av.map (u2_ (.l [])),r',ws',by rw[Qv];exact hn,a9n,a9q (i:=0) (w:=.nil) ev.rel ra (fun k j e=>absurd e (a2C hs k j)) (fun k k' j j' e=>absurd e (a2C hs k j)),e3,?_⟩
   cases r' with
   |d d=>exact fun v G2 H2 ev2 rp=>k v G2 H2 (ev.trans (a9s ev.rel ra hs ev2)) rp
   |l ds=>
    intro a xs G2 H2 ev2 ha no h' g' rp;exact k a xs G2 H2 (ev.trans (a9s ev.rel ra hs ev2)) (hnone a ha) (ev.rel.unowned ha) h' g' rp
  ·rename_i i hs
   obtain⟨w,e3,e4⟩:=q7_ e2;obtain⟨c,e5,e6⟩:=q7_ e4;obtain⟨⟨r',ws'⟩,e7,e8⟩:=q7_ e6;obtain⟨c',e9,e10⟩:=x4_ e8;cases e10;obtain⟨kk,hk,uk⟩:=a5P hs;refine⟨G1,av.map (u2_ c),r',ws',by rw[Qv];exact hn,a9n,a9q (i:=i) (w:=w) ev.rel ra (fun k j e=>⟨(uk k j e).2,e3,e5⟩) (fun k k' j j' h1 h2=>(uk k j h1).1.trans (uk k' j' h2).1.symm),e7,?_⟩
   cases r' with
   |d d=>exact fun v G2 H2 ev2 rp=>k v G2 H2 (ev.trans (a9t ev.rel ra hs e3 e5 e9 ev2)) rp
   |l ds=>
    intro a xs G2 H2 ev2 ha no h' g' rp;have evc:=a9t ev.rel ra hs e3 e5 e9 ev2;refine k a xs G2 H2 (ev.trans evc) (hnone a ha) (fun z=>?_) h' g' rp
    rcases evc.sub a z with q|q
    ·exact ev.rel.unowned ha q
    ·obtain⟨j,v,es,y1,y2,y3⟩:=z
     rcases w0_ y1 with⟨z1,z2⟩|⟨z1,z2⟩
     ·subst z1
      exact ev.rel.unowned ha ⟨j,w,c,e3,e5,y3⟩
     ·exact ev.rel.unowned ha ⟨j,v,es,z2,y2,y3⟩
  ·cases e2
 ·cases e2
section
variable{X:Cx}{B:OA}{pos p:Pos}{e:Expr}{es:List Expr}{as:Mo (List Ar)}{fn:Fn}{k:Nat}{f:Addr}{fd:FuncData}{ps:List Str}{x:Str}
theorem b4u(F:FnOk X.prog X.w X.K X.mg X.base CX0 k f fd ps (SpF X.K ps.length fn))(hr:Room k X.A)(hg:Gl X x)(hm:X.mg x=some (.ref f))(hk:PySem.W.keepIn X.K (.ref f)=true)(hb:a0u X.K fd ps [])
  (ha:EAr X B (e::es) as)(hdb:(x==("__debug__":Str))=false:=by decide)(he:starEach (e::es) X.env=(false,eval e X.env)::starEach es X.env:=by rfl)(hpl:(backTo pos (starEach es X.env)).any (·.1)=false:=by rfl):
  ED X B (.Call (.Name x p) (e::es) [] pos) (mCD ps.length fn as):=by
 refine pe_imp (a8z F hr hg hm hk hb .nil a5C ha hdb he hpl) ?_
 rintro σ H Q ⟨G,env,d,env',rl,e,k⟩;obtain⟨⟨r,env1⟩,e1,e2⟩:=q7_ e;cases r with
 |d d'=>cases e2;exact a5Q rl e1 k
 |l ds=>cases e2
theorem b4v(F:FnOk X.prog X.w X.K X.mg X.base CX0 k f fd ps (SpF X.K ps.length fn))(hr:Room k X.A)(hg:Gl X x)(hm:X.mg x=some (.ref f))(hk:PySem.W.keepIn X.K (.ref f)=true)(hb:a0u X.K fd ps [])
  (ha:EAr X B (e::es) as)(hdb:(x==("__debug__":Str))=false:=by decide)(he:starEach (e::es) X.env=(false,eval e X.env)::starEach es X.env:=by rfl)(hpl:(backTo pos (starEach es X.env)).any (·.1)=false:=by rfl):
  EL X B (.Call (.Name x p) (e::es) [] pos) (a1a ps.length fn as):=by
 refine pe_imp (a8z F hr hg hm hk hb .nil a5C ha hdb he hpl) ?_
 rintro σ H Q ⟨G,env,d,env',rl,e,k⟩;obtain⟨⟨r,env1⟩,e1,e2⟩:=q7_ e;cases r with
 |d d'=>cases e2
 |l ds=>cases e2;exact a5Q rl e1 k
end
def j8_(cells:List (Str×Addr)):List (Str×NameKind)->List (Str×Addr)->List (Str×Addr)
 |[],acc=>acc
 |(n,k)::r,acc=>if k==.free then(match cells.lookup n with
  |some c=>j8_ cells r ((n,c)::acc)
  |none=>j8_ cells r acc)else j8_ cells r acc
theorem a0b{α:Type}{n x:Str}{a:α}{r:List (Str×α)}:((n,a)::r).lookup x=if x=n then some a else r.lookup x:=by
 rw[List.lookup_cons]
 by_cases h:x=n
 ·subst h;simp
 ·have:(x==n)=false:=by simpa using h
  rw[this,Qw h]
theorem a1Z{cells:List (Str×Addr)}:∀{names:List (Str×NameKind)}{acc:List (Str×Addr)}{x:Str}{c:Addr},(j8_ cells names acc).lookup x=some c->acc.lookup x=some c∨cells.lookup x=some c
 |[],acc,x,c,h=>.inl h
 |(n,k)::r,acc,x,c,h=>by
  unfold j8_ at h;split at h
  ·split at h
   ·rename_i c' hc
    rcases a1Z h with q|q
    ·rw[a0b]at q
     split at q
     ·rename_i e;subst e;cases q;exact .inr hc
     ·exact .inl q
    ·exact .inr q
   ·exact a1Z h
  ·exact a1Z h
theorem a4A{cells:List (Str×Addr)}:∀{names:List (Str×NameKind)}{acc:List (Str×Addr)}{x:Str},(acc.lookup x).isSome=true->((j8_ cells names acc).lookup x).isSome=true
 |[],acc,x,h=>h
 |(n,k)::r,acc,x,h=>by
  unfold j8_;split
  ·split
   ·refine a4A ?_
    rw[a0b];split<;>simp[h]
   ·exact a4A h
  ·exact a4A h
theorem a3w{cells:List (Str×Addr)}:∀{names:List (Str×NameKind)}{acc:List (Str×Addr)}{x:Str},(x,NameKind.free)∈names->(cells.lookup x).isSome=true->((j8_ cells names acc).lookup x).isSome=true
 |[],acc,x,h,_=>by cases h
 |(n,k)::r,acc,x,h,hc=>by
  unfold j8_
  rcases Qr.mp h with e|h
  ·cases e
   rw[Qb (by decide)]
   split
   ·refine a4A ?_
    rw[a0b];simp
   ·rename_i hn;rw[hn]at hc;cases hc
  ·split
   ·split
    ·exact a3w h hc
    ·exact a3w h hc
   ·exact a3w h hc
theorem a5R:∀{names:List (Str×NameKind)}{h:Heap}{acc:List (Str×Addr)}{x:Str}{c:Addr},(cellsFrom h.objs.size names acc).lookup x=some c->
  acc.lookup x=some c∨((pushCells h names).IsCell c none/\h.objs.size≤c/\(x,NameKind.cell)∈names)
 |[],h,acc,x,c,q=>.inl q
 |(n,k)::r,h,acc,x,c,q=>by
  unfold cellsFrom at q;unfold pushCells;split at q
  ·rename_i hk
   rw[Qb hk];have hk':k=.cell:=by simpa using hk
   have ih:=a5R (names:=r) (h:=h.push {cls:=.type "cell",data:=.cell none}) (acc:=(n,h.objs.size)::acc) (x:=x) (c:=c) (by rw[Za];exact q)
   rcases ih with z|⟨z1,z2,z3⟩
   ·rw[a0b]at z
    split at z
    ·rename_i e;subst e;cases z
     exact .inr ⟨⟨_,Vg _ _ _ _ (Qg _ rfl),rfl⟩,Qu _,by rw[hk'];exact Jg⟩
    ·exact .inl z
   ·rw[Za]at z2
    exact .inr ⟨z1,by omega,Yu _ z3⟩
  ·rename_i hk
   rw[Qw hk]
   rcases a5R q with z|⟨z1,z2,z3⟩
   ·exact .inl z
   ·exact .inr ⟨z1,z2,Yu _ z3⟩
theorem a5S:∀{names:List (Str×NameKind)}{n:Nat}{acc:List (Str×Addr)},(∀x y c,acc.lookup x=some c->acc.lookup y=some c->x=y)->(∀x c,acc.lookup x=some c->c<n)->
  ∀x y c,(cellsFrom n names acc).lookup x=some c->(cellsFrom n names acc).lookup y=some c->x=y
 |[],n,acc,h1,h2=>h1
 |(m,k)::r,n,acc,h1,h2=>by
  unfold cellsFrom;split
  ·refine a5S (names:=r) (fun x y c q1 q2=>?_) (fun x c q=>?_)
   ·rw[a0b]at q1 q2
    split at q1<;>split at q2
    ·rename_i e1 e2;rw[e1,e2]
    ·cases q1;exact absurd (h2 _ _ q2) (Yg _)
    ·cases q2;exact absurd (h2 _ _ q1) (Yg _)
    ·exact h1 x y c q1 q2
   ·rw[a0b]at q
    split at q
    ·cases q;exact Nat.lt_succ_self _
    ·exact Xj (h2 _ _ q)
  ·exact a5S (names:=r) h1 h2
theorem a4B{env:Env}{x:Str}:∀{names:List (Str×NameKind)},((names.map fun(n,k)=>if(k==NameKind.free&&env.scope.kind==.function&&env.kindOf n==some .cell)then(n,NameKind.cell)else(n,k)).lookup x)=
  (names.lookup x).map fun k=>if(k==NameKind.free&&env.scope.kind==.function&&env.kindOf x==some .cell)then NameKind.cell else k
 |[]=>rfl
 |(n,k)::r=>by
  have ih:=a4B (env:=env) (x:=x) (names:=r)
  show List.lookup x ((if(k==NameKind.free&&env.scope.kind==.function&&env.kindOf n==some .cell)=true then(n,NameKind.cell)else(n,k))::_)=_
  by_cases hx:x=n
  ·subst hx
   rw[a0b (a:=k),Qb rfl]
   by_cases hc:(k==NameKind.free&&env.scope.kind==.function&&env.kindOf x==some .cell)=true
   ·rw[Qb hc,a0b,Qb rfl]
    show _=some (if(k==NameKind.free&&env.scope.kind==.function&&env.kindOf x==some .cell)=true then NameKind.cell else k)
    rw[Qb hc]
   ·rw[Qw hc,a0b,Qb rfl]
    show _=some (if(k==NameKind.free&&env.scope.kind==.function&&env.kindOf x==some .cell)=true then NameKind.cell else k)
    rw[Qw hc]
  ·rw[a0b (a:=k),Qw hx]
   by_cases hc:(k==NameKind.free&&env.scope.kind==.function&&env.kindOf n==some .cell)=true
   ·rw[Qb hc,a0b,Qw hx];exact ih
   ·rw[Qw hc,a0b,Qw hx];exact ih
theorem a4C:∀{names:List (Str×NameKind)}{n:Nat}{acc:List (Str×Addr)}{x:Str}{c0:Addr},acc.lookup x=some c0->∃c,(cellsFrom n names acc).lookup x=some c/\(c=c0∨n≤c)
 |[],n,acc,x,c0,h=>⟨c0,h,.inl rfl⟩
 |(m,k)::r,n,acc,x,c0,h=>by
  unfold cellsFrom;split
  ·by_cases hx:x=m
   ·obtain⟨c,h1,h2⟩:=a4C (names:=r) (n:=n+1) (acc:=(m,n)::acc) (x:=x) (c0:=n) (by rw[a0b,Qb hx])
    exact⟨c,h1,.inr (h2.elim (fun z=>Nat.le_of_eq z.symm) fun z=>Jj z)⟩
   ·obtain⟨c,h1,h2⟩:=a4C (names:=r) (n:=n+1) (acc:=(m,n)::acc) (x:=x) (c0:=c0) (by rw[a0b,Qw hx];exact h)
    exact⟨c,h1,h2.elim .inl fun z=>.inr (Jj z)⟩
  ·exact a4C h
theorem a5T:∀{names:List (Str×NameKind)}{n:Nat}{acc:List (Str×Addr)}{x:Str},(x,NameKind.cell)∈names->∃c,(cellsFrom n names acc).lookup x=some c/\n≤c
 |[],n,acc,x,h=>by cases h
 |(m,k)::r,n,acc,x,h=>by
  unfold cellsFrom
  rcases Qr.mp h with e|h
  ·cases e
   rw[Qb (by decide)]
   obtain⟨c,h1,h2⟩:=a4C (names:=r) (n:=n+1) (acc:=(m,n)::acc) (x:=m) (c0:=n) (by rw[a0b,Qb rfl])
   exact⟨c,h1,h2.elim (fun z=>Nat.le_of_eq z.symm) fun z=>Jj z⟩
  ·split
   ·obtain⟨c,h1,h2⟩:=a5T (names:=r) (n:=n+1) (acc:=(m,n)::acc) h
    exact⟨c,h1,Jj h2⟩
   ·exact a5T h
def a2E(scope:Scope)(env:Env)(C:Addr):Env:=
 {scope:=relabel scope env,locals:=C,globals:=env.globals,cells:=cellsFrom (C+1) scope.names (j8_ env.cells scope.names []),qual:=env.qual,func:=none,code:=env.code,frame:=env.frame,builtins:=env.builtins}
def k7_(X:Cx)(N':List Str)(scope:Scope)(s:Shared)(H:Hp)(fp:List Addr):Cx where
 prog:=X.prog
 w:=X.w
 K:=X.K
 mg:=X.mg
 base:=X.base
 A:=X.A
 N:=N'
 s₀:=s
 H₀:=H
 env:=a2E scope X.env s.heap.objs.size
 outer:=X.stack
 stack:=X.stack
 ex:=fp
 fn:=fun x=>scope.names.lookup x==some .cell
 calm:=X.calm
 pn:=[]
 xe:=fun _ _=>False
structure CompOk(X:Cx)(N':List Str)(scope:Scope)(keep:List Bool)(more:Nat):Prop where
 kind:scope.kind=.function
 uniq:∀y∈scope.names,scope.names.lookup y.1=some y.2
 clos:closureFor scope X.env=pure (j8_ X.env.cells scope.names [])
 free:∀y∈scope.names,y.2=.free->(X.env.cells.lookup y.1).isSome=true
 klen:keep.length=X.N.length
 len:N'.length=X.N.length+more
 kept:∀(i:Nat) (x:Str),keep[i]? =some true->N'[i]? =some x->X.N[i]? =some x/\scope.names.lookup x≠some .local/\scope.names.lookup x≠some .cell
 outVis:∀(i:Nat) (x:Str),keep[i]? =some true->X.N[i]? =some x->scope.names.lookup x=some .free->X.env.scope.names.lookup x=some .cell∨X.env.scope.names.lookup x=some .free
def j1_(keep:List Bool)(more:Nat)(σ:St):St:=List.zipWith (fun k v=>if k then v else none) keep σ++List.replicate more none
theorem a2F{keep:List Bool}{more:Nat}{σ:St}{i:Nat}{v:V}(h:(j1_ keep more σ)[i]? =some (some v)):keep[i]? =some true/\σ[i]? =some (some v):=by
 unfold j1_ at h
 rcases a1r h with⟨_,h⟩|⟨_,h⟩
 ·rw[Yo]at h
  cases e1:keep[i]? with
  |none=>rw[e1]at h;cases h
  |some k=>
   cases e2:σ[i]? with
   |none=>rw[e1,e2]at h;cases h
   |some u=>
    rw[e1,e2]at h;cases k with
    |true=>simp at h;exact⟨rfl,by rw[h]⟩
    |false=>simp at h
 ·cases h
theorem b4w{X:Cx}{N':List Str}{scope:Scope}{keep:List Bool}{more:Nat}{pins:OX}{σ:St}{H:Hp}{s:Shared}{fp:List Addr}(ok:CompOk X N' scope keep more)(I:Inv X pins σ H s)
  (hf:∀b∈fp,a0g X pins H b/\b<s.heap.objs.size):
  Inv (k7_ X N' scope s H fp) [] (j1_ keep more σ) H {s with heap:=pushCells (s.heap.push {cls:=.type "dict",data:=.dict #[]}) scope.names}:=by
 have hsz:(s.heap.push {cls:=.type "dict",data:=.dict #[]}).objs.size=s.heap.objs.size+1:=Za ..
 have keepAll:∀b u,s.heap.get? b=some u->(pushCells (s.heap.push {cls:=.type "dict",data:=.dict #[]}) scope.names).get? b=some u:=fun b u e=>Vg _ _ _ _ (Qx _ e)
 have cases':∀x c,(a2E scope X.env s.heap.objs.size).cells.lookup x=some c->X.env.cells.lookup x=some c∨((pushCells (s.heap.push {cls:=.type "dict",data:=.dict #[]}) scope.names).IsCell c none/\s.heap.objs.size+1≤c/\(x,NameKind.cell)∈scope.names):=fun x c e=>by
  have e':(cellsFrom ((s.heap.push {cls:=.type "dict",data:=.dict #[]}).objs.size) scope.names (j8_ X.env.cells scope.names [])).lookup x=some c:=by rw[hsz];exact e
  rcases a5R e' with z|⟨z1,z2,z3⟩
  ·rcases a1Z z with y|y
   ·cases y
   ·exact .inl y
  ·rw[hsz]at z2;exact .inr ⟨z1,z2,z3⟩
 have cellLt:∀x c,X.env.cells.lookup x=some c->c<s.heap.objs.size:=fun x c e=>by
  obtain⟨v,q⟩:=I.cell x c e;exact q.lt
 have fsSub:∀b∈frs X.stack,b<s.heap.objs.size:=fun b hb=>by
  obtain⟨_,o,ho,_⟩:=I.stack.mem hb;exact Qh ho
 refine⟨⟨I.ok.mod,?_,I.ok.glob,I.ok.blt,Qu _,fun x y c e1 e2=>?_,fun x hx=>?_,fun x c e1 e2=>?_,I.ok.hd,I.ok.frames,.inl rfl,fun b hb=>?_,I.bs,Zn I.ok.bsz I.sz,fun b o e hb=>?_,fun b hb hb2=>?_,I.stack,I.stkFree⟩,
  rfl,I.bare,Un.kept keepAll,⟨fun _=>none,(Heap.Ns.new s.heap (.type "dict")).keeps (Vg _ _),fun i x v e1 e2 e3=>?_⟩,fun x c e=>?_,I.hok.fresh (Qu _),fun x c e=>?_,fun p hp=>absurd (show p∈([]:OX)from hp) (by simp),I.hok.kept keepAll,?_⟩
 ·show(relabel scope X.env).kind=.function
  exact ok.kind
 ·refine a5S (names:=scope.names) (n:=s.heap.objs.size+1) (acc:=j8_ X.env.cells scope.names []) (fun x y c q1 q2=>?_) (fun x c q=>?_) x y c e1 e2
  ·rcases a1Z q1 with z1|z1
   ·cases z1
   ·rcases a1Z q2 with z2|z2
    ·cases z2
    ·exact I.ok.inj x y c z1 z2
  ·rcases a1Z q with z1|z1
   ·cases z1
   ·exact Xj (cellLt x c z1)
 ·have hx':(relabel scope X.env).names.lookup x=some .cell∨(relabel scope X.env).names.lookup x=some .free:=hx
  have h1:scope.names.lookup x=some .cell∨scope.names.lookup x=some .free:=by
   unfold relabel at hx';rw[a4B]at hx';cases q:scope.names.lookup x with
   |none=>rw[q]at hx';simp at hx'
   |some k=>
    rw[q]at hx';cases k<;>simp at hx'<;>first|exact .inl rfl|exact .inr rfl
  refine Jv.mp (Jc scope.names _ _ ?_)
  rcases h1 with h1|h1
  ·exact .inl h1
  ·exact .inr (a3w (Zu h1) (ok.free _ (Zu h1) rfl))
 ·have e1':scope.names.lookup x=some .cell:=by simpa [k7_]using e1
  obtain⟨c',q1,q2⟩:=a5T (names:=scope.names) (n:=s.heap.objs.size+1) (acc:=j8_ X.env.cells scope.names []) (Zu e1');have e2':(cellsFrom (s.heap.objs.size+1) scope.names (j8_ X.env.cells scope.names [])).lookup x=some c:=e2;rw[q1]at e2';cases e2';exact Jj q2
 ·refine⟨Zj (hf b hb).2,fun x c e z=>?_⟩
  rcases cases' x c e with y|⟨_,y,_⟩
  ·exact(hf b hb).1.2.2.2.2.1 x c y z
  ·exact absurd (Qd (hf b hb).2 (Jj y)) (by rw[z];exact Yg _)
 ·have:=(I.bs b o e).1
  rcases(hf b hb).1.2.2.2.1 with z|z
  ·exact I.ok.noex b o e z
  ·exact absurd (Qd (Qh e) (Zn I.ok.bsz z)) (Yg _)
 ·rcases Qr.mp (I.stkSub b hb2)with z|z
  ·exact(hf b hb).1.2.1 z
  ·exact(hf b hb).1.2.2.1 z
 ·obtain⟨k1,k2⟩:=a2F e2
  obtain⟨h1,h2,h3⟩:=ok.kept i x k1 e1;have e3':(relabel scope X.env).names.lookup x=some .local∨(relabel scope X.env).names.lookup x=some .cell∨(relabel scope X.env).names.lookup x=some .free:=e3;have hfree:scope.names.lookup x=some .free:=by
   unfold relabel at e3';rw[a4B]at e3';cases q:scope.names.lookup x with
   |none=>rw[q]at e3';simp at e3'
   |some k=>
    rw[q]at e3' h2 h3;cases k<;>simp at e3' h2 h3<;>rfl
  obtain⟨m,hn,hl⟩:=I.loc;have ov:=ok.outVis i x k1 h1 hfree;obtain⟨u,r,l⟩:=hl i x v h1 k2 (.inr ov);refine⟨u,r,.inr ?_⟩;obtain⟨c0,hc0⟩:=Jv.mp (ok.free _ (Zu hfree) rfl);have hcell:s.heap.IsCell c0 (some u):=by
   rcases l with⟨kl,_⟩|⟨_,c,hc,hz⟩
   ·have kl':X.env.scope.names.lookup x=some .local:=kl
    rcases ov with z|z<;>(rw[z]at kl';cases kl')
   ·have hc':X.env.cells.lookup x=some c:=hc
    have hc0':X.env.cells.lookup x=some c0:=hc0
    rw[hc']at hc0';cases hc0';exact hz
  have hk:(a2E scope X.env s.heap.objs.size).kindOf x=some .cell∨(a2E scope X.env s.heap.objs.size).kindOf x=some .free:=by
   show(relabel scope X.env).names.lookup x=some .cell∨(relabel scope X.env).names.lookup x=some .free
   rcases e3' with z|z
   ·exfalso
    unfold relabel at z;rw[a4B,hfree]at z;simp only[Vf,Zf]at z;split at z<;>cases z
   ·exact z
  refine⟨hk,c0,?_,hcell.keeps keepAll⟩;obtain⟨c1,hc1⟩:=Jv.mp (Jc (x:=x) scope.names (s.heap.objs.size+1) (j8_ X.env.cells scope.names []) (.inr (a3w (Zu hfree) (ok.free _ (Zu hfree) rfl))));have hc1':(a2E scope X.env s.heap.objs.size).cells.lookup x=some c1:=hc1
  rcases cases' x c1 hc1' with z|⟨_,_,z⟩
  ·have hc0':X.env.cells.lookup x=some c0:=hc0
   rw[hc0']at z;cases z;exact hc1'
  ·have:=ok.uniq _ z
   rw[hfree]at this;cases this
 ·rcases cases' x c e with y|⟨y,_,_⟩
  ·obtain⟨v,q⟩:=I.cell x c y
   exact⟨v,q.keeps keepAll⟩
  ·exact⟨none,y⟩
 ·rcases cases' x c e with y|⟨_,y,_⟩
  ·exact I.freeC x c y
  ·exact I.hok.fresh (by omega)
 ·show(j1_ keep more σ).length=N'.length
  unfold j1_;rw[Ql,Jp,Yn,ok.len,ok.klen,I.len]
  omega
section
variable{prog:Program}{w:World}{A:Around}{R:Result->Shared->Prop}{s:Shared}
theorem b4x{elt target iter:Expr}{ifs:List Expr}{scope:Scope}{pos:Pos}{it acc:Value}{env:Env}(I:Nat->Shared->Prop)
  (turn:∀n s,I n s->wpAny (model prog w) A (pyNext it) (fun r s₁=>match r with
   |none=>R (.ok .next) s₁
   |some v=>wpAny (model prog w) A (letOwnedTupleGo target it v) (fun _ s₁'=>wpAny (model prog w) A (assign target env v) (fun _ s₂=>
     wpAny (model prog w) A (forIn ifs true fun c r=>if r=true then do let ok←isTrue c env (eval c env);pure (ForInStep.yield ok)else pure (ForInStep.yield r)) (fun ok s₃=>
      if ok=true then wpAny (model prog w) A (eval elt env) (fun x s₄=>
       wpAny (model prog w) A (call (.builtin "list.append") [acc,x]) (fun _ s₅=>∃m,m<n/\I m s₅) (fun _ _=>False) s₄) (fun _ _=>False) s₃
      else∃m,m<n/\I m s₃) (fun _ _=>False) s₂) (fun _ _=>False) s₁') (fun _ _=>False) s₁) (fun _ _=>False) s)
  (n:Nat)(h:I n s):
  codeAny (model prog w) A (.compLoop (.ListComp elt [⟨target,iter,ifs,0⟩] scope pos) 0 it acc env) R s:=by
 refine codeAny_loop rfl I (fun n s hI=>?_) n h
 show wpAny _ A ((compTurn (.ListComp elt [⟨target,iter,ifs,0⟩] scope pos) 0 it acc env).onRaise (fun x=>do noteFrame x env;theTreesLotGoes x)) _ _ s
 refine wpAny_noted ?_
 rw[compTurn_list];refine Qz (wpAny_standAt (Qz (Yp (turn n s hI) (fun r s₁ h₁=>?_) fun _ _ h'=>h'.elim)))
 cases r with
 |none=>exact Qj h₁
 |some v=>
  refine Qz (Yp h₁ (fun _ s₁' h₁'=>?_) fun _ _ h'=>h'.elim)
  refine Qz (Yp h₁' (fun _ s₂ h₂=>Qz (Yp h₂ (fun ok s₃ h₃=>?_) fun _ _ h'=>h'.elim)) fun _ _ h'=>h'.elim)
  cases ok with
  |false=>exact Qj ⟨rfl,h₃⟩
  |true=>
   exact Qz (Qz (Yp h₃ (fun x s₄ h₄=>Qz (Yp h₄ (fun _ s₅ h₅=>Qj (Qj ⟨rfl,h₅⟩)) fun _ _ h'=>h'.elim)) fun _ _ h'=>h'.elim))
theorem b4y{M:Model}{E:OE}{scope:Scope}{env:Env}{Q:Env->Shared->Prop}(cl:List (Str×Addr))
  (h:Q {scope:=scope,locals:=s.heap.objs.size,globals:=env.globals,cells:=cellsFrom (s.heap.objs.size+1) scope.names cl,qual:=env.qual,func:=none,code:=env.code,frame:=env.frame,builtins:=env.builtins}
   {s with heap:=pushCells (s.heap.push {cls:=.type "dict",data:=.dict #[]}) scope.names}):
  wpAny M A (newFunctionEnv scope env.globals cl [] env.qual none .none (some env)) Q E s:=by
 simp only[newFunctionEnv,Option.isSome_some,Zs];refine Qz (wpAny_alloc ?_);refine Qz (wpAny_layCells _ (fun name kind cells=>by cases hkc:kind==NameKind.cell<;>simp[hkc]) _ _ _ _ ?_)
 rw[show({s with heap:=s.heap.push {cls:=.type "dict",data:=.dict #[]}}:Shared).heap.objs.size=s.heap.objs.size+1 from Za ..]
 exact Qz (by rw[List.forIn_nil];exact Qj (Qj h))
end
def a1b(X:Cx)(ifs:List Expr)(t:TT):Prop:=
 ∀(pins:OX) (s:Shared) (σ:St) (H:Hp) (Q:Bool->Hp->Prop),Inv X pins σ H s->t σ H Q->
  wpAny (model X.prog X.w) X.A (forIn ifs true fun c r=>if r=true then do let ok←isTrue c X.env (eval c X.env);pure (ForInStep.yield ok)else pure (ForInStep.yield r)) (TP X pins σ Q) X.xe s
theorem b4z{X:Cx}:a1b X [] (fun _ H Q=>Q true H):=fun _ _ _ H _ I h=>wpAny_tests_nil ⟨H,I,h⟩
theorem b4A{X:Cx}{c:Expr}{t:TT}(h:PT X c t):a1b X [c] t:=fun pins s σ H Q I q=>wpAny_tests_one (h pins s σ H Q I q)
def a9u(J:It)(g:TG)(tt:TT)(te:TE)(p:Addr)(σ₀:St)(H₀:Hp)(Q:Hp->Prop):Prop:=
 ∃W:Nat->Nat->St->Hp->Prop,(∃m,W 0 m σ₀ (upd H₀ p (.lst [])))/\∀i m σ H,W i m σ H->
  (J.stop i H/\Q H)∨(J.go i H/\∀x H',J.yld i H x H'->g x σ H' fun σ2 H2=>tt σ2 H2 fun b H3=>
   if b=true then te σ2 H3 fun y H4=>∃ys,H4 p=some (.lst ys)/\ys.length<sizeLine/\∃m',m'<m/\W (i+1) m' σ2 (upd H4 p (.lst (ys++[y])))
   else∃m',m'<m/\W (i+1) m' σ2 H3)
section
variable{X:Cx}{N':List Str}{scope:Scope}{keep:List Bool}{more:Nat}{tg iter elt:Expr}{ifs:List Expr}{g:TG}{tt:TT}{te:TE}{pos:Pos}
theorem a9v{E:OE}{pins:OX}{σ:St}{H:Hp}{s:Shared}{it:Addr}{fp:List Addr}{tn:Nat->Heap->Prop}{J:It}{Qf:Addr->Hp->Prop}{RR:Value->Addr->Result->Shared->Prop}
  (ok:CompOk X N' scope keep more)(hc:X.calm=true)(hg:∀s H fp,PG (k7_ X N' scope s H fp) tg g)(ht:∀s H fp,a1b (k7_ X N' scope s H fp) ifs tt)(he:∀s H fp,PE (k7_ X N' scope s H fp) elt te)
  (I:Inv X pins σ H s)(T:Turn X.prog X.w X.K tg J fp it tn)(st:tn 0 s.heap)(hf:∀b∈fp,a0g X pins H b)
  (run:∀p,H p=none->a9u J g tt te p (j1_ keep more σ) H (Qf p))
  (hRR:∀p C s' H' m,Inv X pins σ H' s'->Qf p H'->s'.heap.Ns C m->C≠X.env.locals->(∀x c,X.env.cells.lookup x=some c->c≠C)->H' C=none->(∀σ'' H'' s'' h',Inv X pins σ'' H'' s''->H'' C=none->Heap.SameBut C s''.heap h'->Inv X pins σ'' H'' {s'' with heap:=h'})->RR (.ref p) C (.ok .next) s'):
  wpAny (model X.prog X.w) X.A (newList []) (fun acc s₃=>wpAny (model X.prog X.w) X.A (newFunctionEnv scope X.env.globals (j8_ X.env.cells scope.names []) [] X.env.qual none .none (some X.env)) (fun cenv s₄=>
   codeAny (model X.prog X.w) X.A (.compStart (.ListComp elt [⟨tg,iter,ifs,0⟩] scope pos) 0 (.ref it) acc {cenv with scope:=relabel scope X.env}) (RR acc cenv.locals) s₄) E s₃) E s:=by
 have hp0:H s.heap.objs.size=none:=I.hok.fresh (Qu _)
 refine Qo ?_
 have I3:Inv X pins σ (upd H s.heap.objs.size (.lst [])) {s with heap:=s.heap.push {cls:=.type "list",dict:=none,data:=.seq ([]:List Value).toArray}}:=
  I.laid (t':=s.toks) (fun b u e=>Qx _ e) (Qu _) ⟨Xw _,[],0,.nil,Qg _ rfl⟩
 have fpOld:∀b∈fp,b<s.heap.objs.size:=fun b hb=>by
  obtain⟨o,e,_⟩:=T.obj 0 _ st b hb;exact Qh e
 have hf3:∀b∈fp,a0g X pins (upd H s.heap.objs.size (.lst [])) b/\b<(s.heap.push {cls:=.type "list",dict:=none,data:=.seq ([]:List Value).toArray}).objs.size:=fun b hb=>by
  refine⟨⟨by rw[v4_ (Zj (fpOld b hb))];exact(hf b hb).1,(hf b hb).2⟩,?_⟩
  rw[Za];exact Xj (fpOld b hb)
 have st3:tn 0 (s.heap.push {cls:=.type "list",dict:=none,data:=.seq ([]:List Value).toArray}):=T.keep 0 _ _ st fun b hb o e=>Qx _ e
 generalize hs3:({s with heap:=s.heap.push {cls:=.type "list",dict:=none,data:=.seq ([]:List Value).toArray}}:Shared)=s3 at I3 ⊢
 have hs3h:s3.heap=s.heap.push {cls:=.type "list",dict:=none,data:=.seq ([]:List Value).toArray}:=by rw[←hs3]
 rw[←hs3h]at hf3 st3;generalize hp:s.heap.objs.size=p at hp0 I3 hf3 ⊢;generalize hH3:upd H p (.lst [])=H3 at I3 hf3;refine b4y _ ?_
 have I4:=b4w ok I3 hf3
 generalize hs4:({s3 with heap:=pushCells (s3.heap.push {cls:=.type "dict",data:=.dict #[]}) scope.names}:Shared)=s4 at I4 ⊢
 have st4:tn 0 s4.heap:=T.keep 0 _ _ st3 fun b hb o e=>by rw[←hs4];exact Vg _ _ _ _ (Qx _ e)
 obtain⟨W,⟨m0,w0⟩,turn⟩:=run p hp0;have stat:∀{H':Hp},(∀b∈fp,H' b=none)->∀b∈fp,a0g (k7_ X N' scope s3 H3 fp) [] H' b:=fun hn b hb=>by
  have z:=I4.ok.exf b hb
  exact⟨hn b hb,z.1,I4.ok.exfs b hb,.inl hb,z.2,fun p hp=>absurd (show p∈([]:OX)from hp) (by simp)⟩
 have loop:codeAny (model X.prog X.w) X.A (.compLoop (.ListComp elt [⟨tg,iter,ifs,0⟩] scope pos) 0 (.ref it) (.ref p) (a2E scope X.env s3.heap.objs.size)) (RR (.ref p) s3.heap.objs.size) s4:=by
  refine b4x (fun n s'=>∃i σ' H',Inv (k7_ X N' scope s3 H3 fp) [] σ' H' s'/\tn i s'.heap/\(∀b∈fp,H' b=none)/\W i n σ' H') ?_ m0 ⟨0,_,H3,I4,st4,fun b hb=>(hf3 b hb).1.1,by rw[←hH3];exact w0⟩
  rintro n s5 ⟨i,σ5,H5,I5,st5,fr5,w5⟩
  rcases turn i n σ5 H5 w5 with⟨stop,qf⟩|⟨go,step⟩
  ·refine thn (T.done (k7_ X N' scope s3 H3 fp) rfl rfl rfl hc i [] s5 σ5 H5 (fun _ _=>False) I5 (stat fr5) st5 stop) fun r s6 ⟨hr,I6⟩=>?_
   subst hr;obtain⟨m6,hn6,_⟩:=I6.loc;have hch:∀b∈fp,(b∈X.ex∨X.s₀.heap.objs.size≤b)/\b≠X.env.locals/\(∀x c,X.env.cells.lookup x=some c->c≠b)/\∀p∈X.pn++pins,p.1≠b:=fun b hb=>by
    obtain⟨_,f1,_,f3,f4,f5⟩:=hf b hb;exact⟨f3,f1,f4,f5⟩
   have IX:Inv X pins σ H5 s6:=I3.call' (s':=s6) (I6.os) (I6.base) I6.hok I6.bare hch
   have szC:X.s₀.heap.objs.size≤s3.heap.objs.size:=I3.sz
   have hCL:s3.heap.objs.size≠X.env.locals:=Xx I3.lt
   have hCc:∀x c,X.env.cells.lookup x=some c->c≠s3.heap.objs.size:=fun x c e=>by
    obtain⟨v,q⟩:=I3.cell x c e;exact Zj q.lt
   have hCp:∀q∈X.pn++pins,q.1≠s3.heap.objs.size:=fun q hq=>Zj (Qh (I3.pin q hq).1)
   refine hRR p s3.heap.objs.size s6 H5 m6 IX qf hn6 hCL hCc I6.free fun σ'' H'' s'' h' I'' hn hs=>?_
   exact I''.turned (t':=s''.toks) (it:=s3.heap.objs.size) (fun b o hb e=>(hs.2 b hb).trans e) hn hCL (.inr szC) hCc hCp
  ·refine thn (T.item (k7_ X N' scope s3 H3 fp) rfl rfl rfl hc i [] s5 σ5 H5 (fun _ _=>False) I5 (stat fr5) st5 go) fun r s6 ⟨u,hr,h6⟩=>?_
   subst hr;refine thn h6 fun _ s7 ⟨x,H7,I7,r7,y7,st7,fr7⟩=>?_
   have I7':=I7.pinned (stat fr7) (T.obj _ _ st7)
   have back:∀{σ8:St}{H8:Hp}{s8:Shared}{m':Nat},Inv (k7_ X N' scope s3 H3 fp) ([]++a3h fp s7.heap) σ8 H8 s8->m'<n->W (i+1) m' σ8 H8->∃m,m<n/\∃i σ' H',Inv (k7_ X N' scope s3 H3 fp) [] σ' H' s8/\tn i s8.heap/\(∀b∈fp,H' b=none)/\W i m σ' H':=fun{σ8 H8 s8 m'} I8 hm w8=>by
    refine⟨m',hm,i+1,σ8,H8,I8.unpinned,T.keep _ _ _ st7 fun b hb o e=>(I8.pin (b,o) (Zy _ (Zy _ (a4h hb e)))).1,fun b hb=>?_,w8⟩
    obtain⟨o,e,d⟩:=T.obj _ _ st7 b hb;exact(I8.pin (b,o) (Zy _ (Zy _ (a4h hb e)))).2.1
   refine thn (hg s3 H3 fp _ s7 σ5 H7 x u _ I7' r7 (step x H7 y7)) fun _ s8 ⟨σ8,H8,I8,q8⟩=>?_
   refine thn (ht s3 H3 fp _ s8 σ8 H8 _ I8 q8) fun b s9 ⟨H9,I9,q9⟩=>?_
   cases b with
   |false=>
    simp only[Zx,Yx]at q9 ⊢;obtain⟨m',hm,w9⟩:=q9;exact back I9 hm w9
   |true=>
    simp only[Zs]at q9 ⊢;refine thn (he s3 H3 fp _ s9 σ8 H9 _ I9 q9) fun v s10 ⟨y,H10,I10,r10,ys,hys,hl,m',hm,w10⟩=>?_
    exact thn (a8R (X:=k7_ X N' scope s3 H3 fp) _ s10 σ8 H10 (.ref p) [y] (.ref p) [v] (fun _ H11=>W (i+1) m' σ8 H11) I10 rfl (.cons r10 .nil) ⟨p,ys,y,rfl,rfl,hys,hl,w10⟩) fun _ s11 ⟨_,H11,I11,_,w11⟩=>back I11 hm w11
 refine codeAny_compStart_list loop ?_
 exact Yp (T.self X.A 0 s4 _ (fun _ _=>False) st4 loop) (fun _ _ q=>q) fun _ _ q=>q.elim
def a5U(wi:TI)(keep:List Bool)(more:Nat)(g:TG)(tt:TT)(te:TE):TE:=fun σ H Q=>wi σ H fun J H1=>∀p,H1 p=none->a9u J g tt te p (j1_ keep more σ) H1 (Q (.ref p))
theorem b4B{wi:TI}(ok:CompOk X N' scope keep more)(hc:X.calm=true)(hi:PI X tg iter wi)(hg:∀s H fp,PG (k7_ X N' scope s H fp) tg g)(ht:∀s H fp,a1b (k7_ X N' scope s H fp) ifs tt)(he:∀s H fp,PE (k7_ X N' scope s H fp) elt te)
  (hs:∀x,foldedSetIterable iter X.env x=pure x:=by intro _;rfl):PE X (.ListComp elt [⟨tg,iter,ifs,0⟩] scope pos) (a5U wi keep more g tt te):=by
 intro pins s σ H Q I h;rw[eval_ListComp];refine wpAny_comprehension_free (use:=none) rfl hs ok.clos ok.kind (fun x hx hl=>by have:=ok.uniq x hx;rwa [hl]at this) (thn (hi pins s σ H _ I h) fun v s1 h1=>thn h1 fun itv s2 h2=>?_)
 obtain⟨it,fp,tn,J,H2,e,I2,T,st2,f2,run⟩:=h2;subst e;refine a9v (Qf:=fun p H'=>Q (.ref p) H') (RR:=fun acc C=>compPost (model X.prog X.w) X.A X.xe none (EP X pins σ Q) acc C) ok hc hg ht he I2 T st2 f2 run ?_
 intro p C s' H' m IX qf hn hCL hCc hCn turn;exact⟨m,hn,fun h' hs'=>⟨.ref p,H',turn σ H' s' h' IX hCn hs',rfl,qf⟩⟩
theorem b4C{wi:TI}{i:Nat}{y:Str}{py spos:Pos}(ok:CompOk X N' scope keep more)(hc:X.calm=true)(hN:X.N.Nodup)(hy:X.N[i]? =some y)(hyl:X.env.scope.names.lookup y=some .local)
  (hsw:swapsWith (.ListComp elt [⟨tg,iter,ifs,0⟩] scope pos) (some (.Name y py)) spos.line X.env=pure true)
  (hi:PI X tg iter wi)(hg:∀s H fp,PG (k7_ X N' scope s H fp) tg g)(ht:∀s H fp,a1b (k7_ X N' scope s H fp) ifs tt)(he:∀s H fp,PE (k7_ X N' scope s H fp) elt te)
  (hs:∀x,foldedSetIterable iter X.env x=pure x:=by intro _;rfl):PS X (.Assign [.Name y py] (.ListComp elt [⟨tg,iter,ifs,0⟩] scope pos) spos) (a5l (a5U wi keep more g tt te) (a5k i)):=by
 intro pins s σ H D I h;rw[exec_Assign_Name_used _ _ _ _ hsw];refine Qz (wpAny_standAt (Qz ?_));show wpAny _ X.A (do let _←comprehension (.ListComp elt [⟨tg,iter,ifs,0⟩] scope pos) scope X.env _ (newList []) false (eval iter X.env) (some (assign (.Name y py) X.env))) _ _ s
 refine Qz (Yp (wpAny_comprehension_free (use:=some (assign (.Name y py) X.env)) (Q:=fun _ s'=>SP X pins D .next s') rfl hs ok.clos ok.kind (fun x hx hl=>by have:=ok.uniq x hx;rwa [hl]at this) (thn (hi pins s σ H _ I h) fun v s1 h1=>thn h1 fun itv s2 h2=>?_)) (fun _ s' hq=>Qj (Qj hq)) fun _ _ e=>e)
 obtain⟨it,fp,tn,J,H2,e,I2,T,st2,f2,run⟩:=h2;subst e;refine a9v (Qf:=fun p H'=>D.nx (σ.set i (some (.ref p))) H') (RR:=fun acc C=>compPost (model X.prog X.w) X.A X.xe (some (assign (.Name y py) X.env)) (fun _ s'=>SP X pins D .next s') acc C) ok hc hg ht he I2 T st2 f2 run ?_
 intro p C s' H' m IX qf hn hCL hCc hCn turn;refine wpAny_assign_Name (a8l (v:=.ref p) (u:=.ref p) IX hN hy (.inl hyl) rfl (fun s'' I'' hs''=>?_) (.inr hyl))
 obtain⟨a,hsb,ha⟩:=hs'';have hCa:C≠a:=by
  rcases ha with z|z
  ·rw[z];exact hCL
  ·exact fun q=>hCc y a z q.symm
 exact⟨m,hn.sameBut hsb hCa,fun h' hs'=>⟨_,H',turn _ H' s'' h' I'' hCn hs',qf⟩⟩
end
def w5_(keep:List Bool)(more:Nat)(env:Env'):Env':=List.zipWith (fun k w=>if k then w else .nil) keep env++List.replicate more .nil
def a0w:Bool->W->W->Option W
 |false,w,_=>some w
 |true,.nil,_=>some .nil
 |true,.dat d,_=>some (.dat d)
 |true,.own _,.own ds=>some (.own ds)
 |true,.own _,.dat d=>some (.dat d)
 |true,.par _,.par ds=>some (.par ds)
 |true,.ownD _ _,.ownD ks vs=>some (.ownD ks vs)
 |true,.ownD _ _,.dat d=>some (.dat d)
 |true,.parD _ _,.parD ks vs=>some (.parD ks vs)
 |_,_,_=>none
theorem b4D{w w2 w':W}{m:Mu}(h:a0w true w w2=some w')(e:w'.mut=some m):w2=w'/\∃d0,w.mut=some d0/\w.isOwn=w'.isOwn/\w.isPar=w'.isPar:=by
 cases w<;>cases w2<;>first
  |(simp only[a0w,Zf]at h;subst h;exact⟨rfl,_,rfl,rfl,rfl⟩)
  |(simp only[a0w,Zf]at h;subst h;cases e;done)
  |(simp[a0w]at h;done)
theorem b4E{w w2:W}{d:D}(h:a0w true w w2=some (.dat d)):w=.dat d∨(w2=.dat d/\∃d0,w.mut=some d0):=by
 cases w<;>cases w2<;>first
  |(simp only[a0w,Zf]at h;exact .inl h)
  |(simp only[a0w,Zf]at h;exact .inr ⟨h,_,rfl⟩)
  |(simp[a0w]at h;done)
def w6_:List Bool->Env'->Env'->Option Env'
 |[],[],_=>some []
 |k::ks,w::ws,w2::ws2=>(a0w k w w2).bind fun x=>(w6_ ks ws ws2).map fun r=>x::r
 |_,_,_=>none
theorem a5V:∀{keep:List Bool}{env env2 env':Env'}{i:Nat}{w':W},w6_ keep env env2=some env'->env'[i]? =some w'->∃k w w2,keep[i]? =some k/\env[i]? =some w/\env2[i]? =some w2/\a0w k w w2=some w'
 |[],[],_,env',i,w',h,e=>by simp only[w6_,Zf]at h;subst h;simp at e
 |[],_::_,_,env',i,w',h,e=>by simp[w6_]at h
 |k::ks,[],_,env',i,w',h,e=>by simp[w6_]at h
 |k::ks,w::ws,[],env',i,w',h,e=>by simp[w6_]at h
 |k::ks,w::ws,w2::ws2,env',i,w',h,e=>by
  unfold w6_ at h;obtain⟨x,h1,h2⟩:=q7_ h;obtain⟨r,h3,h4⟩:=x4_ h2;subst h4;cases i with
  |zero=>simp at e;subst e;exact⟨k,w,w2,rfl,rfl,rfl,h1⟩
  |succ i=>simpa using a5V (i:=i) h3 (by simpa using e)
theorem a9w:∀{keep:List Bool}{env env2 env':Env'},w6_ keep env env2=some env'->env'.length=env.length
 |[],[],_,env',h=>by simp only[w6_,Zf]at h;subst h;rfl
 |[],_::_,_,env',h=>by simp[w6_]at h
 |k::ks,[],_,env',h=>by simp[w6_]at h
 |k::ks,w::ws,[],env',h=>by simp[w6_]at h
 |k::ks,w::ws,w2::ws2,env',h=>by
  unfold w6_ at h;obtain⟨x,h1,h2⟩:=q7_ h;obtain⟨r,h3,h4⟩:=x4_ h2;subst h4
  simp[a9w h3]
theorem a2a{keep:List Bool}{more:Nat}{env:Env'}{i:Nat}{w:W}(h:(w5_ keep more env)[i]? =some w)(hw:w≠.nil):keep[i]? =some true/\env[i]? =some w:=by
 unfold w5_ at h
 rcases a1r h with⟨_,h⟩|⟨_,h⟩
 ·rw[Yo]at h
  cases e1:keep[i]? with
  |none=>rw[e1]at h;cases h
  |some k=>
   cases e2:env[i]? with
   |none=>rw[e1,e2]at h;cases h
   |some u=>
    rw[e1,e2]at h;cases k with
    |true=>simp at h;exact⟨rfl,by rw[h]⟩
    |false=>simp at h;exact absurd h.symm hw
 ·exact absurd h hw
theorem a4D{keep:List Bool}{more:Nat}{σ:St}{i:Nat}{v:Option V}(hk:keep[i]? =some true)(h:σ[i]? =some v):(j1_ keep more σ)[i]? =some v:=by
 unfold j1_;have h1:i<keep.length:=(Qy.mp hk).1;have h2:i<σ.length:=(Qy.mp h).1;rw[Yc (by rw[Jp];omega),Yo,hk,h]
 rfl
theorem a3x{w:W}{ds:Mu}(h:w.mut=some ds):w≠.nil:=fun z=>by rw[z]at h;cases h
section
variable{K:Qq}{B:OA}{G G':Hp}{σ σ':St}{env env2 env':Env'}{H H':Hp}{keep:List Bool}{more:Nat}
theorem a5W{a:Addr}(h:Owned (j1_ keep more σ) (w5_ keep more env) a):Owned σ env a:=by
 obtain⟨i,w,ds,e1,e2,e3⟩:=h;exact⟨i,w,ds,(a2a e1 (a3x e2)).2,e2,(a2F e3).2⟩
theorem Rel.ext(r:Rel K B G σ env H)(hk:keep.length=σ.length):Rel K B G (j1_ keep more σ) (w5_ keep more env) H:=by
 refine⟨r.sub,?_,fun i d e=>?_,fun i w ds e1 e2=>?_,fun i j w w' ds es a q1 q2 q3 q4 q5 q6=>?_,fun i w a q1 qo q2=>?_,r.old,r.tabs,r.gnt⟩
 ·unfold w5_ j1_
  rw[Ql,Ql,Jp,Jp,Yn,Yn,r.len]
 ·obtain⟨k1,k2⟩:=a2a e (by simp)
  obtain⟨v,e1,e2⟩:=r.dat i d k2;exact⟨v,a4D k1 e1,e2⟩
 ·obtain⟨k1,k2⟩:=a2a e1 (a3x e2)
  obtain⟨a,xs,e3,e4⟩:=r.own i w ds k2 e2;exact⟨a,xs,a4D k1 e3,e4⟩
 ·exact r.inj i j w w' ds es a (a2a q1 (a3x q2)).2 q2 (a2a q3 (a3x q4)).2 q4 (a2F q5).2 (a2F q6).2
 ·exact r.fresh i w a (a2a q1 (by rintro rfl;cases qo)).2 qo (a2F q2).2
theorem Ev.out(r:Rel K B G σ env H)(hk:keep.length=σ.length)(ev:Ev K B G (j1_ keep more σ) (w5_ keep more env) H G' σ' env2 H')(hσ:∀j,j<σ.length->σ'[j]? =(j1_ keep more σ)[j]?)(ho:w6_ keep env env2=some env'):
  Ev K B G σ env H G' σ env' H':=by
 have mutO:∀(i:Nat) (w':W) (ds:Mu),env'[i]? =some w'->w'.mut=some ds->∃w0 d0,env[i]? =some w0/\w0.mut=some d0/\w0.isOwn=w'.isOwn/\w0.isPar=w'.isPar/\
   ∃a o,σ[i]? =some (some (V.ref a))/\H' a=some o/\RepM K G' o ds/\G' a=none:=fun i w' ds e1 e2=>by
  obtain⟨k,w,w2,h1,h2,h3,h4⟩:=a5V ho e1;have hi:i<σ.length:=by have:=(Qy.mp h2).1;rw[←r.len];exact this
  cases k with
  |false=>
   simp only[a0w,Zf]at h4;subst h4;obtain⟨a,xs,q1,q2,q3,q4⟩:=r.own i w ds h2 e2;have no:¬ Owned (j1_ keep more σ) (w5_ keep more env) a:=by
    rintro⟨j,v,es,y1,y2,y3⟩;obtain⟨z1,z2⟩:=a2a y1 (a3x y2);have:=r.inj j i v w es ds a z2 y2 h2 e2 (a2F y3).2 q1;subst this;rw[h1]at z1;cases z1
   exact⟨w,ds,h2,e2,rfl,rfl,a,xs,q1,ev.keep a _ no q3.nt q2,q3.mono ev.same,ev.stay a (by rw[q2];simp) no q4⟩
  |true=>
   obtain⟨z,d0,z1,z2,z3⟩:=b4D h4 e2;subst z;refine⟨w,d0,h2,z1,z2,z3,?_⟩;obtain⟨a,xs,q1,q2,q3,q4⟩:=ev.rel.own i w2 ds h3 e2;obtain⟨a0,xs0,p1,_⟩:=r.own i w d0 h2 z1;rw[hσ i hi,a4D h1 p1]at q1;cases q1;exact⟨a,xs,p1,q2,q3,q4⟩
 refine⟨⟨ev.rel.sub,by rw[a9w ho];exact r.len,fun i d e=>?_,fun i w ds e1 e2=>?_,fun i j w w' ds es a q1 q2 q3 q4 q5 q6=>?_,fun i w a q1 qo q2=>?_,ev.rel.old,ev.rel.tabs,ev.rel.gnt⟩,ev.same,fun b o n t e=>ev.keep b o (fun z=>n (a5W z)) t e,ev.live,fun b e n g=>ev.stay b e (fun z=>n (a5W z)) g,fun a z=>.inl ?_,fun i w e hp=>⟨rfl,?_⟩,rfl⟩
 ·obtain⟨k,w,w2,h1,h2,h3,h4⟩:=a5V ho e
  have hi:i<σ.length:=by have:=(Qy.mp h2).1;rw[←r.len];exact this
  have old:w=.dat d->∃v,σ[i]? =some (some v)/\Rep K G' v d:=fun z=>by
   subst z;obtain⟨v,e1,e2⟩:=r.dat i d h2;exact⟨v,e1,Rep.mono ev.same d e2⟩
  cases k with
  |false=>simp only[a0w,Zf]at h4;exact old h4
  |true=>
   rcases b4E h4 with z|⟨z,d0,z0⟩
   ·exact old z
   ·subst z
    obtain⟨v,q1,q2⟩:=ev.rel.dat i d h3;obtain⟨a0,xs0,p1,_⟩:=r.own i _ d0 h2 z0;rw[hσ i hi,a4D h1 p1]at q1;cases q1;exact⟨_,p1,q2⟩
 ·obtain⟨w0,d0,_,_,_,_,q⟩:=mutO i w ds e1 e2
  exact q
 ·obtain⟨w0,d0,y1,y2,_⟩:=mutO i w ds q1 q2
  obtain⟨w1,d1,y3,y4,_⟩:=mutO j w' es q3 q4;exact r.inj i j w0 w1 d0 d1 a y1 y2 y3 y4 q5 q6
 ·obtain⟨m,hm⟩:=own_mut qo
  obtain⟨w0,d0,y1,_,y3,_⟩:=mutO i _ m q1 hm;exact r.fresh i w0 a y1 (y3.trans qo) q2
 ·obtain⟨i,w,ds,e1,e2,e3⟩:=z
  obtain⟨w0,d0,y1,y2,_⟩:=mutO i w ds e1 e2;exact⟨i,w0,d0,y1,y2,e3⟩
 ·obtain⟨m,hm⟩:=par_mut hp
  obtain⟨w0,d0,y1,_,_,y4,_⟩:=mutO i _ m e hm;exact⟨w0,y1,y4.trans hp⟩
theorem Ev.swapAt{p:Addr}{o:HO}(ev:Ev K B G σ env H G' σ' env' H')(no:¬ Owned σ env p)(hp:H p≠none)(gp:G p=none)(nt:NT o)(nx:∀φ,H' p≠some (.ext φ)):Ev K B G σ env (upd H p o) G' σ' env' (upd H' p o):=by
 have np:∀(i:Nat) (w:W) (ds:Mu) (a:Addr),env'[i]? =some w->w.mut=some ds->σ'[i]? =some (some (V.ref a))->a≠p:=fun i w ds a e1 e2 e3 z=>by
  rcases ev.sub a ⟨i,w,ds,e1,e2,e3⟩with q|q
  ·exact no (z ▸ q)
  ·exact hp (z ▸ q)
 have gp':G' p=none:=ev.stay p hp no gp
 have live':∀b,H' b≠none->(upd H' p o) b≠none:=fun b h=>by
  by_cases hb:b=p
  ·subst hb;rw[x3_];simp
  ·rw[v4_ hb];exact h
 refine⟨⟨fun b u e=>?_,ev.rel.len,ev.rel.dat,fun i w ds e1 e2=>?_,ev.rel.inj,ev.rel.fresh,fun b h=>live' b (ev.rel.old b h),ev.rel.tabs.upd nt nx,ev.rel.gnt⟩,ev.same,fun b u n t e=>?_,fun b e=>?_,fun b e n g=>?_,fun a z=>?_,ev.par,ev.slen⟩
 ·have hb:b≠p:=fun z=>by rw[z,gp']at e;cases e
  rw[v4_ hb];exact ev.rel.sub b u e
 ·obtain⟨a,xs,e3,e4,e5,e6⟩:=ev.rel.own i w ds e1 e2
  exact⟨a,xs,e3,by rw[v4_ (np i w ds a e1 e2 e3)];exact e4,e5,e6⟩
 ·by_cases hb:b=p
  ·subst hb;rw[x3_]at e ⊢;exact e
  ·rw[v4_ hb]at e ⊢;exact ev.keep b u n t e
 ·by_cases hb:b=p
  ·subst hb;rw[x3_];simp
  ·rw[v4_ hb]at e ⊢;exact ev.live b e
 ·by_cases hb:b=p
  ·subst hb;exact gp'
  ·rw[v4_ hb]at e;exact ev.stay b e n g
 ·obtain⟨i,w,ds,e1,e2,e3⟩:=id z
  rw[v4_ (np i w ds a e1 e2 e3)];exact ev.sub a z
end
def j2_(g:OZ)(t:Mo Bool)(m:Mo D):List D->Mo (List D)
 |[],env=>some ([],env)
 |d::ds,env=>(g d env).bind fun e1=>(t e1).bind fun p=>if p.1 then(m p.2).bind fun q=>(j2_ g t m ds q.2).map fun r=>(q.1::r.1,r.2)else j2_ g t m ds p.2
def y3_(mi:Mo (List D))(keep:List Bool)(more:Nat)(g:OZ)(t:Mo Bool)(m:Mo D):Mo (List D):=fun env=>(mi env).bind fun p=>if p.1.length≤100000 then
 (j2_ g t m p.1 (w5_ keep more p.2)).bind fun q=>(w6_ keep p.2 q.2).map fun e=>(q.1,e)else none
def y9_:Mo Bool:=fun env=>some (true,env)
theorem a0j{X:Cx}{B:OA}:a1b X [] (TTm X.K B y9_):=fun pins s σ H Q I h=>by
 obtain⟨G,env,b,env',rl,e,k⟩:=h;cases e;exact b4z pins s σ H Q I (k G H (.refl rl))
theorem a9x{X:Cx}{B:OA}{c:Expr}{t:Mo Bool}(h:ET X B c t):a1b X [c] (TTm X.K B t):=b4A h
theorem a9y{K:Qq}{B:OA}{mi:Mo (List D)}{keep:List Bool}{more n:Nat}{g:OZ}{t:Mo Bool}{m:Mo D}(hkl:keep.length=n):
  ∀(σ:St) H Q,σ.length=n->TL K B (y3_ mi keep more g t m) σ H Q->a5U (TIm K B mi) keep more (TGm K B n g) (TTm K B t) (TD K B m) σ H Q:=by
 rintro σ H Q hσn ⟨G,env,total,env',rl,e,k⟩;obtain⟨⟨items,env1⟩,e1,e2⟩:=q7_ e;dsimp only at e2;split at e2
 ·rename_i hlen
  obtain⟨⟨total',envF⟩,e3,e4⟩:=q7_ e2;obtain⟨env'',e5,e6⟩:=x4_ e4;cases e6;refine⟨G,env,items,env1,rl,e1,fun J G1 H1 ev1 itd p hp=>?_⟩
  have hk:keep.length=σ.length:=by rw[hkl,hσn]
  have gp:G1 p=none:=ev1.rel.gnone hp
  have no1:¬ Owned σ env1 p:=ev1.rel.unowned hp
  have no:¬ Owned (j1_ keep more σ) (w5_ keep more env1) p:=fun z=>no1 (a5W z)
  have relS:∀ys,Rel K B G1 σ env1 (upd H1 p (.lst ys)):=fun ys=>(ev1.rel.allocM hp).rel
  refine⟨fun i m' σ2 H2=>m'=items.length-i/\i≤items.length/\∃G2 env2 ys acc rest,Ev K B G1 (j1_ keep more σ) (w5_ keep more env1) (upd H1 p (.lst ys)) G2 σ2 env2 H2/\(∀j,j<n->σ2[j]? =(j1_ keep more σ)[j]?)/\
   z7_ K G2 ys acc/\j2_ g t m (items.drop i) env2=some (rest,envF)/\acc++rest=total'/\acc.length≤i,⟨_,rfl,Xw _,G1,_,[],[],total',.refl ((relS []).ext hk),fun _ _=>rfl,repL_nil,by simpa using e3,by simp,Qu _⟩,?_⟩
  rintro i m' σ2 H2 ⟨rfl,hi,G2,env2,ys,acc,rest,ev2,y2,r2,c2,t2,l2⟩;have hpS:(upd H1 p (.lst ys)) p=some (.lst ys):=x3_;have hp2:H2 p=some (.lst ys):=ev2.keep p _ no nt_lst hpS;have lH:Le G1 H2:=ev2.same.trans ev2.rel.sub
  by_cases hlt:i<items.length
  ·refine .inr ⟨itd.go i H2 lH hlt,fun x H3 y=>?_⟩
   have ed:items.drop i=items[i]::items.drop (i+1):=List.drop_eq_getElem_cons hlt
   rw[ed]at c2;obtain⟨env4,e7,e8⟩:=q7_ c2;obtain⟨⟨b,env5⟩,e9,e10⟩:=q7_ e8;have hget:items[i]? =some items[i]:=by simp[hlt]
   have st:∃G3,Ev K B G1 (j1_ keep more σ) (w5_ keep more env1) (upd H1 p (.lst ys)) G3 σ2 env2 H3/\Le G2 G3/\Rep K G3 x items[i]:=by
    rcases itd.yld i H2 x H3 items[i] lH y hget with⟨rfl,r⟩|⟨q,o,hno,hq,rfl,r⟩
    ·exact⟨G2,ev2,Le.refl,Rep.mono ev2.same _ r⟩
    ·have gq:=ev2.rel.gnone hq
     refine⟨upd G2 q o,ev2.trans (ev2.rel.alloc hq hno),Le.upd gq,Rep.mono (fun b u z=>?_) _ r⟩
     by_cases hb2:b=q
     ·subst hb2;rw[x3_]at z ⊢;exact z
     ·rw[v4_ hb2]at z ⊢;exact ev2.same b u z
   obtain⟨G3,ev3,l3,r3⟩:=st;refine⟨G3,env2,items[i],env4,ev3.rel,r3,e7,fun σ4 G4 H4 ev4 y4=>?_⟩
   refine⟨G4,env4,b,env5,ev4.rel,e9,fun G5 H5 ev5=>?_⟩
   have ev6:=(ev3.trans ev4).trans ev5
   have r5:z7_ K G5 ys acc:=z7_.mono ((l3.trans ev4.same).trans ev5.same) acc r2
   have y5:∀j,j<n->σ4[j]? =(j1_ keep more σ)[j]?:=fun j hj=>(y4 j hj).trans (y2 j hj)
   cases b with
   |true=>
    simp only[Zs]at e10 ⊢;obtain⟨⟨d7,env7⟩,e11,e12⟩:=q7_ e10;obtain⟨⟨rest8,env8⟩,e13,e14⟩:=x4_ e12;cases e14;refine .bind ev5.rel e11 fun v G7 H7 ev7 r7=>?_
    have ev8:=ev6.trans ev7
    have hp7:H7 p=some (.lst ys):=ev8.keep p _ no nt_lst hpS
    refine⟨ys,hp7,by rw[r2.length];exact Nat.lt_of_le_of_lt l2 (Qd hlt (Zn hlen (by decide))),items.length-(i+1),by omega,rfl,hlt,G7,env7,ys++[v],acc++[d7],rest8,?_,y5,(z7_.mono ev7.same acc r5).append (repL_cons r7 repL_nil),e13,by rw[Xz];exact t2,by rw[Ql];simp;omega⟩
    have:=ev8.swapAt (o:=.lst (ys++[v])) no (by rw[hpS];simp) gp nt_lst (fun φ z=>by rw[ev8.keep p _ no nt_lst hpS]at z;cases z)
    rwa [b1V]at this
   |false=>
    simp only[Zx,Yx]at e10 ⊢;exact⟨items.length-(i+1),by omega,rfl,hlt,G5,env5,ys,acc,rest,ev6,y5,r5,e10,t2,by omega⟩
  ·have ei:i=items.length:=by omega
   subst ei;rw[List.drop_length]at c2;cases c2;rw[Uw]at t2;subst t2;refine .inl ⟨itd.stop _ H2 lH (Qu _),?_⟩;have evO:=Ev.out (relS ys) hk ev2 (fun j hj=>y2 j (by omega)) e5
   have evA:=ev1.trans ((ev1.rel.allocM (o:=.lst ys) hp).trans evO)
   have hpn:H p=none:=by
    cases q:H p with
    |none=>rfl
    |some o=>exact absurd hp (ev1.live p (by rw[q];simp))
   refine k p ys G2 H2 evA hpn (fun z=>?_) hp2 (ev2.stay p (by rw[hpS];simp) no gp) r2
   rcases evO.sub p z with q|q
   ·exact no1 q
   ·rw[hpS]at q;cases q
 ·cases e2
section
variable{X:Cx}{B:OA}{N':List Str}{scope:Scope}{keep:List Bool}{more:Nat}{tg iter elt:Expr}{ifs:List Expr}{g:OZ}{t:Mo Bool}{m:Mo D}{mi:Mo (List D)}{pos:Pos}
theorem a0c(ok:CompOk X N' scope keep more)(hc:X.calm=true)(hi:EI X B tg iter mi)(hg:∀s H fp,EG (k7_ X N' scope s H fp) B X.N.length tg g)(ht:∀s H fp,a1b (k7_ X N' scope s H fp) ifs (TTm X.K B t))(he:∀s H fp,ED (k7_ X N' scope s H fp) B elt m)
  (hs:∀x,foldedSetIterable iter X.env x=pure x:=by intro _;rfl):EL X B (.ListComp elt [⟨tg,iter,ifs,0⟩] scope pos) (y3_ mi keep more g t m):=by
 intro pins s σ H Q I h;exact b4B ok hc hi hg ht he hs pins s σ H Q I (a9y ok.klen σ H Q I.len h)
theorem b4F{i:Nat}{y:Str}{py spos:Pos}(ok:CompOk X N' scope keep more)(hc:X.calm=true)(hN:X.N.Nodup)(hy:X.N[i]? =some y)(hyl:X.env.scope.names.lookup y=some .local)
  (hsw:swapsWith (.ListComp elt [⟨tg,iter,ifs,0⟩] scope pos) (some (.Name y py)) spos.line X.env=pure true)
  (hi:EI X B tg iter mi)(hg:∀s H fp,EG (k7_ X N' scope s H fp) B X.N.length tg g)(ht:∀s H fp,a1b (k7_ X N' scope s H fp) ifs (TTm X.K B t))(he:∀s H fp,ED (k7_ X N' scope s H fp) B elt m)
  (hs:∀x,foldedSetIterable iter X.env x=pure x:=by intro _;rfl):ES X B (.Assign [.Name y py] (.ListComp elt [⟨tg,iter,ifs,0⟩] scope pos) spos) (a0p i (y3_ mi keep more g t m)):=by
 intro pins s σ H D I h;obtain⟨G,env,fl,env',rl,e,k⟩:=h;obtain⟨⟨d,env1⟩,e1,e2⟩:=x4_ e;cases e2;exact b4C ok hc hN hy hyl hsw hi hg ht he hs pins s σ H D I (a9y ok.klen σ H _ I.len ⟨G,env,d,_,rl,e1,fun a xs G' H' ev ha no h' g' r=>k _ G' H' (ev.setOwn (fun z=>rl.old a z ha) ha no h' g' r)⟩)
end
section
variable{X:Cx}{B:OA}{pos:Pos}{a b c e:Expr}{ma mb mc:Mo D}{ms:Mo (List D)}{es:List Expr}
def tyD:D->String
 |.non=>"NoneType"|.bl _=>"bool"|.int _=>"int"|.str _=>"str"|.tup _=>"tuple"|.lst _=>"list"|.emp=>"dict"|.obj _=>"object"|.dct _ _=>"dict"
def u3_(K:Qq)(T:String):Prop:=T∈(["tuple","list","int","bool","str"]:List String)
def a2G(t T:String):Bool:=t==T||(t=="bool"&&T=="int")
theorem b4G{K:Qq}{T:String}(h:u3_ K T):∀d,(∀o,d≠.obj o)->PySem.W.kitOne K (.type (tyD d)) (.type T)=some (a2G (tyD d) T):=by
 intro d hd;unfold u3_ at h;simp only[Qr,Zr,Jl]at h
 rcases h with rfl|rfl|rfl|rfl|rfl<;>cases d<;>first|rfl|exact absurd rfl (hd _)
theorem b4H{pins:OX}{σ:St}{G H:Hp}{s:Shared}{A:Around}{E:OE}{Q:OE}{T:String}{x:V}{u:Value}{d:D}(I:Inv X pins σ H s)(l:Le G H)(rx:v2_ x u)(rp:Rep X.K G x d)
  (kt:u3_ X.K T)(h:∀tk,Q (.bool (a2G (tyD d) T)) {s with toks:=tk}):wpAny (model X.prog X.w) A (call (.builtin "isinstance") [u,.type T]) Q E s:=by
 have e:=b4G kt d
 cases d with
 |non=>simp only[Rep]at rp;subst rp;exact a2u I rx (.non) (e nofun) h
 |bl b=>simp only[Rep]at rp;subst rp;exact a2u I rx (.bl b) (e nofun) h
 |int i=>simp only[Rep]at rp;subst rp;exact a2u I rx (.int i) (e nofun) h
 |str z=>simp only[Rep]at rp;obtain⟨rp,_⟩:=rp;subst rp;exact a2u I rx (.str z) (e nofun) h
 |tup ds=>
  simp only[Rep]at rp;obtain⟨a,xs,rfl,q,_⟩:=rp;cases rx;obtain⟨its,_,⟨o,h1,h2,_⟩,_⟩:=I.tuple (l.sqT q);exact Qe PySem.W.kitx_tuple I.kIn ⟨o,h1,h2⟩ (e nofun) (fun z=>nomatch z) h
 |lst ds=>
  simp only[Rep]at rp;obtain⟨a,xs,rfl,q,_⟩:=rp;cases rx;obtain⟨its,_,⟨o,n,h1,h2,_⟩,_⟩:=I.list (l.sqL q);exact Qe Vo I.kIn ⟨o,h1,h2⟩ (e nofun) (fun z=>nomatch z) h
 |emp=>
  simp only[Rep]at rp;obtain⟨a,kvs,rfl,q⟩:=rp;exact a2u I rx (.dK (l _ _ q)) (e nofun) h
 |dct ks vs=>
  simp only[Rep]at rp;obtain⟨a,kvs,rfl,q,_⟩:=rp;exact a2u I rx (.dT (l _ _ q)) (e nofun) h
 |obj o=>
  have h0:a2G "object" T=false:=by
   unfold u3_ at kt;simp only[Qr,Zr,Jl]at kt
   rcases kt with rfl|rfl|rfl|rfl|rfl<;>rfl
  have h':∀tk,Q (.bool false) {s with toks:=tk}:=fun tk=>by have:=h tk;rwa [show a2G (tyD (.obj o)) T=false from h0]at this
  simp only[Rep]at rp;cases o with
  |exc n=>
   obtain⟨a,C,HP,rfl,_,h3,h4,h5⟩:=rp;cases rx;exact Qe h4 I.kIn (I.hok a _ (l _ _ h3)).1 (h5 T kt) (fun z=>nomatch z) h'
  |fn n=>
   obtain⟨f,rfl,_,h4⟩:=rp;cases rx;refine Qe h4 I.kIn True.intro ?_ (fun z=>nomatch z) h'
   unfold u3_ at kt;simp only[Qr,Zr,Jl]at kt
   rcases kt with rfl|rfl|rfl|rfl|rfl<;>rfl
  |dk kvs=>
   obtain⟨a,rfl,q⟩:=rp;obtain⟨_,_,vs,_,dd⟩:=(show k0_ X.prog X.w H s.heap a (.dK _)from I.hok a _ (l _ _ q))
   obtain⟨o,h1,h2⟩:∃o,s.heap.get? a=some o/\o.cls=.type "dict":=by
    obtain⟨o,es,ep,g1,g2,_⟩:=dd;exact⟨o,g1,g2.1⟩
   cases rx;refine Qe Ut I.kIn ⟨o,h1,h2⟩ ?_ (fun z=>nomatch z) h'
   unfold u3_ at kt;simp only[Qr,Zr,Jl]at kt
   rcases kt with rfl|rfl|rfl|rfl|rfl<;>rfl
  |dt kvs=>
   obtain⟨a,ps,rfl,q,_⟩:=rp;obtain⟨_,_,vs,_,dd⟩:=(show k0_ X.prog X.w H s.heap a (.dK _)from I.hok a _ (l _ _ q))
   obtain⟨o,h1,h2⟩:∃o,s.heap.get? a=some o/\o.cls=.type "dict":=by
    obtain⟨o,es,ep,g1,g2,_⟩:=dd;exact⟨o,g1,g2.1⟩
   cases rx;refine Qe Ut I.kIn ⟨o,h1,h2⟩ ?_ (fun z=>nomatch z) h'
   unfold u3_ at kt;simp only[Qr,Zr,Jl]at kt
   rcases kt with rfl|rfl|rfl|rfl|rfl<;>rfl
theorem a3y{K:Qq}:u3_ K "tuple":=by simp[u3_]
theorem b4I{K:Qq}:u3_ K "int":=by simp[u3_]
theorem b4J{K:Qq}:u3_ K "bool":=by simp[u3_]
theorem b4K{K:Qq}:u3_ K "str":=by simp[u3_]
def mIs(T:String)(m:Mo D):Mo D:=fun env=>(m env).map fun p=>(.bl (a2G (tyD p.1) T),p.2)
theorem a1t{T:String}{y:Str}{p p2:Pos}(kt:u3_ X.K T)(ha:ED X B a ma)(hg:Gl X "isinstance")(hm:X.mg "isinstance"=none)(hgT:Gl X y)(hmT:X.mg y=none)(hvT:bootBuiltins y=some (.type T))
  (hnT:y≠"__name__":=by decide)(hdT:(y==("__debug__":Str))=false:=by decide)
  (he:starEach [a,.Name y p2] X.env=[(false,eval a X.env),(false,eval (.Name y p2) X.env)]:=by rfl):ED X B (.Call (.Name "isinstance" p) [a,.Name y p2] [] pos) (mIs T ma):=by
 have hT:PE X (.Name y p2) (tC (.ty T)):=b2e hgT hmT hvT rfl hnT hdT
 have hc:a0t X (.builtin "isinstance") (fun xs H Q=>∃x G d,xs=[x,.ty T]/\Le G H/\Rep X.K G x d/\Q (.bl (a2G (tyD d) T)) H):=by
  intro pins s σ H xs us Q I r h;obtain⟨x,G,d,rfl,l,rp,q⟩:=h;obtain⟨u,w',rfl,r1,r2⟩:=a4i r;cases r2;exact b4H I l r1 rp kt fun tk=>⟨.bl _,H,I.tok _,rfl,q⟩
 have h1:starEach [Expr.Name y p2] X.env=[(false,eval (.Name y p2) X.env)]:=rfl
 refine pe_imp (a5v (pos:=pos) (p:=p) hc hg hm (by decide+kernel) (a2v ha (a2v hT a4j) he) (he:=he)) ?_
 rintro σ H Q ⟨G,env,d,env',rl,e,k⟩;obtain⟨⟨d1,env1⟩,e1,e2⟩:=x4_ e;cases e2;exact .bind rl e1 fun v G1 H1 ev r=>⟨v,G1,d1,rfl,ev.rel.sub,r,k _ G1 H1 ev (by simp only[Rep])⟩
def a0F:List D->Option Bool
 |[]=>some true
 |.bl b::r=>(a0F r).map fun k=>b&&k
 |_::_=>none
def a2H:List D->Option D
 |[.lst ds]=>(a0F ds).map fun k=>.bl k
 |_=>none
theorem a9z{K:Qq}{G:Hp}:∀{ds:List D}{xs:List V}{us:List Value}{k:Bool},z7_ K G xs ds->q5_ xs us->a0F ds=some k->∃bs,LSm.BoolsAre us bs/\bs.all id=k
 |[],_,us,k,r,v,e=>by
  simp only[z7_]at r;subst r;cases v;cases e;exact⟨[],.nil,rfl⟩
 |d::ds,_,us,k,r,v,e=>by
  simp only[z7_]at r;obtain⟨x,t,rfl,q,r⟩:=r;cases d<;>first|(exact absurd (show(none:Option Bool)=some k from e) (by simp))|skip
  obtain⟨k',e1,e2⟩:=x4_ (show(a0F ds).map _=some k from e)
  simp only[Rep]at q;subst q;cases v with
  |cons v1 v2=>
   cases v1;obtain⟨bs,h1,h2⟩:=a9z r v2 e1;exact⟨_::bs,.cons _ h1,by rw[←e2,←h2];rfl⟩
theorem a5X(hc:X.calm=true):a0t X (.builtin "all") (fun xs H Q=>∃p G ys ds k,xs=[.ref p]/\Le G H/\SqL X.K G p ys/\z7_ X.K G ys ds/\a0F ds=some k/\Q (.bl k) H):=by
 intro pins s σ H xs us Q I r h;obtain⟨p,G,ys,ds,k,rfl,l,hq,rp,ek,q⟩:=h;obtain⟨u,rfl,rx⟩:=a3j r;cases rx;obtain⟨its,r',pl,hz⟩:=I.list (l.sqL hq);obtain⟨bs,hb,hk⟩:=a9z rp r' ek;have hh:X.A.handled=none:=I.ok.hd hc;have hl:=pl.isList;have hlt:p<s.heap.objs.size:=by obtain⟨_,e,_⟩:=hl;exact Qh e
 refine call_all_walk (Ua hl ?_);refine⟨s.heap.objs.size,[s.heap.objs.size,p],[s.heap.objs.size],its.toArray.size,_,_,fun i=>(bs[i]?).getD true,rfl,Walks.list (A:=X.A.in1) hh _ p (Zj hlt) its.toArray,
  ⟨⟨_,Qg _ rfl,rfl,rfl⟩,hl.push _⟩,fun i v s' Q' E' hP hQ=>?_,fun h' tk hk'=>?_⟩
 ·obtain⟨b,e,rfl⟩:=hb.get i v (by simpa using hP)
  simp only[e,Option.getD_some]at hQ;exact Yz hQ
 ·have e:((List.range its.toArray.size).all fun i=>(bs[i]?).getD true)=bs.all id:=by
   rw[Qn,hb.length];exact LSm.range_all bs
  rw[e,hk];exact⟨.bl k,H,I.kept (t':=tk) (LSm.kept_iter hk'),rfl,q⟩
theorem a5Y:a0Y X B (fun xs H Q=>∃p G ys ds k,xs=[.ref p]/\Le G H/\SqL X.K G p ys/\z7_ X.K G ys ds/\a0F ds=some k/\Q (.bl k) H) a2H:=by
 intro G σ env H xs ds c Q rl r e k;unfold a2H at e;split at e
 ·rename_i ds
  obtain⟨x,rfl,q⟩:=a1n r;obtain⟨k',e1,e2⟩:=x4_ e;subst e2;simp only[Rep]at q;obtain⟨a,ys,rfl,h1,h2⟩:=q;exact⟨a,G,ys,ds,k',rfl,rl.sub,h1,h2,e1,k _ G H (.refl rl) (by simp only[Rep])⟩
 ·cases e
def a2I:List D->Option D
 |[.int i,.int j]=>some (.int (if j>i then j else i))
 |_=>none
def a2J:List D->Option D
 |[.int i,.int j]=>some (.int (if j<i then j else i))
 |_=>none
theorem b4L:a0Y X B (fun xs H Q=>∃i j,xs=[.int i,.int j]/\Q (.int (if j>i then j else i)) H) a2I:=by
 intro G σ env H xs ds c Q rl r e k;unfold a2I at e;split at e
 ·rename_i i j
  cases e;obtain⟨x,y,rfl,q1,q2⟩:=a4u r;simp only[Rep]at q1 q2;subst q1 q2;exact⟨i,j,rfl,k _ G H (.refl rl) (by simp only[Rep])⟩
 ·cases e
theorem b4M:a0Y X B (fun xs H Q=>∃i j,xs=[.int i,.int j]/\Q (.int (if j<i then j else i)) H) a2J:=by
 intro G σ env H xs ds c Q rl r e k;unfold a2J at e;split at e
 ·rename_i i j
  cases e;obtain⟨x,y,rfl,q1,q2⟩:=a4u r;simp only[Rep]at q1 q2;subst q1 q2;exact⟨i,j,rfl,k _ G H (.refl rl) (by simp only[Rep])⟩
 ·cases e
def dIsB:D->D->Option D
 |.bl a,.bl b=>some (.bl (a==b))
 |_,_=>none
def a3z:D->D->Option D
 |.bl a,.bl b=>some (.bl (a !=b))
 |_,_=>none
def a9A(f:Bool->Bool->Bool):R2:=fun x y H Q=>∃i j,x=.bl i/\y=.bl j/\Q (.bl (f i j)) H
theorem a9B:OpR X (compareOp .IsNot) (a9A fun a b=>a !=b):=by
 intro pins s σ H x y v u Q I rx ry h;obtain⟨i,j,rfl,rfl,q⟩:=h;cases rx;cases ry;exact isnot_bool ⟨.bl _,H,I,rfl,q⟩
theorem a9C:OpD X B (a9A fun a b=>a !=b) a3z:=by
 intro G σ env H x y a b d Q rl ra rb e k;cases a<;>cases b<;>first|(exact absurd (show(none:Option D)=some d from e) (by simp))|skip
 simp only[Rep]at ra rb;subst ra rb;cases e;exact⟨_,_,rfl,rfl,k _ G H (.refl rl) (by simp only[Rep])⟩
def ints?:List D->Option (List Int)
 |[]=>some []
 |.int i::r=>(ints? r).map fun l=>i::l
 |_::_=>none
theorem a2K{K:Qq}{G:Hp}:∀{ds:List D}{xs:List V}{ns:List Int},z7_ K G xs ds->ints? ds=some ns->xs=ns.map V.int
 |[],_,ns,r,e=>by simp only[z7_]at r;subst r;cases e;rfl
 |d::ds,_,ns,r,e=>by
  simp only[z7_]at r;obtain⟨x,t,rfl,q,r⟩:=r;cases d<;>first|(exact absurd (show(none:Option (List Int))=some ns from e) (by simp))|skip
  obtain⟨l,e1,e2⟩:=x4_ (show(ints? ds).map _=some ns from e)
  subst e2;simp only[Rep]at q;subst q;rw[a2K r e1];rfl
def dIn(neg:Bool):D->D->Option D
 |.int i,d=>d.items.bind fun ds=>(ints? ds).map fun ns=>.bl (if neg then !ns.contains i else ns.contains i)
 |_,_=>none
theorem b4N(ns:List Int):(ns.map V.int).all a0K=true:=by
 induction ns with
 |nil=>rfl
 |cons n ns ih=>simp[a0K,ih]
theorem b4O(i:Int)(ns:List Int):inV (.int i) (ns.map V.int)=ns.contains i:=by
 unfold inV
 induction ns with
 |nil=>rfl
 |cons n ns ih=>
  rw[Qm,Vi,ih,Zd]
  congr 1
  show(n==i)=(i==n);exact Bool.beq_comm ..
theorem b4P{neg:Bool}:OpD X B (rIn X.K neg) (dIn neg):=by
 intro G σ env H x y a b d Q rl ra rb e k;cases a<;>first|(exact absurd (show(none:Option D)=some d from e) (by simp))|skip
 rename_i i;obtain⟨ds,e1,e2⟩:=q7_ (show b.items.bind _=some d from e)
 obtain⟨ns,e3,e4⟩:=x4_ e2;subst e4;simp only[Rep]at ra;subst ra;obtain⟨p,xs,rfl,h1,h2⟩:=a9f rl.sub rb e1;have hx:=a2K h2 e3;subst hx;exact⟨p,_,rfl,h1,rfl,b4N ns,k _ G H (.refl rl) (by rw[b4O];simp only[Rep])⟩
end
section
variable{X:Cx}{pins:OX}{σ:St}{G H:Hp}{s:Shared}
end
mutual
def toP:D->PyData
 |.non=>.none
 |.bl b=>.bool b
 |.int i=>.int i
 |.str x=>.str x
 |.tup ds=>.tuple (y7_ ds)
 |.lst ds=>.list (y7_ ds)
 |.emp=>.dict []
 |.obj _=>.dict []
 |.dct _ _=>.dict []
def y7_:List D->List PyData
 |[]=>[]
 |d::ds=>toP d::y7_ ds
end
def shp(d:D):Bool:=SeqAt.shaped (toP d)
section
variable{X:Cx}{B:OA}{pins:OX}{σ:St}{G H:Hp}{s:Shared}
mutual
theorem reads_of(I:Inv X pins σ H s)(l:Le G H):∀(d:D) (x:V) (u:Value),(toP d).canLay0=true->v2_ x u->Rep X.K G x d->∃as,Reads s.heap u (toP d) as
 |.non,x,u,c,r,p=>by simp only[Rep]at p;subst p;cases r;exact⟨_,.none⟩
 |.bl b,x,u,c,r,p=>by simp only[Rep]at p;subst p;cases r;exact⟨_,.bool b⟩
 |.int i,x,u,c,r,p=>by simp only[Rep]at p;subst p;obtain⟨t,rfl⟩:=r;exact⟨_,.int i t⟩
 |.str z,x,u,c,r,p=>by simp only[Rep]at p;obtain⟨p,_⟩:=p;subst p;obtain⟨t,rfl⟩:=r;exact⟨_,.str z t⟩
 |.tup ds,x,u,c,r,p=>by
  simp only[Rep]at p;obtain⟨a,xs,rfl,q,rp⟩:=p;cases r;obtain⟨its,rv,⟨o,h1,h2,n,h3⟩,_⟩:=I.tuple (l.sqT q);have hc:PyData.canLayAll0 (y7_ ds)=true:=by simpa [toP,PyData.canLay0]using c
  obtain⟨as,h⟩:=readsAll_of I l ds xs its hc rv rp;exact⟨_,.tuple h1 h2 h3 (by simpa using h)⟩
 |.lst ds,x,u,c,r,p=>by
  simp only[Rep]at p;obtain⟨a,xs,rfl,q,rp⟩:=p;cases r;obtain⟨its,rv,⟨o,n,h1,h2,_,h3⟩,_⟩:=I.list (l.sqL q);have hc:PyData.canLayAll0 (y7_ ds)=true:=by simpa [toP,PyData.canLay0]using c
  obtain⟨as,h⟩:=readsAll_of I l ds xs its hc rv rp;exact⟨_,.list h1 h2 h3 (by simpa using h)⟩
 |.emp,x,u,c,r,p=>by simp[toP,PyData.canLay0]at c
 |.obj _,x,u,c,r,p=>by simp[toP,PyData.canLay0]at c
 |.dct _ _,x,u,c,r,p=>by simp[toP,PyData.canLay0]at c
theorem readsAll_of(I:Inv X pins σ H s)(l:Le G H):∀(ds:List D) (xs:List V) (us:List Value),PyData.canLayAll0 (y7_ ds)=true->q5_ xs us->z7_ X.K G xs ds->∃as,ReadsAll s.heap us (y7_ ds) as
 |[],xs,us,c,v,p=>by simp only[z7_]at p;subst p;cases v;exact⟨_,.nil⟩
 |d::ds,xs,us,c,v,p=>by
  simp only[z7_]at p;obtain⟨x,r,rfl,q,t⟩:=p;have hc:(toP d).canLay0=true/\PyData.canLayAll0 (y7_ ds)=true:=by simpa [y7_,PyData.canLayAll0]using c
  cases v with
  |cons v1 v2=>
   obtain⟨as,h1⟩:=reads_of I l d x _ hc.1 v1 q;obtain⟨bs,h2⟩:=readsAll_of I l ds r _ hc.2 v2 t;exact⟨_,.cons h1 h2⟩
end
def rEqD(K:Qq)(neg:Bool):R2:=fun x y H Q=>∃G a b,Le G H/\Rep K G x a/\Rep K G y b/\shp a=true/\shp b=true/\Q (.bl (if neg then !PyData.eqv (toP a) (toP b)else PyData.eqv (toP a) (toP b))) H
theorem op_eqD(hu:X.A.units+64<cLine):OpR X (compareOp .Eq) (rEqD X.K false):=by
 intro pins s σ H x y v u Q I rx ry h;obtain⟨G,a,b,l,ra,rb,ha,hb,q⟩:=h;obtain⟨as,h1⟩:=reads_of I l a x v (Jd ha) rx ra;obtain⟨bs,h2⟩:=reads_of I l b y u (Jd hb) ry rb;exact eq_dataH h1 h2 ha hb hu ⟨.bl _,H,I,rfl,q⟩
theorem op_neD(hu:X.A.units+64<cLine):OpR X (compareOp .NotEq) (rEqD X.K true):=by
 intro pins s σ H x y v u Q I rx ry h;obtain⟨G,a,b,l,ra,rb,ha,hb,q⟩:=h;obtain⟨as,h1⟩:=reads_of I l a x v (Jd ha) rx ra;obtain⟨bs,h2⟩:=reads_of I l b y u (Jd hb) ry rb;exact ne_dataH h1 h2 ha hb hu ⟨.bl _,H,I,rfl,q⟩
def dEq(neg:Bool):D->D->Option D:=fun a b=>if shp a&&shp b then some (.bl (if neg then !PyData.eqv (toP a) (toP b)else PyData.eqv (toP a) (toP b)))else none
theorem opd_eq{neg:Bool}:OpD X B (rEqD X.K neg) (dEq neg):=by
 intro G σ env H x y a b d Q rl ra rb e k;unfold dEq at e;split at e
 ·rename_i h
  rw[Qp]at h;cases e;exact⟨G,a,b,rl.sub,ra,rb,h.1,h.2,k _ G H (.refl rl) (by simp only[Rep])⟩
 ·cases e
end
section
variable{X:Cx}{B:OA}
def rCatT'(K:Qq):R2:=fun x y H Q=>∃a b xs ys,x=.ref a/\y=.ref b/\SqT K H a xs/\SqT K H b ys/\xs.length+ys.length≤sizeLine/\
 (xs=[]->Q (.ref b) H)/\(ys=[]->Q (.ref a) H)/\(∀p,H p=none->Q (.ref p) (upd H p (.tup (xs++ys))))
theorem op_catT':OpR X (binaryOp .Add) (rCatT' X.K):=by
 intro pins s σ H x y v u Q I rx ry h;obtain⟨a,b,xs,ys,rfl,rfl,ha,hb,hz,q0,q1,q2⟩:=h;cases rx;cases ry;obtain⟨vs,r1,p1,_⟩:=I.tuple ha;obtain⟨ws,r2,p2,_⟩:=I.tuple hb;have hsz:vs.length+ws.length≤sizeLine:=by rw[←r1.length,←r2.length];exact hz
 obtain⟨⟨cls,dd,data,sl⟩,ho,hc,n,hd⟩:=id p1;obtain⟨⟨cls2,dd2,data2,sl2⟩,ho2,hc2,n2,hd2⟩:=id p2;simp only at hc hd hc2 hd2;subst hc hd hc2 hd2;have e:vs.toArray++ws.toArray=(vs++ws).toArray:=by simp
 by_cases hv:vs=[]
 ·exact concat_meets ⟨_,ho,rfl⟩ ⟨_,ho2,rfl⟩ noFill_tuple_add seq_tuple_add Uo Us (Um _ _)
   (tuple_addW0 a b vs.toArray ws.toArray n n2 dd dd2 sl sl2 (by simp[hv])) ⟨ho,ho2,⟨.ref b,H,I,rfl,q0 (r1.nil_iff.mp hv)⟩⟩
 ·by_cases hw:ws=[]
  ·exact concat_meets ⟨_,ho,rfl⟩ ⟨_,ho2,rfl⟩ noFill_tuple_add seq_tuple_add Uo Us (Um _ _)
    (tuple_addW1 a b vs.toArray ws.toArray n n2 dd dd2 sl sl2 (by simpa using hv) (by simp[hw])) ⟨ho,ho2,⟨.ref a,H,I,rfl,q1 (r2.nil_iff.mp hw)⟩⟩
  ·refine concat_meets ⟨_,ho,rfl⟩ ⟨_,ho2,rfl⟩ noFill_tuple_add seq_tuple_add Uo Us (Um _ _)
    (tuple_addW2 a b vs.toArray ws.toArray n n2 dd dd2 sl sl2 (by simpa using hv) (by simpa using hw) (by rw[Qn,Qn];exact hsz)) ⟨ho,ho2,?_⟩
   rw[e];refine⟨.ref s.heap.objs.size,_,I.laid (t':=s.toks) (o:=.tup (xs++ys)) (fun b ob q=>Qx _ q) (Qu _) ?_,rfl,q2 _ (I.hok.fresh (Qu _))⟩
   exact⟨by rw[Ql];exact hz,_,r1.append r2,a0l.new _ _⟩
end
end L2.Mir
namespace L2.Mir
open PySem PySem.Spec PyProof.Rows PySem.Builtin
open AutoSeq1 (wpAny_loadPart')
theorem b4Q:fillsNumberSlot (.type "tuple") "mul"=pure false:=
 PySem.fillsNumberSlot_seq (id:="tuple.__mul__") (r:=some (.builtin "tuple.__rmul__")) Vj.lookup (by decide+kernel) F.slot_tuple_rmul.lookup (by decide+kernel)
theorem b4R:seqRepeat? (.type "tuple")=pure (some (.builtin "tuple.__mul__")):=by
 unfold seqRepeat?;rw[PySem.seqSlot_of (T:="tuple") (name:="__mul__") (id:="tuple.__mul__") Vj.lookup (by decide+kernel),PySem.seqSlot_of (T:="tuple") (name:="__rmul__") (id:="tuple.__rmul__") F.slot_tuple_rmul.lookup (by decide+kernel)]
 rfl
theorem b4S(a:Int)(t:Tok)(l:Addr)(items:Array Value)(n:Nat)(dd:Option Addr)(sl:Array (Option Value)):
  Meets (Builtin.«int.__rmul__» ⟨[.int a t,.ref l],[]⟩) (fun _ R s=>s.heap.get? l=some {cls:=.type "tuple",dict:=dd,data:=.seq items n,slots:=sl}/\R (.ok (.ret Value.notImplemented)) s):=
 .of_wp fun prog w A R s h=>by obtain⟨hp,g,d,tk,os⟩:=s;obtain⟨hl,h⟩:=h;wp_walk;exact⟨_,rfl,h⟩
theorem b4T(l:Addr)(items:Array Value)(n:Nat)(dd:Option Addr)(sl:Array (Option Value))(x:Int)(u:Tok)(hx:x=1):
  Meets (Builtin.«tuple.__mul__» ⟨[.ref l,.int x u],[]⟩) (fun _ R s=>s.heap.get? l=some {cls:=.type "tuple",dict:=dd,data:=.seq items n,slots:=sl}/\R (.ok (.ret (.ref l))) s):=
 .of_wp fun prog w A R s h=>by
  obtain⟨hp,g,d,tk,os⟩:=s;obtain⟨hl,h⟩:=h;subst hx;have f1:=AutoSeq1.idx_int
  wp_walk using Yl hl
  exact⟨_,rfl,h⟩
theorem b4U(l:Addr)(its:List Value)(n:Nat)(dd:Option Addr)(sl:Array (Option Value))(x:Int)(u:Tok)(hi:its≠[])(h1:2≤x)(h2:x<2^63)(hz:its.length * x.toNat≤sizeLine):
  Meets (Builtin.«tuple.__mul__» ⟨[.ref l,.int x u],[]⟩) (fun _ R s=>s.heap.get? l=some {cls:=.type "tuple",dict:=dd,data:=.seq its.toArray n,slots:=sl}/\R (.ok (.ret (.ref s.heap.objs.size))) {s with heap:=s.heap.push {cls:=Value.type "tuple",data:=Data.seq (List.replicate x.toNat its).flatten.toArray}}):=
 .of_wp fun prog w A R s h=>by
  obtain⟨hp,g,d,tk,os⟩:=s;obtain⟨hl,h⟩:=h;have f1:=AutoSeq1.idx_int;have hi':its.toArray.isEmpty=false:=by simpa using hi
  have hb:¬ ((decide (x< -(2^63))||decide (x ≥ 2^63))=true):=by simp;omega
  have hc:¬ ((its.toArray.isEmpty||x==1)=true):=by rw[hi'];simp;omega
  have hd:¬ ((decide (x≤0)||its.toArray.isEmpty)=true):=by rw[hi'];simp;omega
  have e1:(its.toArray.size:Int) * x=((its.length * x.toNat:Nat):Int):=by rw[Qn,Int.natCast_mul,Int.toNat_of_nonneg (by omega)]
  have he:¬ ((its.toArray.size:Int) * x>(2^63-1)/8):=by
   have e2:(sizeLine:Nat)≤(2^63-1)/8:=by decide
   rw[e1];omega
  have hf:¬ (Tuple.tupleTooMany ((its.toArray.size:Int) * x)=true):=by
   rw[e1];intro z;have z':=of_decide_eq_true z
   omega
  have hnew:List.foldl (fun x1 x2=>x1++x2) #[] (List.replicate x.toNat its.toArray)=(List.replicate x.toNat its).flatten.toArray:=by
   have:=a8Q its x.toNat [];rw[List.nil_append]at this;exact this
  have hsz:sizeOk (.seq (List.replicate x.toNat its).flatten.toArray):=by
   show(List.replicate x.toNat its).flatten.toArray.size≤sizeLine;rw[Qn,a8S,Nat.mul_comm];exact hz
  wp_walk using Yl hl
  refine Jh (Zz hb) ?_
  wp_walk using Yl hl
  refine Jh (Zz hc) ?_
  wp_walk using Yl hl
  refine Jh (Zz hd) ?_
  wp_walk using Yl hl
  refine Jh (Zz he) ?_
  wp_walk using Yl hl
  refine Jh (Zz hf) ?_
  rw[hnew]
  wp_walk using Yl hl
  refine Jh (Zz (Nat.not_lt.mpr hsz)) ?_
  wp_walk using Yl hl
  exact⟨_,rfl,h⟩
section
variable{X:Cx}{B:OA}
def a4E(K:Qq):R2:=fun x y H Q=>∃a k xs,x=.ref a/\y=.int k/\SqT K H a xs/\xs≠[]/\1≤k/\k<2^63/\xs.length * k.toNat≤sizeLine/\
 (k=1->Q (.ref a) H)/\∀p,H p=none->Q (.ref p) (upd H p (.tup (List.replicate k.toNat xs).flatten))
theorem b4V:OpR X (binaryOp .Mult) (a4E X.K):=by
 intro pins s σ H x y v u Q I rx ry h;obtain⟨a,k,xs,rfl,rfl,ha,hne,h1,h2,hz,q1,q2⟩:=h;cases rx;obtain⟨t,rfl⟩:=ry;obtain⟨its,r,⟨⟨cls,dd,data,sl⟩,ho,hc,n,hd⟩,hzz⟩:=I.tuple ha;simp only at hc hd;subst hc hd;refine wpAny_binaryOp_repeat_ref (T:="tuple") (U:="int") (by decide) ⟨_,ho,rfl⟩ (fun s'=>typeIs_int s' k t) b4Q F.fills_int_mul F.slot_int_rmul b4R F.slot_int_index.lookup
  (call_meets F.slot_int_rmul (typeIs_int s k t) F.entry_int_rmul (F.args_int_rmul_2 _ _) (b4S k t a its.toArray n dd sl)
   ⟨ho,rfl,⟨_,ho,rfl⟩,?_⟩)
 by_cases hk:k=1
 ·exact call_meets Vj ⟨_,ho,rfl⟩ F.entry_tuple_mul (F.args_tuple_mul_2 _ _) (b4T a its.toArray n dd sl k t hk) ⟨ho,⟨.ref a,H,I,rfl,q1 hk⟩⟩
 ·refine call_meets Vj ⟨_,ho,rfl⟩ F.entry_tuple_mul (F.args_tuple_mul_2 _ _) (b4U a its n dd sl k t (fun z=>hne (r.nil_iff.mp z)) (by omega) h2 (by rw[←r.length];exact hz)) ⟨ho,?_⟩
  refine⟨.ref s.heap.objs.size,_,I.laid (t':=s.toks) (o:=.tup (List.replicate k.toNat xs).flatten) (fun b ob q=>Qx _ q) (Qu _) ?_,rfl,q2 _ (I.hok.fresh (Qu _))⟩
  exact⟨by rw[a8S,Nat.mul_comm];exact hz,_,r.rep k.toNat,a0l.new _ _⟩
end
section
variable{X:Cx}{B:OA}{pos:Pos}{a b:Expr}{ma mb:Mo D}
def a5Z:D->D->Option D
 |.tup xs,.tup ys=>if xs.length+ys.length≤10000 then some (.tup (xs++ys))else none
 |_,_=>none
theorem a9D{n:Nat}(h:n≤10000):n≤sizeLine:=Zn h (by decide)
theorem b4W:OpD X B (rCatT' X.K) a5Z:=by
 intro G σ env H x y a b d Q rl ra rb e k;cases a<;>cases b<;>first|(exact absurd (show(none:Option D)=some d from e) (by simp))|skip
 rename_i ds es;simp only[a5Z]at e;split at e
 ·rename_i hl
  cases e;have ra0:=ra;have rb0:=rb;simp only[Rep]at ra rb;obtain⟨p,xs,rfl,q1,r1⟩:=ra;obtain⟨p',ys,rfl,q2,r2⟩:=rb;refine⟨p,p',xs,ys,rfl,rfl,rl.sub.sqT q1,rl.sub.sqT q2,by rw[r1.length,r2.length];exact a9D hl,fun z=>?_,fun z=>?_,fun l hp=>?_⟩
  ·subst z
   have:ds=[]:=List.length_eq_zero_iff.mp r1.length.symm;subst this;exact k _ G H (.refl rl) rb0
  ·subst z
   have:es=[]:=List.length_eq_zero_iff.mp r2.length.symm;subst this;exact k _ G H (.refl rl) (by rw[Uw];exact ra0)
  ·exact k _ _ _ (rl.alloc hp) (a1Q x3_ (z7_.mono (Le.upd (rl.gnone hp)) _ (r1.append r2)))
 ·cases e
def a6a:D->D->Option D
 |.tup [d],.int k=>if 1≤k/\k≤1000 then some (.tup (List.replicate k.toNat d))else none
 |_,_=>none
theorem b4X{α:Type}(x:α)(n:Nat):(List.replicate n [x]).flatten=List.replicate n x:=by
 induction n with
 |zero=>rfl
 |succ n ih=>rw[Zi,Js,ih,Zi];rfl
theorem a9E{K:Qq}{G:Hp}{x:V}{d:D}(h:Rep K G x d):∀n,z7_ K G (List.replicate n x) (List.replicate n d)
 |0=>repL_nil
 |n+1=>by rw[Zi,Zi];exact repL_cons h (a9E h n)
theorem b4Y:OpD X B (a4E X.K) a6a:=by
 intro G σ env H x y a b d Q rl ra rb e k;unfold a6a at e;split at e
 ·rename_i d0 n
  split at e
  ·rename_i hn
   cases e;have ra0:=ra;simp only[Rep]at ra rb;obtain⟨p,xs,rfl,q1,r1⟩:=ra;subst rb;obtain⟨v,rfl,rv⟩:=a1n r1;refine⟨p,n,[v],rfl,rfl,rl.sub.sqT q1,by simp,by omega,by omega,?_,fun z=>?_,fun l hp=>?_⟩
   ·exact a9D (by simp;omega)
   ·subst z
    exact k _ G H (.refl rl) ra0
   ·rw[b4X]
    exact k _ _ _ (rl.alloc hp) (a1Q x3_ (z7_.mono (Le.upd (rl.gnone hp)) _ (a9E rv _)))
  ·cases e
 ·cases e
def y8_:=fOr a4s a5Z
def j9_:=fOr a5H a6a
theorem g0_:OpR X (binaryOp .Add) (fun x y H Q=>rI0 (fun i j=>.int (i+j)) x y H Q∨rCatT' X.K x y H Q):=OpR.or b3a op_catT'
theorem g1_:OpD X B (fun x y H Q=>rI0 (fun i j=>.int (i+j)) x y H Q∨rCatT' X.K x y H Q) y8_:=a8W.or b4W
theorem a2b:OpR X (binaryOp .Mult) (fun x y H Q=>rI a1K (fun i j=>.int (i * j)) x y H Q∨a4E X.K x y H Q):=OpR.or b3b b4V
theorem a2c:OpD X B (fun x y H Q=>rI a1K (fun i j=>.int (i * j)) x y H Q∨a4E X.K x y H Q) j9_:=b4b.or b4Y
end
end L2.Mir
namespace HT
open PySem PySem.Spec PyProof.Rows
section
variable{prog:Program}{w:World}{A:Around}{E:OE}{s:Shared}
theorem getItem_tuple_whole{t sl:Addr}{items:Array Value}{vl vu:Value}{lo hi:Option Int}{Q:OE}(ht:IsTup s.heap t items)(hs:s.heap.IsSliceOf sl vl vu .none)(pl:IsPart vl lo)(pu:IsPart vu hi)
  (hw:sIx items.size 0 lo=0/\sIx items.size items.size hi=items.size)
  (h:Q (.ref t) s):wpAny (model prog w) A (getItem (.ref t) (.ref sl)) Q E s:=by
 obtain⟨os,hos,hcs,hds⟩:=id hs;have hTs:s.TypeIs (.ref sl) "slice":=⟨os,hos,hcs⟩;unfold getItem
 try with_reducible refine Jb ?_
 first|refine Qz (Qj ?_)|skip
 refine Qz (wpAny_sequenceKey ht.typeIs (by decide) ?_)
 refine Qz (Zg (name:=Str.ofString "__getitem__") ht.typeIs Qt
  (Zo Qt ht.typeIs entry_tuple_getitem ?_ (args_tuple_getitem _ _)))
 show wpAny _ _ (Builtin.Tuple.tupleItemsOf (.ref t)>>=_) _ _ s;refine Qz (tupleItemsOf_ ht ?_);refine Qz (wpAny_typeOf hTs ?_);rw[Qb (by decide)]
 refine Qz (sliceApplied_gen hs pl pu ?_);have hno:((((sIx items.size 0 lo:Nat):Int)==0&&(1:Int)==1&&(sIx items.size items.size hi-sIx items.size 0 lo)==items.size)=true):=by
  rw[hw.1,hw.2];simp
 show wpAny _ _ (if(((sIx items.size 0 lo:Nat):Int)==0&&(1:Int)==1&&(sIx items.size items.size hi-sIx items.size 0 lo)==items.size)=true then _ else _) _ _ s
 rw[Qb hno];refine Qz (Qz (m:=typeOf (.ref t)) (wpAny_typeOf ht.typeIs (Qj ?_)));rw[Qb (by decide)]
 refine Qz (wpAny_rule ?_)
 first
  |exact Qj ⟨_,rfl,Qj h⟩
  |exact Qz (Qj ⟨_,rfl,Qj h⟩)
  |exact Qz (Qz (Qj ⟨_,rfl,Qj h⟩))
theorem sliceApplied_rev{sl:Addr}{t:Tok}{n:Nat}{Q:Int×Int×Nat->Shared->Prop}(hs:s.heap.IsSliceOf sl .none .none (.int (-1) t))
  (h:Q ((n:Int)-1,-1,n) s):wpAny (model prog w) A (Builtin.Slice.sliceApplied (.ref sl) (pure (n:Int))) Q E s:=by
 obtain⟨os,hos,hcs,hds⟩:=id hs;unfold Builtin.Slice.sliceApplied Builtin.Slice.sliceFields;refine Qz (Qz (Zp hos hds (x:=.none) rfl (Qz (Zp hos hds (x:=.none) rfl (Qz (Zp hos hds (x:=.int (-1) t) rfl (Qj ?_)))))));refine Qz (slicePart_int ?_);show wpAny _ _ (if((-1:Int)==0)=true then _ else _) _ _ s
 rw[Qw (by decide)]
 refine Qz (slicePart_none (Qz (slicePart_none (Qz (Qj ?_)))));have e:Builtin.Slice.slicePlaces ((n:Int)-1) (-1) (-1)=n:=by
  unfold Builtin.Slice.slicePlaces;have h1:¬ ((-1:Int)>0):=by omega
  simp only[h1,Yx];split
  ·rw[show(- -1:Int)=1 by decide,Int.ediv_one];omega
  ·omega
 show wpAny _ _ (pure ((n:Int)-1,(-1:Int),Builtin.Slice.slicePlaces ((n:Int)-1) (-1) (-1))) _ _ s;rw[e];exact Qj h
theorem filterMap_congr'{α β:Type}{f g:α->Option β}:∀{l:List α},(∀x∈l,f x=g x)->l.filterMap f=l.filterMap g
 |[],_=>rfl
 |a::l,h=>by
  rw[Ju,Ju,h a (by simp),filterMap_congr' (l:=l) fun x hx=>h x (by simp[hx])]
theorem pick_rev(xs:Array Value):((List.range xs.size).filterMap fun(m:Nat)=>xs[(((xs.size:Int)-1)+(m:Int) * (-1)).toNat]?).toArray=xs.toList.reverse.toArray:=by
 have h:=PySem.W.krv_all xs
 have h2:=Yh List.reverse h
 rw[←List.filterMap_reverse,←PySem.W.krv_range,List.filterMap_map]at h2;rw[←h2]
 congr 1
 apply filterMap_congr'
 intro m hm;have:=Zt.mp hm;show xs[_]? =xs[xs.size-1-m]?
 congr 1
 omega
theorem getItem_tuple_rev{t sl:Addr}{items:Array Value}{tk:Tok}{Q:OE}(ht:IsTup s.heap t items)(hs:s.heap.IsSliceOf sl .none .none (.int (-1) tk))
  (h:Q (.ref s.heap.objs.size) {s with heap:=s.heap.push {cls:=.type "tuple",data:=.seq items.toList.reverse.toArray}})
  (hsz:items.size≤sizeLine):wpAny (model prog w) A (getItem (.ref t) (.ref sl)) Q E s:=by
 have htake:sizeOk (.seq items.toList.reverse.toArray):=by
  show items.toList.reverse.toArray.size≤sizeLine
  simpa using hsz
 obtain⟨os,hos,hcs,hds⟩:=id hs;have hTs:s.TypeIs (.ref sl) "slice":=⟨os,hos,hcs⟩;unfold getItem
 try with_reducible refine Jb ?_
 first|refine Qz (Qj ?_)|skip
 refine Qz (wpAny_sequenceKey ht.typeIs (by decide) ?_)
 refine Qz (Zg (name:=Str.ofString "__getitem__") ht.typeIs Qt
  (Zo Qt ht.typeIs entry_tuple_getitem ?_ (args_tuple_getitem _ _)))
 show wpAny _ _ (Builtin.Tuple.tupleItemsOf (.ref t)>>=_) _ _ s;refine Qz (tupleItemsOf_ ht ?_);refine Qz (wpAny_typeOf hTs ?_);rw[Qb (by decide)]
 refine Qz (sliceApplied_rev hs ?_);have hno:¬ ((((items.size:Int)-1)==0&&(-1:Int)==1&&items.size==items.size)=true):=by
  rw[show((-1:Int)==1)=false by decide];simp
 show wpAny _ _ (if(((items.size:Int)-1)==0&&(-1:Int)==1&&items.size==items.size)=true then _ else _) _ _ s
 rw[Qw hno,pick_rev]
 first
  |exact Qz (m:=Builtin.Tuple.tupleExact _) (Qo (Qj ⟨_,rfl,Qj h⟩) htake)
  |exact Qz (m:=Builtin.Tuple.tupleExact _) (Qo (Qz (Qj (Qj ⟨_,rfl,Qj h⟩))) htake)
  |exact Qz (Qz (m:=Builtin.Tuple.tupleExact _) (Qo (Qj (Qj ⟨_,rfl,Qj h⟩)) htake))
  |exact Qz (Qz (m:=Builtin.Tuple.tupleExact _) (Qo (Qj ⟨_,rfl,Qj h⟩) htake))
end
end HT
namespace L2.Mir
open PySem PySem.Spec PyProof.Rows
section
variable{X:Cx}{B:OA}{e lo hi st:Expr}{ma ml mh:Mo D}{pos p2:Pos}
def b4Z(K:Qq):V->Option Int->Option Int->Hp->VK->Prop:=fun x lo hi H Q=>∃a xs,x=.ref a/\SqT K H a xs/\
 ((HT.sIx xs.length 0 lo=0/\HT.sIx xs.length xs.length hi=xs.length)->Q (.ref a) H)/\∀p,H p=none->Q (.ref p) (upd H p (.tup (a0V xs lo hi)))
theorem b5a:SlR X (b4Z X.K):=by
 intro pins s σ H x v vl vu lo hi sl Q I rx hs pl pu h;obtain⟨a,xs,rfl,hx,qw,q⟩:=h
 by_cases hw:HT.sIx xs.length 0 lo=0/\HT.sIx xs.length xs.length hi=xs.length
 ·cases rx
  obtain⟨its,r,ht,hz⟩:=I.tuple hx;have hlen:its.toArray.size=xs.length:=by rw[Qn];exact r.length.symm
  refine⟨"tuple",_,Qt.lookup,ht.typeIs,?_⟩;exact HT.getItem_tuple_whole ht hs pl pu (by rw[hlen];exact hw) ⟨.ref a,H,I,rfl,qw hw⟩
 ·exact a5w pins s σ H (.ref a) v vl vu lo hi sl Q I rx hs pl pu ⟨a,xs,rfl,hx,hw,q⟩
def a0M(xs:List D)(lo hi:Option Int):List D:=(xs.drop (HT.sIx xs.length 0 lo)).take (HT.sIx xs.length xs.length hi-HT.sIx xs.length 0 lo)
def a2L:Mo (Option Int):=fun env=>some (none,env)
def a2M(m:Mo D):Mo (Option Int):=fun env=>(m env).bind fun p=>match p.1 with
 |.int i=>some (some i,p.2)
 |_=>none
def TOm(K:Qq)(B:OA)(m:Mo (Option Int)):TO:=fun σ H Q=>∃G env o env',Rel K B G σ env H/\m env=some (o,env')/\∀G' H',Ev K B G σ env H G' σ env' H'->Q o H'
abbrev EO(X:Cx)(B:OA)(e:Option Expr)(m:Mo (Option Int)):Prop:=PO X e (TOm X.K B m)
theorem a9F{X:Cx}{e:Option Expr}{t t':TO}(h:PO X e t)(i:∀σ H Q,t' σ H Q->t σ H Q):PO X e t':=fun pins s σ H Q I q=>h pins s σ H Q I (i σ H Q q)
theorem b5b:EO X B none a2L:=by
 refine a9F b3y ?_
 rintro σ H Q ⟨G,env,o,env',rl,e,k⟩;cases e;exact k G H (.refl rl)
theorem b5c(h:ED X B e ma):EO X B (some e) (a2M ma):=by
 refine a9F (b3z h) ?_
 rintro σ H Q ⟨G,env,o,env',rl,e,k⟩;obtain⟨⟨d,env1⟩,e1,e2⟩:=q7_ e;dsimp only at e2;split at e2
 ·rename_i i
  cases e2;refine .bind rl e1 fun v G1 H1 ev r=>?_
  simp only[Rep]at r;exact⟨i,r,k G1 H1 ev⟩
 ·cases e2
def mSl(m:Mo D)(ml mh:Mo (Option Int)):Mo D:=fun env=>(m env).bind fun p=>(ml p.2).bind fun q=>(mh q.2).bind fun r=>match p.1 with
 |.tup ds=>some (.tup (a0M ds q.1 r.1),r.2)
 |_=>none
theorem z7_.cut{K:Qq}{G:Hp}{xs:List V}{ds:List D}(r:z7_ K G xs ds)(lo hi:Option Int):z7_ K G (a0V xs lo hi) (a0M ds lo hi):=by
 unfold a0V a0M;rw[r.length];exact(r.drop _).take _
theorem b5d{ds:List D}{lo hi:Option Int}(h:HT.sIx ds.length 0 lo=0/\HT.sIx ds.length ds.length hi=ds.length):a0M ds lo hi=ds:=by
 unfold a0M;rw[h.1,h.2];simp
theorem b5e{lo hi:Option Expr}{ml mh:Mo (Option Int)}(he:ED X B e ma)(hl:EO X B lo ml)(hh:EO X B hi mh):ED X B (.Subscript e (.Slice lo hi none p2) pos) (mSl ma ml mh):=by
 refine pe_imp (b3A b5a he hl hh) ?_
 rintro σ H Q ⟨G,env,d,env',rl,e,k⟩;obtain⟨⟨d1,env1⟩,e1,e2⟩:=q7_ e;obtain⟨⟨l,env2⟩,e3,e4⟩:=q7_ e2;obtain⟨⟨u,env3⟩,e5,e6⟩:=q7_ e4;dsimp only at e3 e5 e6;split at e6
 ·rename_i ds
  cases e6;refine .bind rl e1 fun v G1 H1 ev1 r1=>⟨G1,env1,l,env2,ev1.rel,e3,fun G2 H2 ev2=>⟨G2,env2,u,_,ev2.rel,e5,fun G3 H3 ev3=>?_⟩⟩
  have r3:=Rep.mono (ev2.same.trans ev3.same) _ r1
  have r30:=r3
  simp only[Rep]at r3;obtain⟨p,xs,rfl,q,t⟩:=r3;refine⟨p,xs,rfl,ev3.rel.sub.sqT q,fun hw=>?_,fun l' hp=>?_⟩
  ·rw[t.length]at hw
   exact k _ G3 H3 ((ev1.trans ev2).trans ev3) (by rw[b5d hw];exact r30)
  ·exact k _ _ _ (((ev1.trans ev2).trans ev3).trans (ev3.rel.alloc hp)) (a1Q x3_ (z7_.mono (Le.upd (ev3.rel.gnone hp)) _ (t.cut l u)))
 ·cases e6
theorem b5f{te:TE}(he:PE X e te)(hst:PE X st (tC (.int (-1)))):PE X (.Subscript e (.Slice none none (some st) p2) pos) (fun σ H Q=>te σ H fun x H1=>∃a xs,x=.ref a/\SqT X.K H1 a xs/\∀p,H1 p=none->Q (.ref p) (upd H1 p (.tup xs.reverse))):=by
 intro pins s σ H Q I h;refine Subscript_ (thn (he pins s σ H _ I h) fun v s1 ⟨x,H1,I1,r1,q1⟩=>?_)
 refine wpAny_Slice ?_
 rw[evalPart_none];refine Qj (Qj ?_);rw[evalPart_some];refine thn (hst pins s1 σ H1 (fun x H2=>x=.int (-1)/\H2=H1) I1 ⟨rfl,rfl⟩) fun vst s3 ⟨y,H3,I3,r3,q3⟩=>?_
 obtain⟨rfl,rfl⟩:=q3;obtain⟨tk,rfl⟩:=r3;obtain⟨a,xs,rfl,hx,q⟩:=q1;cases r1;have I4:Inv X pins σ H3 {s3 with heap:=s3.heap.push {cls:=.type "slice",data:=.fields #[.none,.none,.int (-1) tk]}}:=I3.kept (t':=s3.toks) fun b ob q=>Qx _ q
 obtain⟨its,r,ht,hz⟩:=I4.tuple hx;have hlen:its.toArray.size=xs.length:=by rw[Qn];exact r.length.symm
 show wpAny (model X.prog X.w) X.A (subscriptTail e (.Slice none none (some st) p2) (.ref a) (.ref s3.heap.objs.size)) (EP X pins σ Q) X.xe {s3 with heap:=s3.heap.push {cls:=.type "slice",data:=.fields #[.none,.none,.int (-1) tk]}}
 refine tail_any (ops:=[.ref a,.ref s3.heap.objs.size]) ht.typeIs Qt.lookup ?_ (by with_unfolding_all rfl)
 refine HT.getItem_tuple_rev (tk:=tk) ht (Heap.IsSliceOf.new ..) ?_ (by rw[hlen];exact hz)
 refine⟨.ref _,_,I4.laid (t':=s3.toks) (o:=.tup xs.reverse) (fun b ob q=>Qx _ q) (Qu _) ?_,rfl,q _ (I4.hok.fresh (Qu _))⟩
 exact⟨by rw[List.length_reverse];exact hz,_,r.reverse,a0l.new _ _⟩
def a2d(m:Mo D):Mo D:=fun env=>(m env).bind fun p=>match p.1 with
 |.tup ds=>some (.tup ds.reverse,p.2)
 |_=>none
theorem a6b(he:ED X B e ma)(hst:PE X st (tC (.int (-1)))):ED X B (.Subscript e (.Slice none none (some st) p2) pos) (a2d ma):=by
 refine pe_imp (b5f he hst) ?_
 rintro σ H Q ⟨G,env,d,env',rl,e,k⟩;obtain⟨⟨d1,env1⟩,e1,e2⟩:=q7_ e;dsimp only at e2;split at e2
 ·rename_i ds
  cases e2;refine .bind rl e1 fun v G1 H1 ev1 r1=>?_
  simp only[Rep]at r1;obtain⟨p,xs,rfl,q,t⟩:=r1;exact⟨p,xs,rfl,ev1.rel.sub.sqT q,fun l' hp=>k _ _ _ (ev1.trans (ev1.rel.alloc hp)) (a1Q x3_ (z7_.mono (Le.upd (ev1.rel.gnone hp)) _ t.reverse))⟩
 ·cases e2
theorem a6c{j:Nat}{p:Pos}:PE X (.UnaryOp .USub (.Constant (.int 1) j p) pos) (tC (.int (-1))):=pe_imp (a8t a8w a8m) fun σ H Q q=>⟨1,rfl,q⟩
end
section
variable{X:Cx}{pins:OX}{σ:St}{H:Hp}{s:Shared}{h':Heap}
theorem a9G{t':Nat}{ch:List Addr}(I:Inv X pins σ H s)(k:∀b o,b∉ch->s.heap.get? b=some o->h'.get? b=some o)(hf:∀b∈ch,a0g X pins H b):Inv X pins σ H {s with heap:=h',toks:=t'}:=by
 have nit:∀b u,H b=some u->b∉ch:=fun b u e z=>by rw[(hf b z).1]at e;cases e
 refine I.step (g':=s.gens) (d':=s.drawn) (ch:=ch) (fun b hb=>⟨(hf b hb).2.2.2.1,(hf b hb).2.1,(hf b hb).2.2.2.2.1,(hf b hb).2.2.2.2.2⟩) (fun b o _ _ hc e _=>k b o hc e) (fun b o _ _ hc e _=>⟨o.slots,k b o hc e⟩) (fun _ _ _ _ n=>n)
  (fun b o hc e=>⟨o,k b o hc e⟩) (fun _ _ e=>e) (fun _ _ _ e=>e) (fun b ps e=>⟨#[],by rw[e];simp⟩) (fun m hm=>?_) (fun b u e=>?_) I.bare
 ·obtain⟨o,es,ep,ho,r⟩:=hm
  exact⟨o,es,ep,k _ o (fun z=>(hf _ z).2.1 rfl) ho,r⟩
 ·refine(I.hok b u e).stay (fun c v hc q=>k c v ?_ q) (fun _ q=>q) fun _ _ q=>q
  rcases hc with z|z
  ·rw[z];exact nit b u e
  ·exact nit c _ z
theorem b5g{t':Nat}{ch:List Addr}{p:Addr}{o:HO}(I:Inv X pins σ H s)(k:∀b o,b∉ch->s.heap.get? b=some o->h'.get? b=some o)(hf:∀b∈ch,a0g X pins H b)
  (hp:s.heap.objs.size≤p)(new:k0_ X.prog X.w (upd H p o) h' p o):Inv X pins σ (upd H p o) {s with heap:=h',toks:=t'}:=by
 have nit:∀b u,H b=some u->b∉ch:=fun b u e z=>by rw[(hf b z).1]at e;cases e
 have hn:H p=none:=I.hok.fresh hp
 have np:∀b u,s.heap.get? b=some u->b≠p:=fun b u q=>Zj (Qd (Qh q) hp)
 refine I.step (g':=s.gens) (d':=s.drawn) (ch:=ch) (fun b hb=>⟨(hf b hb).2.2.2.1,(hf b hb).2.1,(hf b hb).2.2.2.2.1,(hf b hb).2.2.2.2.2⟩) (fun b o _ _ hc e _=>k b o hc e) (fun b o _ _ hc e _=>⟨o.slots,k b o hc e⟩) (fun b o _ e n=>by rw[v4_ (np b o e)];exact n)
  (fun b o hc e=>⟨o,k b o hc e⟩) (fun b xs q=>by rw[v4_ (g9_ q hn)];exact q) (fun b u xs q=>by rw[v4_ (g9_ q hn)];exact q) (fun b ps e=>⟨#[],by rw[v4_ (g9_ e hn),e];simp⟩) (fun m hm=>?_) (fun b u e=>?_) I.bare
 ·obtain⟨o,es,ep,ho,r⟩:=hm
  exact⟨o,es,ep,k _ o (fun z=>(hf _ z).2.1 rfl) ho,r⟩
 ·by_cases hb:b=p
  ·subst hb;rw[x3_]at e;cases e;exact new
  ·rw[v4_ hb]at e
   refine(I.hok b u e).stay (fun c v hc q=>k c v ?_ q) (fun c q=>by rw[v4_ (g9_ q hn)];exact q) fun c xs q=>by rw[v4_ (g9_ q hn)];exact q
   rcases hc with z|z
   ·rw[z];exact nit b u e
   ·exact nit c _ z
end
def Sq1(k:Bool)(h:Heap)(l:Addr)(xs:Array Value):Prop:=if k then h.IsTuple l xs else h.IsList l xs
def It1(k:Bool)(h:Heap)(i l:Addr)(n:Nat):Prop:=if k then h.IsTupleIter i l n else h.IsListIter i l n
section
variable{k:Bool}{h h':Heap}{i l b:Addr}{n:Nat}{xs:Array Value}
theorem Sq1.at'(x:Sq1 k h l xs)(e:∀o,h.get? l=some o->h'.get? l=some o):Sq1 k h' l xs:=by
 cases k
 ·exact Heap.IsList.at (show h.IsList l xs from x) e
 ·obtain⟨o,ho,r⟩:=(show h.IsTuple l xs from x)
  exact(⟨o,e _ ho,r⟩:h'.IsTuple l xs)
theorem It1.at'(x:It1 k h i l n)(e:∀o,h.get? i=some o->h'.get? i=some o):It1 k h' i l n:=by
 cases k
 ·exact Heap.IsListIter.at (show h.IsListIter i l n from x) e
 ·exact Heap.IsTupleIter.at (show h.IsTupleIter i l n from x) e
theorem It1.get(x:It1 k h i l n):∃o,h.get? i=some o/\∀v,o.data≠.cell v:=by
 cases k
 ·obtain⟨o,ho,_,d⟩:=(show h.IsListIter i l n from x);exact⟨o,ho,fun v z=>by rw[d]at z;cases z⟩
 ·obtain⟨o,ho,_,d⟩:=(show h.IsTupleIter i l n from x);exact⟨o,ho,fun v z=>by rw[d]at z;cases z⟩
theorem It1.but(x:It1 k h i l n)(hs:Heap.ExtBut b h h')(hb:i≠b):It1 k h' i l n:=x.at' fun o e=>hs i o hb e
theorem Sq1.but(x:Sq1 k h l xs)(hs:Heap.ExtBut b h h')(hb:l≠b):Sq1 k h' l xs:=x.at' fun o e=>hs l o hb e
end
section
variable{prog:Program}{w:World}{A:Around}{E:OE}{s:Shared}
theorem b5h{it l:Addr}{i:Nat}{items:Array Value}{x:Value}{Q:OE}(hit:s.heap.IsTupleIter it l i)(hl:s.heap.IsTuple l items)(hx:items[i]? =some x)
  (hQ:∀h',h'.IsTupleIter it l (i+1)->Heap.SameBut it s.heap h'->Q x {s with heap:=h'}):wpAny (model prog w) A (Builtin.SmallTypes.nextOf (.ref it)) Q E s:=by
 obtain⟨o,ho,hc,hd⟩:=id hit;obtain⟨ol,hol,_,nl,hdl⟩:=hl;unfold Builtin.SmallTypes.nextOf;refine Qz (Zg (name:=Str.ofString "__next__") hit.typeIs Ym (Zo Ym hit.typeIs Vq ?_ (Ue _)));show wpAny _ _ (field (.ref it) 0>>=_) _ _ s;refine Qz (Zp ho hd (x:=.ref l) rfl ?_);rw[Qw (show ¬ ((Value.ref l==Value.none)=true)from Zk)]
 refine Qz (Zp ho hd (x:=.int i 0) rfl ?_);refine Qz (Yi hol hdl ?_);simp only[Yj,hx];refine Qz (Vl ho hd (by simp) (Qj ⟨x,rfl,Qj (hQ _ ⟨_,Vv _ ho (Obj.isFreed_of_fields (Uc hd _)),(Obj.cls_mapFields ..).trans hc,?_⟩ (Ux ..))⟩))
 rw[Uc hd];simp[rawInt]
theorem b5i{it l:Addr}{i:Nat}{items:Array Value}{Q:OE}(hh:A.handled=none)(hit:s.heap.IsTupleIter it l i)(hl:s.heap.IsTuple l items)(hx:items[i]? =none)
  (hE:∀h' e,Heap.ExtBut it s.heap h'->(∃o,h'.get? e=some o/\o.cls=.type "StopIteration")->E (.ref e) {s with heap:=h'}):wpAny (model prog w) A (Builtin.SmallTypes.nextOf (.ref it)) Q E s:=by
 obtain⟨o,ho,hc,hd⟩:=id hit;obtain⟨ol,hol,_,nl,hdl⟩:=hl;unfold Builtin.SmallTypes.nextOf;refine Qz (Zg (name:=Str.ofString "__next__") hit.typeIs Ym (Zo Ym hit.typeIs Vq ?_ (Ue _)));show wpAny _ _ (field (.ref it) 0>>=_) _ _ s;refine Qz (Zp ho hd (x:=.ref l) rfl ?_);rw[Qw (show ¬ ((Value.ref l==Value.none)=true)from Zk)]
 refine Qz (Zp ho hd (x:=.int i 0) rfl ?_);refine Qz (Yi hol hdl ?_);simp only[Yj,hx];refine Qz (wpAny_rule (Qz (Vl ho hd (by simp) ?_)))
 refine Qz ?_
 simp only[newExc,newTuple];refine Qz (Qo ?_ (by size_fits))
 refine Qz (m:=firstArgMember _ _) (wpAny_of_eq (a:=Value.none) (by first|rfl|(simp only[firstArgMember];rfl)) ?_)
 refine Qo ?_ (by size_fits)
 simp only[raiseNew];refine Qz (wpAny_handled ?_)
 first|rw[show A.in1.handled=none from hh]|rw[hh]
 refine Qz (Qj (wpAny_throw ?_));exact hE _ _ (((Ux ..).extBut.push _).push _) ⟨_,Qg _ rfl,rfl⟩
theorem a6d{k:Bool}{it l:Addr}{i:Nat}{items:Array Value}{x:Value}{Q:OE}(hit:It1 k s.heap it l i)(hl:Sq1 k s.heap l items)(hx:items[i]? =some x)
  (hQ:∀h',It1 k h' it l (i+1)->Heap.SameBut it s.heap h'->Q x {s with heap:=h'}):wpAny (model prog w) A (Builtin.SmallTypes.nextOf (.ref it)) Q E s:=by
 cases k
 ·exact wpAny_nextOf_list_item hit hl hx hQ
 ·exact b5h hit hl hx hQ
theorem a9H{k:Bool}{it l:Addr}{i:Nat}{items:Array Value}{Q:OE}(hh:A.handled=none)(hit:It1 k s.heap it l i)(hl:Sq1 k s.heap l items)(hx:items[i]? =none)
  (hE:∀h' e,Heap.ExtBut it s.heap h'->(∃o,h'.get? e=some o/\o.cls=.type "StopIteration")->E (.ref e) {s with heap:=h'}):wpAny (model prog w) A (Builtin.SmallTypes.nextOf (.ref it)) Q E s:=by
 cases k
 ·exact wpAny_nextOf_list_end hh hit hl hx hE
 ·exact b5i hh hit hl hx hE
end
section
variable{prog:Program}{w:World}{A:Around}{E:OE}{s:Shared}{c1 c2:Bool}
theorem b5j{z TI TO i1 i2 l1 l2:Addr}{k1 k2:Nat}{xs ys:Array Value}{x y a b:Value}{Q:OE}(D:ZipApart z TI TO i1 i2 l1 l2)
  (hz:IsZip s.heap z TI TO .none)(hTI:IsPair s.heap TI (.ref i1) (.ref i2))(hTO:IsPair s.heap TO a b)
  (h1:It1 c1 s.heap i1 l1 k1)(h2:It1 c2 s.heap i2 l2 k2)(hl1:Sq1 c1 s.heap l1 xs)(hl2:Sq1 c2 s.heap l2 ys)(hx:xs[k1]? =some x)(hy:ys[k2]? =some y)
  (hQ:∀h',IsZip h' z TI TO (rawInt s.heap.objs.size)->IsPair h' TO x y->It1 c1 h' i1 l1 (k1+1)->It1 c2 h' i2 l2 (k2+1)->IsPair h' s.heap.objs.size x y->h'.objs.size=s.heap.objs.size+1->
   (∀c o,c≠z->c≠TO->c≠i1->c≠i2->s.heap.get? c=some o->h'.get? c=some o)->Q (.ref s.heap.objs.size) {s with heap:=h'}):
  wpAny (model prog w) A (Builtin.«zip.__next__» ⟨[.ref z],[]⟩) (fun fin s'=>∃v,fin=.done (.ret v)/\Q v s') E s:=by
 show wpAny _ _ (field (.ref z) 2>>=_) _ _ _;refine Qz (Zp hz rfl (x:=.bool false) rfl (Qz (Zp hz rfl (x:=.ref TI) rfl ?_)));refine Qz (Yi hTI rfl (Qz ?_));unfold Builtin.SmallTypes.ownedTupleIsFree;refine Qz (Zp hz rfl (x:=.none) rfl (Qj ?_));simp only[Zs];refine Qz (wpAny_rule (Qz (Zp hz rfl (x:=.ref TO) rfl ?_)));refine Qz (Ye hz (by simp) fun g1 (z1:IsZip g1 z TI TO .ellipsis) s1=>Qz ?_)
 simp only[List.zipIdx_cons,List.zipIdx_nil,List.forIn_cons,List.forIn_nil];refine Qz (Qz (Va (Qz (m:=Builtin.SmallTypes.nextOf (.ref i1)) ?_)));refine a6d (h1.but s1.extBut D.i1z) (hl1.but s1.extBut D.l1z) hx fun g2 a2 s2=>Qj ?_
 have p2:IsPair g2 TO a b:=s2.extBut _ _ D.TOi1 (s1.extBut _ _ D.TOz hTO)
 refine Qz (Yi p2 rfl (Qz (Vh p2 fun g3 (p3:IsPair g3 TO x b) s3=>?_)))
 refine Qz (wpAny_letGo (Qj (Qz (Qz (Va (Qz (m:=Builtin.SmallTypes.nextOf (.ref i2)) ?_))))));refine a6d (((h2.but s1.extBut D.i2z).but s2.extBut D.i12.symm).but s3.extBut D.TOi2.symm) (((hl2.but s1.extBut D.l2z).but s2.extBut D.l2i1).but s3.extBut D.l2TO) hy fun g4 a4 s4=>Qj ?_
 have p4:IsPair g4 TO x b:=s4.extBut _ _ D.TOi2 p3
 refine Qz (Yi p4 rfl (Qz (Vh p4 fun g5 (p5:IsPair g5 TO x y) s5=>?_)))
 refine Qz (wpAny_letGo (Qj (Qj (Qz (Yi p5 rfl (Qz (wpAny_newTuple ?_)))))));have hsz:g5.objs.size=s.heap.objs.size:=by rw[s5.1,s4.1,s3.1,s2.1,s1.1]
 have z5:IsZip g5 z TI TO .ellipsis:=s5.extBut _ _ D.TOz.symm (s4.extBut _ _ D.i2z.symm (s3.extBut _ _ D.TOz.symm (s2.extBut _ _ D.i1z.symm z1)))
 have k5:∀c o,c≠z->c≠TO->c≠i1->c≠i2->s.heap.get? c=some o->g5.get? c=some o:=fun c o n1 n2 n3 n4 e=>
  s5.extBut _ _ n2 (s4.extBut _ _ n4 (s3.extBut _ _ n2 (s2.extBut _ _ n3 (s1.extBut _ _ n1 e))))
 have b1:It1 c1 g5 i1 l1 (k1+1):=((a2.but s3.extBut D.TOi1.symm).but s4.extBut D.i12).but s5.extBut D.TOi1.symm
 have b2:It1 c2 g5 i2 l2 (k2+1):=a4.but s5.extBut D.TOi2.symm
 refine Qz (m:=Builtin.SmallTypes.ownedTupleHandOut (.ref z) (.ref g5.objs.size)) ?_
 unfold Builtin.SmallTypes.ownedTupleHandOut;have z6:IsZip (g5.push {cls:=.type "tuple",data:=.seq #[x,y]}) z TI TO .ellipsis:=Qx _ z5;refine Qz (Ye z6 (by simp) fun g7 (z7:IsZip g7 z TI TO (rawInt g5.objs.size)) s7=>?_)
 refine Ye z7 (by simp) fun g8 (z8:IsZip g8 z TI TO (rawInt g5.objs.size)) s8=>?_
 have up:∀c o,c≠z->g5.get? c=some o->g8.get? c=some o:=fun c o n1 e=>s8.extBut _ _ n1 (s7.extBut _ _ n1 (Qx _ e))
 have t8:IsPair g8 g5.objs.size x y:=s8.extBut _ _ (Xx (Qh z5)) (s7.extBut _ _ (Xx (Qh z5)) (Qg _ rfl))
 have e8:g8.objs.size=g5.objs.size+1:=by rw[s8.1,s7.1,Za]
 rw[hsz]at z8 t8 e8;refine Qj ⟨_,rfl,?_⟩;show Q (.ref g5.objs.size) _;rw[hsz];exact hQ g8 z8 (up _ _ D.TOz p5) (b1.at' fun o e=>up _ o D.i1z e) (b2.at' fun o e=>up _ o D.i2z e) t8 e8 fun c o n1 n2 n3 n4 e=>up c o n1 (k5 c o n1 n2 n3 n4 e)
theorem b5k{z TI TO i1 i2 l1 l2:Addr}{k1 k2:Nat}{xs ys:Array Value}{a b:Value}{Q:PySem.Fin->Shared->Prop}(hh:A.handled=none)(D:ZipApart z TI TO i1 i2 l1 l2)
  (hz:IsZip s.heap z TI TO .none)(hTI:IsPair s.heap TI (.ref i1) (.ref i2))(hTO:IsPair s.heap TO a b)
  (h1:It1 c1 s.heap i1 l1 k1)(h2:It1 c2 s.heap i2 l2 k2)(hl1:Sq1 c1 s.heap l1 xs)(hl2:Sq1 c2 s.heap l2 ys)(hend:xs[k1]? =none∨ys[k2]? =none)
  (hE:∀h' e,(∀c o,c≠z->c≠TO->c≠i1->c≠i2->s.heap.get? c=some o->h'.get? c=some o)->(∃o,h'.get? e=some o/\o.cls=.type "StopIteration")->E (.ref e) {s with heap:=h'}):
  wpAny (model prog w) A (Builtin.«zip.__next__» ⟨[.ref z],[]⟩) Q E s:=by
 show wpAny _ _ (field (.ref z) 2>>=_) _ _ _;refine Qz (Zp hz rfl (x:=.bool false) rfl (Qz (Zp hz rfl (x:=.ref TI) rfl ?_)));refine Qz (Yi hTI rfl (Qz ?_));unfold Builtin.SmallTypes.ownedTupleIsFree;refine Qz (Zp hz rfl (x:=.none) rfl (Qj ?_));simp only[Zs];refine Qz (wpAny_rule (Qz (Zp hz rfl (x:=.ref TO) rfl ?_)));refine Qz (Ye hz (by simp) fun g1 (z1:IsZip g1 z TI TO .ellipsis) s1=>Qz ?_)
 simp only[List.zipIdx_cons,List.zipIdx_nil,List.forIn_cons,List.forIn_nil];refine Qz (Qz (Va (Qz (m:=Builtin.SmallTypes.nextOf (.ref i1)) ?_)));cases hx:xs[k1]? with
 |none=>
  refine a9H hh (h1.but s1.extBut D.i1z) (hl1.but s1.extBut D.l1z) hx fun g2 e s2 he=>?_
  obtain⟨oe,q1,q2⟩:=he;have z2:IsZip g2 z TI TO .ellipsis:=s2 _ _ D.i1z.symm z1;have ne:e≠z:=fun x=>by subst x;rw[z2]at q1;cases q1;simp at q2
  exact Ye z2 (by simp) fun g3 _ s3=>hE g3 e (fun c o n1 _ n3 _ x=>s3.extBut _ _ n1 (s2 _ _ n3 (s1.extBut _ _ n1 x))) ⟨oe,s3.extBut _ _ ne q1,q2⟩
 |some x=>
  have hy:ys[k2]? =none:=by
   rcases hend with h|h
   ·rw[hx]at h;cases h
   ·exact h
  refine a6d (h1.but s1.extBut D.i1z) (hl1.but s1.extBut D.l1z) hx fun g2 a2 s2=>Qj ?_
  have p2:IsPair g2 TO a b:=s2.extBut _ _ D.TOi1 (s1.extBut _ _ D.TOz hTO)
  refine Qz (Yi p2 rfl (Qz (Vh p2 fun g3 p3 s3=>?_)))
  refine Qz (wpAny_letGo (Qj (Qz (Qz (Va (Qz (m:=Builtin.SmallTypes.nextOf (.ref i2)) ?_))))));refine a9H hh (((h2.but s1.extBut D.i2z).but s2.extBut D.i12.symm).but s3.extBut D.TOi2.symm) (((hl2.but s1.extBut D.l2z).but s2.extBut D.l2i1).but s3.extBut D.l2TO) hy fun g4 e s4 he=>?_
  obtain⟨oe,q1,q2⟩:=he;have z4:IsZip g4 z TI TO .ellipsis:=s4 _ _ D.i2z.symm (s3.extBut _ _ D.TOz.symm (s2.extBut _ _ D.i1z.symm z1));have ne:e≠z:=fun x=>by subst x;rw[z4]at q1;cases q1;simp at q2
  exact Ye z4 (by simp) fun g5 _ s5=>hE g5 e (fun c o n1 n2 n3 n4 x=>s5.extBut _ _ n1 (s4 _ _ n4 (s3.extBut _ _ n2 (s2.extBut _ _ n3 (s1.extBut _ _ n1 x))))) ⟨oe,s5.extBut _ _ ne q1,q2⟩
theorem b5l{z TI TO i1 i2 l1 l2:Addr}{k1 k2:Nat}{xs ys:Array Value}{x y a b:Value}{Q:Option Value->Shared->Prop}(D:ZipApart z TI TO i1 i2 l1 l2)
  (hz:IsZip s.heap z TI TO .none)(hTI:IsPair s.heap TI (.ref i1) (.ref i2))(hTO:IsPair s.heap TO a b)
  (h1:It1 c1 s.heap i1 l1 k1)(h2:It1 c2 s.heap i2 l2 k2)(hl1:Sq1 c1 s.heap l1 xs)(hl2:Sq1 c2 s.heap l2 ys)(hx:xs[k1]? =some x)(hy:ys[k2]? =some y)
  (hQ:∀h',IsZip h' z TI TO (rawInt s.heap.objs.size)->IsPair h' TO x y->It1 c1 h' i1 l1 (k1+1)->It1 c2 h' i2 l2 (k2+1)->IsPair h' s.heap.objs.size x y->h'.objs.size=s.heap.objs.size+1->
   (∀c o,c≠z->c≠TO->c≠i1->c≠i2->s.heap.get? c=some o->h'.get? c=some o)->Q (some (.ref s.heap.objs.size)) {s with heap:=h'}):
  wpAny (model prog w) A (pyNext (.ref z)) Q E s:=by
 have hT:s.TypeIs (.ref z) "zip":=⟨_,hz,rfl⟩
 unfold pyNext;exact Qz (Ve (Zg (name:=Str.ofString "__next__") hT Ja (Zo Ja hT PySem.F.entry_zip_next
  (b5j D hz hTI hTO h1 h2 hl1 hl2 hx hy fun h' a1 a2 a3 a4 a5 a6 a7=>Qj (hQ h' a1 a2 a3 a4 a5 a6 a7)) (PySem.F.args_zip_next_1 _))))
theorem b5m{z TI TO i1 i2 l1 l2:Addr}{k1 k2:Nat}{xs ys:Array Value}{a b:Value}{Q:Option Value->Shared->Prop}(hh:A.handled=none)(D:ZipApart z TI TO i1 i2 l1 l2)
  (hz:IsZip s.heap z TI TO .none)(hTI:IsPair s.heap TI (.ref i1) (.ref i2))(hTO:IsPair s.heap TO a b)
  (h1:It1 c1 s.heap i1 l1 k1)(h2:It1 c2 s.heap i2 l2 k2)(hl1:Sq1 c1 s.heap l1 xs)(hl2:Sq1 c2 s.heap l2 ys)(hend:xs[k1]? =none∨ys[k2]? =none)
  (hQ:∀h',(∀c o,c≠z->c≠TO->c≠i1->c≠i2->s.heap.get? c=some o->h'.get? c=some o)->Q none {s with heap:=h'}):wpAny (model prog w) A (pyNext (.ref z)) Q E s:=by
 have hT:s.TypeIs (.ref z) "zip":=⟨_,hz,rfl⟩
 unfold pyNext;refine Qz (Ve (Zg (name:=Str.ofString "__next__") hT Ja (Zo Ja hT PySem.F.entry_zip_next
  (b5k hh D hz hTI hTO h1 h2 hl1 hl2 hend fun h' e hk he=>?_) (PySem.F.args_zip_next_1 _))))
 obtain⟨o,ho,hc⟩:=he;exact Qz (wpAny_isInstance (T:="StopIteration") (b:=true) ⟨o,ho,hc⟩ isSubtype_stop (Qj (hQ _ hk)))
end
def a9I(c:Bool):String:=if c then "tuple_iterator" else "list_iterator"
abbrev zh1(c1:Bool)(h:Heap)(l1:Addr):Heap:=h.push {cls:=.type (a9I c1),data:=.fields #[.ref l1,.int 0 0]}
abbrev zh2(c1 c2:Bool)(h:Heap)(l1 l2:Addr):Heap:=(zh1 c1 h l1).push {cls:=.type (a9I c2),data:=.fields #[.ref l2,.int 0 0]}
abbrev zh3(c1 c2:Bool)(h:Heap)(l1 l2:Addr):Heap:=(zh2 c1 c2 h l1 l2).push {cls:=.type "tuple",data:=.seq #[.ref h.objs.size,.ref (zh1 c1 h l1).objs.size]}
abbrev zh4(c1 c2:Bool)(h:Heap)(l1 l2:Addr):Heap:=(zh3 c1 c2 h l1 l2).push {cls:=.type "tuple",data:=.seq #[.none,.none]}
abbrev zh5(c1 c2:Bool)(h:Heap)(l1 l2:Addr):Heap:=(zh4 c1 c2 h l1 l2).push {cls:=.type "zip",data:=.fields #[.none,.bool false,.bool false,.ref (zh2 c1 c2 h l1 l2).objs.size,.ref (zh3 c1 c2 h l1 l2).objs.size]}
section
variable{prog:Program}{w:World}{A:Around}{E:OE}{s:Shared}
theorem a9J{c:Bool}{l:Addr}{items:Array Value}{Q:OE}(hl:Sq1 c s.heap l items)(hQ:Q (.ref s.heap.objs.size) {s with heap:=zh1 c s.heap l}):wpAny (model prog w) A (pyIter (.ref l)) Q E s:=by
 cases c
 ·exact Ua hl hQ
 ·exact Vr hl hQ
end
theorem b5n(c1 c2:Bool)(l1 l2:Addr)(xs ys:Array Value):
  Meets (Builtin.«zip.__new__» ⟨[.type "zip",.ref l1,.ref l2],[]⟩) (fun _ R s=>Sq1 c1 s.heap l1 xs/\Sq1 c2 s.heap l2 ys/\R (.ok (.ret (.ref (zh4 c1 c2 s.heap l1 l2).objs.size))) {s with heap:=zh5 c1 c2 s.heap l1 l2}):=
 .of_wp fun prog w A R s h=>by
  obtain⟨hp,g,d,tk,os⟩:=s;obtain⟨hl1,hl2,h⟩:=h;have hsub:=sub_zip;have hL1:Sq1 c1 (Shared.heap ⟨hp,g,d,tk,os⟩) l1 xs:=hl1;have hL2:Sq1 c2 (Shared.heap ⟨zh1 c1 hp l1,g,d,tk,os⟩) l2 ys:=Sq1.at' hl2 fun o e=>Qx _ e
  wp_walk using a9J hL1,a9J hL2
  exact⟨_,rfl,h⟩
section
variable{prog:Program}{w:World}{A:Around}{E:OE}{s:Shared}
theorem b5o{c1 c2:Bool}{l1 l2:Addr}{xs ys:Array Value}{Q:OE}(hl1:Sq1 c1 s.heap l1 xs)(hl2:Sq1 c2 s.heap l2 ys)
  (h:∀h',IsZip h' (s.heap.objs.size+4) (s.heap.objs.size+2) (s.heap.objs.size+3) .none->IsPair h' (s.heap.objs.size+2) (.ref s.heap.objs.size) (.ref (s.heap.objs.size+1))->
   IsPair h' (s.heap.objs.size+3) .none .none->It1 c1 h' s.heap.objs.size l1 0->It1 c2 h' (s.heap.objs.size+1) l2 0->h'.objs.size=s.heap.objs.size+5->
   (∀c o,s.heap.get? c=some o->h'.get? c=some o)->Q (.ref (s.heap.objs.size+4)) {s with heap:=h'}):
  wpAny (model prog w) A (call (.type "zip") [.ref l1,.ref l2]) Q E s:=by
 refine callType_new PySem.F.called_zip (by decide) (PySem.F.typeCall_zip_2 _ _) (PySem.F.newCall_zip_2 _ _) (fun obj=>PySem.F.args_object_init_3 obj _ _) PySem.F.entry_zip_new (b5n c1 c2 l1 l2 xs ys) ⟨hl1,hl2,?_⟩
 have z1:(zh1 c1 s.heap l1).objs.size=s.heap.objs.size+1:=Za ..
 have z2:(zh2 c1 c2 s.heap l1 l2).objs.size=s.heap.objs.size+2:=by rw[Za,z1]
 have z3:(zh3 c1 c2 s.heap l1 l2).objs.size=s.heap.objs.size+3:=by rw[Za,z2]
 have z4:(zh4 c1 c2 s.heap l1 l2).objs.size=s.heap.objs.size+4:=by rw[Za,z3]
 have z5:(zh5 c1 c2 s.heap l1 l2).objs.size=s.heap.objs.size+5:=by rw[Za,z4]
 have g5:(zh5 c1 c2 s.heap l1 l2).get? (zh4 c1 c2 s.heap l1 l2).objs.size=some _:=Qg _ rfl
 have g4:(zh5 c1 c2 s.heap l1 l2).get? (zh3 c1 c2 s.heap l1 l2).objs.size=some _:=Qx _ (Qg _ rfl)
 have g3:(zh5 c1 c2 s.heap l1 l2).get? (zh2 c1 c2 s.heap l1 l2).objs.size=some _:=Qx _ (Qx _ (Qg _ rfl))
 have g2:(zh5 c1 c2 s.heap l1 l2).get? (zh1 c1 s.heap l1).objs.size=some _:=Qx _ (Qx _ (Qx _ (Qg _ rfl)))
 have g1:(zh5 c1 c2 s.heap l1 l2).get? s.heap.objs.size=some _:=Qx _ (Qx _ (Qx _ (Qx _ (Qg _ rfl))))
 show _/\_;rw[z2,z3,z4]at g5;rw[z1,z2]at g3;rw[z3]at g4;rw[z1]at g2;rw[z4];refine⟨⟨_,g5,rfl⟩,h _ g5 g3 g4 ?_ ?_ z5 fun c o x=>Qx _ (Qx _ (Qx _ (Qx _ (Qx _ x))))⟩
 ·cases c1
  ·exact(⟨_,g1,rfl,rfl⟩:Heap.IsListIter _ _ _ _)
  ·exact(⟨_,g1,rfl,rfl⟩:Heap.IsTupleIter _ _ _ _)
 ·cases c2
  ·exact(⟨_,g2,rfl,rfl⟩:Heap.IsListIter _ _ _ _)
  ·exact(⟨_,g2,rfl,rfl⟩:Heap.IsTupleIter _ _ _ _)
end
def SqA(c:Bool)(K:Qq)(H:Hp)(a:Addr)(xs:List V):Prop:=if c then SqT K H a xs else SqL K H a xs
theorem Le.sqA{K:Qq}{G G':Hp}(l:Le G G'){c:Bool}{a:Addr}{xs:List V}(h:SqA c K G a xs):SqA c K G' a xs:=by
 cases c
 ·exact l.sqL h
 ·exact l.sqT' h
section
variable{X:Cx}{pins:OX}{σ:St}{H:Hp}{s:Shared}{c:Bool}{a b:Addr}{xs:List V}
theorem a2N(I:Inv X pins σ H s)(h:SqA c X.K H a xs):∃its:List Value,q5_ xs its/\Sq1 c s.heap a its.toArray/\xs.length≤sizeLine:=by
 cases c
 ·obtain⟨its,r,p,z⟩:=I.list h
  exact⟨its,r,p.isList,z⟩
 ·obtain⟨its,r,p,z⟩:=I.tuple h
  exact⟨its,r,p,z⟩
theorem a4F(I:Inv X pins σ H s)(f:a0g X pins H b)(h:SqA c X.K H a xs):a≠b:=by
 have k:∀{u:HO},Rd H a u->a≠b:=fun r z=>by
  subst z
  rcases r with r|⟨_,r⟩
  ·rw[f.1]at r;cases r
  ·rw[f.1]at r;cases r
 have m:∀{o:Obj},X.K.lookup a=some o->a≠b:=fun{o} q z=>by
  subst z;have e:X.base.get? a=some o:=I.mod.kin a o q
  rcases f.2.2.2.1 with z|z
  ·exact I.ok.noex a o e z
  ·exact absurd (Qd (Qh e) (Zn I.ok.bsz z)) (Yg _)
 cases c
 ·rcases h with h|⟨o,_,_,q,_⟩
  ·exact k h
  ·exact m q
 ·rcases h with h|⟨o,_,_,q,_⟩
  ·exact k h
  ·exact m q
end
def Itz(K:Qq)(c1 c2:Bool)(l1 l2:Addr)(xs ys:List V):It:=
 ⟨fun i H=>i<min xs.length ys.length/\SqA c1 K H l1 xs/\SqA c2 K H l2 ys,
  fun i H x H'=>∃p a b,H p=none/\x=.ref p/\H'=upd H p (.tup [a,b])/\xs[i]? =some a/\ys[i]? =some b,
  fun i H=>min xs.length ys.length≤i/\SqA c1 K H l1 xs/\SqA c2 K H l2 ys⟩
def b5p(c1 c2:Bool)(n:Nat)(l1 l2:Addr)(i:Nat)(h:Heap):Prop:=
 IsZip h (n+4) (n+2) (n+3) .none/\IsPair h (n+2) (.ref n) (.ref (n+1))/\(∃a b,IsPair h (n+3) a b)/\It1 c1 h n l1 i/\It1 c2 h (n+1) l2 i
theorem apart{n l1 l2:Addr}(h1:∀j,j<5->l1≠n+j)(h2:∀j,j<5->l2≠n+j):ZipApart (n+4) (n+2) (n+3) n (n+1) l1 l2:=by
 constructor<;>first
  |(show(_:Nat)≠_;omega)
  |exact h1 4 (by decide)
  |exact h1 3 (by decide)
  |exact h1 1 (by decide)
  |exact h1 0 (by decide)
  |exact h2 4 (by decide)
  |exact h2 3 (by decide)
  |exact h2 1 (by decide)
  |exact h2 0 (by decide)
abbrev fp5(n:Nat):List Addr:=[n+4,n+2,n+3,n,n+1]
abbrev fp4(n:Nat):List Addr:=[n+4,n+3,n,n+1]
theorem a4G(n:Nat):∀{j:Nat},j<5->(n+j:Nat)∈fp5 n
 |0,_=>by simp[fp5]
 |1,_=>by simp[fp5]
 |2,_=>by simp[fp5]
 |3,_=>by simp[fp5]
 |4,_=>by simp[fp5]
 |j+5,h=>by omega
theorem a9K{n:Nat}{c:Addr}(h:c∈fp4 n):c∈fp5 n:=by
 simp only[fp4,fp5,Qr,Zr,Jl]at h ⊢
 rcases h with h|h|h|h<;>simp[h]
theorem b5q{n:Nat}{c:Addr}(h:c∈[n+4]):c∈fp5 n:=by
 simp only[Qr,Zr,Jl]at h;rw[h];simp
theorem le5{n:Nat}{c:Addr}(h:c∈fp5 n):n≤c:=by
 simp only[fp5,Qr,Zr,Jl]at h
 rcases h with rfl|rfl|rfl|rfl|rfl
 ·exact Vx _ _
 ·exact Vx _ _
 ·exact Vx _ _
 ·exact Qu _
 ·exact Vx _ _
theorem b5r{P:Program}{w:World}{K:Qq}{elts:List Expr}{kk:Nat}{tp:Pos}(c1 c2:Bool)(n l1 l2:Addr)(xs ys:List V):
  Turn P w K (.Tuple elts kk tp) (Itz K c1 c2 l1 l2 xs ys) [n+4,n+2,n+3,n,n+1] (n+4) (b5p c1 c2 n l1 l2)where
 mem:=by simp
 obj:=fun i h st b hb=>by
  obtain⟨hz,hI,⟨a,b',hO⟩,h1,h2⟩:=st;simp only[Qr,Zr,Jl]at hb
  rcases hb with rfl|rfl|rfl|rfl|rfl
  ·exact⟨_,hz,fun v z=>by cases z⟩
  ·exact⟨_,hI,fun v z=>by cases z⟩
  ·exact⟨_,hO,fun v z=>by cases z⟩
  ·exact h1.get
  ·exact h2.get
 keep:=fun i h h' st k=>by
  obtain⟨hz,hI,⟨a,b',hO⟩,h1,h2⟩:=st;exact⟨k _ (by simp) _ hz,k _ (by simp) _ hI,⟨a,b',k _ (by simp) _ hO⟩,h1.at' fun o e=>k _ (by simp) o e,h2.at' fun o e=>k _ (by simp) o e⟩
 item:=by
  intro X hP hw hK hc i pins s σ H E I hf st hg;subst hP hw hK;obtain⟨hi,q1,q2⟩:=hg;obtain⟨hz,hI,⟨a,b,hO⟩,h1,h2⟩:=st;obtain⟨its,r1,p1,_⟩:=a2N I q1;obtain⟨jts,r2,p2,_⟩:=a2N I q2;have ex:xs[i]? =some (xs[i]'(by omega)):=by simp
  have ey:ys[i]? =some (ys[i]'(by omega)):=by simp
  obtain⟨u,hu,ru⟩:=r1.get ex;obtain⟨v,hv,rv⟩:=r2.get ey;have D:ZipApart (n+4) (n+2) (n+3) n (n+1) l1 l2:=apart
   (fun j hj=>a4F I (hf _ (a4G n hj)) q1)
   (fun j hj=>a4F I (hf _ (a4G n hj)) q2)
  refine b5l D hz hI hO h1 h2 p1 p2 (x:=u) (y:=v) (by simpa using hu) (by simpa using hv) fun h' a1 a2 a3 a4 a5 a6 a7=>?_
  have hn:H s.heap.objs.size=none:=I.fresh
  have I1:Inv X pins σ (upd H s.heap.objs.size (.tup [xs[i]'(by omega),ys[i]'(by omega)])) {s with heap:=h'}:=b5g (ch:=[n+4,n+3,n,n+1]) (t':=s.toks) I
   (fun c o hc e=>a7 c o (fun z=>hc (by simp[z])) (fun z=>hc (by simp[z])) (fun z=>hc (by simp[z])) (fun z=>hc (by simp[z])) e)
   (fun c hc=>hf c (a9K hc)) (Qu _)
   ⟨by show 2≤sizeLine;decide,[u,v],.cons ru (.cons rv .nil),_,a5,rfl,rfl,0,rfl⟩
  have lt5:∀c∈[n+4,n+2,n+3,n,n+1],c≠s.heap.objs.size:=fun c hc=>by
   have:∃o,s.heap.get? c=some o:=by
    simp only[Qr,Zr,Jl]at hc
    rcases hc with rfl|rfl|rfl|rfl|rfl
    ·exact⟨_,hz⟩
    ·exact⟨_,hI⟩
    ·exact⟨_,hO⟩
    ·obtain⟨o,e,_⟩:=h1.get;exact⟨o,e⟩
    ·obtain⟨o,e,_⟩:=h2.get;exact⟨o,e⟩
   obtain⟨o,e⟩:=this;exact Zj (Qh e)
  have hf2:∀c∈[n+4,n+2,n+3,n,n+1],a0g X pins (upd H s.heap.objs.size (.tup [xs[i]'(by omega),ys[i]'(by omega)])) c:=fun c hc=>⟨by rw[v4_ (lt5 c hc)];exact(hf c hc).1,(hf c hc).2⟩
  have hI':IsPair h' (n+2) (.ref n) (.ref (n+1)):=a7 _ _ D.TIz D.TITO D.TIi1 D.TIi2 hI
  refine⟨.ref s.heap.objs.size,rfl,wpAny_letOwnedTupleGo_zip (s:={s with heap:=h'}) a1 fun h2' b1 b2=>?_⟩
  have I2:Inv X pins σ (upd H s.heap.objs.size (.tup [xs[i]'(by omega),ys[i]'(by omega)])) {s with heap:=h2'}:=a9G (s:={s with heap:=h'}) (ch:=[n+4]) (t':=s.toks) I1
   (fun c o hc e=>b2.extBut _ _ (fun z=>hc (by simp[z])) e) (fun c hc=>hf2 c (b5q hc))
  exact⟨.ref s.heap.objs.size,_,I2,rfl,⟨_,_,_,hn,rfl,rfl,ex,ey⟩,
   ⟨b1,b2.extBut _ _ D.TIz hI',⟨_,_,b2.extBut _ _ D.TOz a2⟩,a3.but b2.extBut D.i1z,a4.but b2.extBut D.i2z⟩,fun c hc=>(hf2 c hc).1⟩
 done:=by
  intro X hP hw hK hc i pins s σ H E I hf st hg;subst hP hw hK;obtain⟨hi,q1,q2⟩:=hg;obtain⟨hz,hI,⟨a,b,hO⟩,h1,h2⟩:=st;obtain⟨its,r1,p1,_⟩:=a2N I q1;obtain⟨jts,r2,p2,_⟩:=a2N I q2;have D:ZipApart (n+4) (n+2) (n+3) n (n+1) l1 l2:=apart
   (fun j hj=>a4F I (hf _ (a4G n hj)) q1)
   (fun j hj=>a4F I (hf _ (a4G n hj)) q2)
  have e1:=r1.length
  have e2:=r2.length
  have hend:its.toArray[i]? =none∨jts.toArray[i]? =none:=by
   by_cases h:its.length≤i
   ·exact .inl (by simp;omega)
   ·exact .inr (by simp;omega)
  exact b5m (I.ok.hd hc) D hz hI hO h1 h2 p1 p2 hend fun h' hk=>⟨rfl,a9G (ch:=[n+4,n+3,n,n+1]) (t':=s.toks) I
   (fun c o hc e=>hk c o (fun z=>hc (by simp[z])) (fun z=>hc (by simp[z])) (fun z=>hc (by simp[z])) (fun z=>hc (by simp[z])) e)
   (fun c hc=>hf c (a9K hc))⟩
 self:=fun _ _ _ _ _ st h=>wpAny_pyIter_zip st.1 h
theorem b5s:bootBuiltins "zip"=some (.type "zip"):=by decide+kernel
section
variable{X:Cx}{B:OA}{pos p:Pos}{a b:Expr}{ms:Mo (List D)}{elts:List Expr}{kk:Nat}{tp:Pos}
def b5t(K:Qq)(ta:TA):TI:=fun σ H R=>ta σ H fun vs H1=>∃c1 c2 l1 l2 xs ys,vs=[.ref l1,.ref l2]/\SqA c1 K H1 l1 xs/\SqA c2 K H1 l2 ys/\R (Itz K c1 c2 l1 l2 xs ys) H1
theorem b5u{ta:TA}(hg:Gl X "zip")(hm:X.mg "zip"=none)(ha:PA X [a,b] ta)(hs:starEach [a,b] X.env=[(false,eval a X.env),(false,eval b X.env)]:=by rfl)(hs2:starEach [b] X.env=[(false,eval b X.env)]:=by rfl):
  PI X (.Tuple elts kk tp) (.Call (.Name "zip" p) [a,b] [] pos) (b5t X.K ta):=by
 intro pins s σ H R I h;refine Call_ (a2r I hg hm b5s (Yt (thn (ha pos pins s σ H _ I h) fun us s1 ⟨vs,H1,I1,r1,q1⟩=>?_) (by rw[hs,hs2]) (by rw[hs2];rfl)))
 obtain⟨c1,c2,l1,l2,xs,ys,rfl,h1,h2,q⟩:=q1;obtain⟨u,v,rfl,ru,rv⟩:=a4i r1;cases ru;cases rv;obtain⟨its,r1,p1,_⟩:=a2N I1 h1;obtain⟨jts,r2,p2,_⟩:=a2N I1 h2;refine b5o p1 p2 fun h' a1 a2 a3 a4 a5 a6 a7=>?_
 refine wpAny_pyIter_zip a1 ?_
 refine⟨s1.heap.objs.size+4,_,_,_,H1,rfl,I1.kept (t':=s1.toks) a7,b5r c1 c2 s1.heap.objs.size l1 l2 xs ys,⟨a1,a2,⟨_,_,a3⟩,a4,a5⟩,fun c hc=>?_,q⟩
 have hle:s1.heap.objs.size≤c:=le5 hc
 exact I1.fpOk hle (I1.hok.fresh hle)
def a0d(xs ys:List D):List D:=(xs.zip ys).map fun p=>.tup [p.1,p.2]
def a0q(ms:Mo (List D)):Mo (List D):=fun env=>(ms env).bind fun p=>match p.1 with
 |[d,e]=>d.items.bind fun xs=>e.items.map fun ys=>(a0d xs ys,p.2)
 |_=>none
theorem a9L{K:Qq}{G:Hp}{v:V}{d:D}{ds:List D}(r:Rep K G v d)(h:d.items=some ds):∃c a xs,v=.ref a/\SqA c K G a xs/\z7_ K G xs ds:=by
 cases d<;>first|(exact absurd (show(none:Option (List D))=some ds from h) (by simp))|skip
 ·cases h;simp only[Rep]at r;obtain⟨a,xs,e,q,t⟩:=r;exact⟨true,a,xs,e,q.t,t⟩
 ·cases h;simp only[Rep]at r;obtain⟨a,xs,e,q,t⟩:=r;exact⟨false,a,xs,e,q,t⟩
theorem b5v{K:Qq}{G:Hp}{c1 c2:Bool}{l1 l2:Addr}{xs ys:List V}{ds es:List D}(h1:SqA c1 K G l1 xs)(h2:SqA c2 K G l2 ys)(r1:z7_ K G xs ds)(r2:z7_ K G ys es):ItD K (Itz K c1 c2 l1 l2 xs ys) G (a0d ds es)where
 go:=fun i H l hi=>⟨by rw[r1.length,r2.length];simpa [a0d]using hi,l.sqA h1,l.sqA h2⟩
 stop:=fun i H l hi=>⟨by rw[r1.length,r2.length];simpa [a0d]using hi,l.sqA h1,l.sqA h2⟩
 yld:=fun i H x H' d l y e=>by
  obtain⟨p,a,b,hp,rfl,rfl,ea,eb⟩:=y;obtain⟨da,e1,ra⟩:=r1.get' ea;obtain⟨db,e2,rb⟩:=r2.get' eb;have ed:d=.tup [da,db]:=by
   unfold a0d at e;rw[Zc,List.getElem?_zip_eq_some.mpr (⟨e1,e2⟩:ds[i]? =some (da,db).1/\es[i]? =some (da,db).2)]at e;cases e;rfl
  subst ed;have gp:G p=none:=by
   cases q:G p with
   |none=>rfl
   |some o=>rw[l p o q]at hp;cases hp
  exact .inr ⟨p,_,nt_tup,hp,rfl,a1Q x3_ (repL_cons (Rep.mono (Le.upd gp) _ ra) (repL_cons (Rep.mono (Le.upd gp) _ rb) repL_nil))⟩
theorem a6e(hg:Gl X "zip")(hm:X.mg "zip"=none)(ha:EDs X B [a,b] ms)(hs:starEach [a,b] X.env=[(false,eval a X.env),(false,eval b X.env)]:=by rfl)(hs2:starEach [b] X.env=[(false,eval b X.env)]:=by rfl):
  EI X B (.Tuple elts kk tp) (.Call (.Name "zip" p) [a,b] [] pos) (a0q ms):=by
 refine a4y (b5u hg hm ha hs hs2) ?_
 rintro σ H R ⟨G,env,ds,env',rl,e,k⟩;obtain⟨⟨ds',env1⟩,e1,e2⟩:=q7_ e;dsimp only at e2;split at e2
 ·rename_i d1 d2
  obtain⟨xs,e3,e4⟩:=q7_ e2;obtain⟨ys,e5,e6⟩:=x4_ e4;cases e6;refine⟨G,env,_,_,rl,e1,fun vs G1 H1 ev r=>?_⟩
  obtain⟨v,w,rfl,r1,r2⟩:=a4u r;obtain⟨c1,l1,us,rfl,q1,t1⟩:=a9L r1 e3;obtain⟨c2,l2,ws,rfl,q2,t2⟩:=a9L r2 e5;exact⟨c1,c2,l1,l2,us,ws,rfl,ev.rel.sub.sqA q1,ev.rel.sub.sqA q2,k _ G1 H1 ev (b5v q1 q2 t1 t2)⟩
 ·cases e2
end
section
variable{prog:Program}{w:World}{A:Around}{s:Shared}{fin:Bool}{Q:Bool->Shared->Prop}
end
section
variable{X:Cx}{pins:OX}{σ:St}{H:Hp}{s:Shared}
def keys(ds:List D):Option (OI):=ds.mapM fun d=>match d with
 |.tup es=>(ints? es).bind fun ns=>if ns.isEmpty then none else some ns
 |_=>none
end
section
variable{X:Cx}{B:OA}
end
section
variable{X:Cx}{B:OA}{pos:Pos}
end
section
variable{X:Cx}{B:OA}{pos p:Pos}{e:Expr}{es:List Expr}{as:Mo (List Ar)}{fn:Fn}{k n:Nat}{f:Addr}{fd:FuncData}{ps:List Str}{x:Str}
structure Def(P:Program)(w:World)(K:Qq)(mg:OU)(base:Heap)(x:Str)(k n:Nat)(fn:Fn):Prop where
 ex:∃(f:Addr) (fd:FuncData) (ps:List Str),FnOk P w K mg base CX0 k f fd ps (SpF K n fn)/\ps.length=n/\mg x=some (.ref f)/\PySem.W.keepIn K (.ref f)=true/\a0u K fd ps []
theorem v1_(D:Def X.prog X.w X.K X.mg X.base x k n fn)(hr:Room k X.A)(hg:Gl X x)(ha:EAr X B (e::es) as)(hdb:(x==("__debug__":Str))=false:=by decide)
  (he:starEach (e::es) X.env=(false,eval e X.env)::starEach es X.env:=by rfl)(hpl:(backTo pos (starEach es X.env)).any (·.1)=false:=by rfl):
  ED X B (.Call (.Name x p) (e::es) [] pos) (mCD n fn as):=by
 obtain⟨f,fd,ps,F,rfl,hm,hk,hb⟩:=D.ex;exact b4u F hr hg hm hk hb ha hdb he hpl
theorem a9M(D:Def X.prog X.w X.K X.mg X.base x k n fn)(hr:Room k X.A)(hg:Gl X x)(ha:EAr X B (e::es) as)(hdb:(x==("__debug__":Str))=false:=by decide)
  (he:starEach (e::es) X.env=(false,eval e X.env)::starEach es X.env:=by rfl)(hpl:(backTo pos (starEach es X.env)).any (·.1)=false:=by rfl):
  EL X B (.Call (.Name x p) (e::es) [] pos) (a1a n fn as):=by
 obtain⟨f,fd,ps,F,rfl,hm,hk,hb⟩:=D.ex;exact b4v F hr hg hm hk hb ha hdb he hpl
def a1u:Option NameKind->Option NameKind->Bool:=fun a b=>decide (a=b)
def a9N(outN N':List Str)(outNames:List (Str×NameKind))(cells:List (Str×Addr))(scope:Scope)(keep:List Bool)(more:Nat):Bool:=
 (decide (scope.kind=.function)&&(scope.names.all (fun y=>a1u (scope.names.lookup y.1) (some y.2))&&(scope.names.all (fun y=>!a1u (some y.2) (some .free)||(cells.lookup y.1).isSome)&&(decide (keep.length=outN.length)&&(decide (N'.length=outN.length+more)&&
  (List.range keep.length).all fun i=>!(keep.getD i false)||match N'[i]?,outN[i]? with
   |some x,some y=>decide (x=y)&&(!a1u (scope.names.lookup x) (some .local)&&(!a1u (scope.names.lookup x) (some .cell)&&(!a1u (scope.names.lookup x) (some .free)||(a1u (outNames.lookup x) (some .cell)||a1u (outNames.lookup x) (some .free)))))
   |_,_=>false)))))
theorem u4_{N':List Str}{scope:Scope}{keep:List Bool}{more:Nat}(c:closureFor scope X.env=pure (j8_ X.env.cells scope.names []))(h:a9N X.N N' X.env.scope.names X.env.cells scope keep more=true):CompOk X N' scope keep more:=by
 unfold a9N at h;simp only[Qp,Qs,Qi,a1u]at h;obtain⟨h1,h2,h3,h4,h5,h6⟩:=h;have gt:∀(i:Nat) (x:Str),keep[i]? =some true->N'[i]? =some x->∃y,X.N[i]? =some y/\x=y/\ ¬ (scope.names.lookup x=some .local)/\ ¬ (scope.names.lookup x=some .cell)/\(scope.names.lookup x=some .free->X.env.scope.names.lookup x=some .cell∨X.env.scope.names.lookup x=some .free):=fun i x e1 e2=>by
  have hi:i<keep.length:=(Qy.mp e1).1
  have q:=h6 i (Zt.mpr hi)
  have e3:keep.getD i false=true:=by simp[e1]
  rw[e3,e2]at q;cases e4:X.N[i]? with
  |none=>rw[e4]at q;simp at q
  |some y=>
   rw[e4]at q;simp only[Bool.not_true,Vt,Qp,Qs,Bool.not_eq_true',decide_eq_false_iff_not,Up]at q;obtain⟨q1,q2,q3,q4⟩:=q;exact⟨y,rfl,q1,q2,q3,fun z=>q4.elim (fun n=>absurd z n) id⟩
 refine⟨h1,h2,c,fun y hy hf=>?_,h4,h5,fun i x e1 e2=>?_,fun i x e1 e2 e3=>?_⟩
 ·have q:=h3 y hy
  rw[hf]at q
  simpa using q
 ·obtain⟨y,g1,g2,g3,g4,_⟩:=gt i x e1 e2
  exact⟨by rw[g1,g2],g3,g4⟩
 ·have hi:i<keep.length:=(Qy.mp e1).1
  have hN:i<N'.length:=by omega
  obtain⟨y,g1,g2,g3,g4,g5⟩:=gt i _ e1 (Yk hN);rw[e2]at g1;cases g1;rw[g2]at g5;exact g5 e3
end
section
variable{X:Cx}{B:OA}{pos:Pos}
theorem a9O{x:Str}{i:Int}(hg:Gl X x)(hm:∃t,X.mg x=some (.int i t))(hd:(x==("__debug__":Str))=false:=by decide):ED X B (.Name x pos) (mC (.int i)):=by
 obtain⟨t,hm⟩:=hm;exact b4a hg hm hd
def Kp(i:Nat)(m:Mo D):Prop:=∀env d env' w ds,m env=some (d,env')->env'[i]? =some w->w.mut=some ds->∃w0 ds0,env[i]? =some w0/\w0.mut=some ds0
theorem a1v{i:Nat}{d:D}:Kp i (mC d):=fun env d' env' w ds e h1 h2=>by cases e;exact⟨w,ds,h1,h2⟩
theorem b5w{i:Nat}{m:Mo D}(h:Kp i m):Kp i (a1k m):=fun env d' env' w ds e h1 h2=>by
 obtain⟨⟨d,env1⟩,e1,e2⟩:=q7_ e;dsimp only at e2;split at e2
 ·cases e2;exact h env _ _ w ds e1 h1 h2
 ·cases e2
theorem b5x:bootBuiltins "int"=some (.type "int"):=by decide+kernel
theorem b5y:bootBuiltins "bool"=some (.type "bool"):=by decide+kernel
theorem b5z:bootBuiltins "str"=some (.type "str"):=by decide+kernel
theorem u5_:bootBuiltins "tuple"=some (.type "tuple"):=by decide+kernel
theorem a6f:bootBuiltins "all"=some (.builtin "all"):=by decide+kernel
theorem b5A:bootBuiltins "max"=some (.builtin "max"):=by decide+kernel
theorem a4H:bootBuiltins "min"=some (.builtin "min"):=by decide+kernel
end
theorem a9P{K:Qq}{G:Hp}:∀ns:List Int,z7_ K G (ns.map V.int) (ns.map D.int)
 |[]=>repL_nil
 |n::ns=>repL_cons (by simp only[Rep]) (a9P ns)
theorem b5B{l:PySem.W.OpenLaw}{k:Nat}{q:Program}{loose:List Str}{XP:(OU)->Heap->Prop}{YP:World->Heap->Prop}{d:DefRec}{K:Params->Qq}{x:Str}{fn:Fn}
  (hn:l.most=some 63)(hdf:d.params.defaults=[])(hr:Room k callerA)(hY:∀(w:World) (h:Heap),YP w h->(K w.params).In h)
  (F:∀(w:World) (mg:OU) (fa:Addr) (h:Heap),(K w.params).In h->h.Ns mainGlobals mg->mg d.name=some (.ref fa)->
   ∃fd:FuncData,(∀(s:Shared) (u:Value),BindsTo s fd ⟨[u],[]⟩ [(x,u)])/\∀base:Heap,(K w.params).In base->base.Ns mainGlobals mg->FnOk l.prog w (K w.params) mg base CX0 k fa fd [x] (SpF (K w.params) 1 fn))
  (ht:∀ns:List Int,ns.length≤63->∃ws',fn [.dat (.lst (ns.map D.int))]=some (.d (.bl true),ws')):
  PySem.W.WalkO q loose XP YP l.row.toRowW d [] (fun f vs=>PySem.call f vs):=
 L2.b3R (n:=63) (k:=k) (x:=x) (CX:=fun _=>CX0) (sp:=fun w=>SpF (K w.params) 1 fn) hn (by decide) hdf hr hY F (fun w H a ns hl hO hS=>by
  obtain⟨ws',e⟩:=ht ns hl;have hd:∀(i:Nat) (d:D),([.dat (.lst (ns.map D.int))]:List W)[i]? =some (.dat d)->i=0/\d=.lst (ns.map D.int):=fun i d e=>by
   cases i with
   |zero=>simp at e;exact⟨rfl,e.symm⟩
   |succ i=>simp at e
  have hm:∀(i:Nat) (v:W) (ds:Mu),([.dat (.lst (ns.map D.int))]:List W)[i]? =some v->v.mut=some ds->False:=fun i v ds e1 e2=>by
   cases i with
   |zero=>simp at e1;subst e1;cases e2
   |succ i=>simp at e1
  refine⟨H,[.dat (.lst (ns.map D.int))],.d (.bl true),ws',rfl,fun v hv=>.inl ?_,⟨Le.refl,rfl,fun i d e=>?_,fun i v ds e1 e2=>(hm i v ds e1 e2).elim,fun i j v v' ds es a e1 e2=>(hm i v ds e1 e2).elim,fun i v a e1 eo=>(let ⟨m,q⟩:=own_mut eo;hm i _ m e1 q).elim,fun b h=>h.elim,fun P ps z=>by rcases hO P with q|⟨o,xs,q⟩<;>(rw[q]at z;cases z),fun b o z ps y=>by rcases hO b with q|⟨o',xs,q⟩<;>(rw[q]at z;cases z<;>cases y)⟩,e,?_⟩
  ·simp at hv;exact⟨_,hv⟩
  ·obtain⟨rfl,rfl⟩:=hd i d e
   exact⟨.ref a,rfl,by simp only[Rep];exact⟨a,_,rfl,hS,a9P ns⟩⟩
  ·intro v G' H' _ rp
   simpa only[Rep]using rp) fun _ _ _ _ _ z=>z
def a3A:Expr->Bool
 |.Starred _ _=>true
 |_=>false
theorem z1_{e:Expr}{es:List Expr}{env:Env}(h:a3A e=false):starEach (e::es) env=(false,eval e env)::starEach es env:=by
 cases e<;>first|rfl|cases h
theorem se1{a:Expr}{env:Env}(h:a3A a=false):starEach [a] env=[(false,eval a env)]:=by rw[z1_ h];rfl
theorem se2{a b:Expr}{env:Env}(h:a3A a=false)(h2:a3A b=false):starEach [a,b] env=[(false,eval a env),(false,eval b env)]:=by rw[z1_ h,se1 h2]
theorem z9_{pos:Pos}{env:Env}:∀{es:List Expr},es.all (fun e=>!a3A e)=true->(backTo pos (starEach es env)).any (·.1)=false
 |[],_=>rfl
 |e::es,h=>by
  rw[Vs,Qp,Bool.not_eq_true']at h;rw[z1_ h.1];show(false||(backTo pos (starEach es env)).any (·.1))=false
  rw[z9_ h.2];rfl
theorem k8_{m n:Mo Fl}{e e1:Env'}(h:m e=some (.nx,e1)):q0_ m n e=n e1:=by unfold q0_;rw[h];rfl
theorem a0N{m n:Mo Fl}{e e1:Env'}{d:D}(h:m e=some (.ret d,e1)):q0_ m n e=some (.ret d,e1):=by unfold q0_;rw[h];rfl
theorem a1w{t:Mo Bool}{m n:Mo Fl}{e e1:Env'}(h:t e=some (true,e1)):v9_ t m n e=m e1:=by unfold v9_;rw[h];rfl
theorem a1c{t:Mo Bool}{m n:Mo Fl}{e e1:Env'}(h:t e=some (false,e1)):v9_ t m n e=n e1:=by unfold v9_;rw[h];rfl
theorem a3B(neg:Bool)(i j:Int):dEq neg (.int i) (.int j)=some (.bl (if neg then !(i==j)else(i==j))):=rfl
theorem a6g{g:OZ}{m:Mo D}{P:Env'->Prop}{f:D->D}:∀{ds:List D}{env:Env'},(∀d∈ds,∀e,P e->∃e1 e2,g d e=some e1/\m e1=some (f d,e2)/\P e2)->P env->
  ∃env',j2_ g y9_ m ds env=some (ds.map f,env')/\P env'
 |[],env,_,p=>⟨env,rfl,p⟩
 |d::ds,env,h,p=>by
  obtain⟨e1,e2,h1,h2,h3⟩:=h d (by simp) env p
  obtain⟨e3,h4,h5⟩:=a6g (ds:=ds) (fun x hx=>h x (by simp[hx])) h3
  refine⟨e3,?_,h5⟩;unfold j2_;rw[h1];simp only[Qk,y9_,Zs];rw[h2];simp only[Qk];rw[h4];rfl
theorem a9Q{g:OZ}{b:Mo Fl}{P:Env'->Prop}:∀{ds:List D}{env:Env'},(∀d∈ds,∀e,P e->∃e1 e2,g d e=some e1/\b e1=some (.nx,e2)/\P e2)->P env->∃env',loop g b ds env=some (.nx,env')/\P env'
 |[],env,_,p=>⟨env,rfl,p⟩
 |d::ds,env,h,p=>by
  obtain⟨e1,e2,h1,h2,h3⟩:=h d (by simp) env p
  obtain⟨e3,h4,h5⟩:=a9Q (ds:=ds) (fun x hx=>h x (by simp[hx])) h3
  refine⟨e3,?_,h5⟩;unfold loop;rw[h1];simp only[Qk];rw[h2];exact h4
theorem a4I{α:Type}(f:α->Bool):∀l:List α,a0F (l.map fun x=>D.bl (f x))=some (l.all f)
 |[]=>rfl
 |x::l=>by simp[a0F,a4I f l]
theorem x7_{N:Nat}{mb:Mo Fl}{ws env:List W}{d:D}(h:mb (ws++List.replicate (N-ws.length) .nil)=some (.ret d,env)):fnM N mb ws=some (.d d,a0v ws env):=by unfold fnM;rw[h]
theorem a9R{N:Nat}{mb:Mo Fl}{ws env:List W}{d:List D}(h:mb (ws++List.replicate (N-ws.length) .nil)=some (.retL d,env)):fnM N mb ws=some (.l d,a0v ws env):=by unfold fnM;rw[h]
def stop(b:Bool)(d:D):Fl:=if b then .nx else .ret d
theorem a3C{mi:Mo (List D)}{keep:List Bool}{more:Nat}{g:OZ}{t:Mo Bool}{m:Mo D}{env e1 e2 e3:Env'}{ds r:List D}(h:mi env=some (ds,e1))(hl:ds.length≤100000)(hc:j2_ g t m ds (w5_ keep more e1)=some (r,e2))(ho:w6_ keep e1 e2=some e3):
  y3_ mi keep more g t m env=some (r,e3):=by
 unfold y3_;rw[h];show(if ds.length≤100000 then(j2_ g t m ds (w5_ keep more e1)).bind _ else none)=_
 rw[Qb hl,hc];show(w6_ keep e1 e2).map _=_;rw[ho];rfl
theorem a6h{ms:Mo (List D)}{env e1:Env'}{j:Int}(h:ms env=some ([.int j],e1))(h1: -1000000<j)(h2:j<1000000):j0_ ms env=some (u9_ 0 j.toNat,e1):=by
 unfold j0_;rw[h];exact Qb ⟨h1,h2⟩
theorem b5C{ms:Mo (List D)}{env e1:Env'}{i j:Int}(h:ms env=some ([.int i,.int j],e1))(h1: -1000000<i)(h2:i<1000000)(h3: -1000000<j)(h4:j<1000000):a3t ms env=some (u9_ i (j-i).toNat,e1):=by
 unfold a3t;rw[h];exact Qb ⟨h1,h2,h3,h4⟩
theorem g2_{f:List D->Option D}{ms:Mo (List D)}{env e1:Env'}{ds:List D}{d:D}(h:ms env=some (ds,e1))(hf:f ds=some d):mCB f ms env=some (d,e1):=by unfold mCB;rw[h];show(f ds).map _=_;rw[hf];rfl
theorem x2_{m:Mo D}{ms:Mo (List D)}{env e1 e2:Env'}{d:D}{ds:List D}(h:m env=some (d,e1))(h2:ms e1=some (ds,e2)):z3_ m ms env=some (d::ds,e2):=by unfold z3_;rw[h];show(ms e1).map _=_;rw[h2];rfl
theorem a2e{m:Mo D}{ms:Mo (List Ar)}{env e1 e2:Env'}{d:D}{ds:List Ar}(h:m env=some (d,e1))(h2:ms e1=some (ds,e2)):z5_ m ms env=some (.d d::ds,e2):=by unfold z5_;rw[h];show(ms e1).map _=_;rw[h2];rfl
theorem a1x{m:Mo (List D)}{env e1:Env'}{ds:List D}(h:m env=some (ds,e1)):mF m env=some (.lst ds,e1):=by unfold mF;rw[h];rfl
theorem a6i{m:Mo D}{env e1:Env'}{d:D}{ds:List D}(h:m env=some (d,e1))(hd:d.items=some ds):x1_ m env=some (ds,e1):=by unfold x1_;rw[h];show d.items.map _=_;rw[hd];rfl
theorem v3_{f:D->D->Option D}{ma mb:Mo D}{env e1 e2:Env'}{a b c:D}(h1:ma env=some (a,e1))(h2:mb e1=some (b,e2))(hf:f a b=some c):z4_ f ma mb env=some (c,e2):=by
 unfold z4_;rw[h1];show(mb e1).bind _=_;rw[h2];show(f a b).map _=_;rw[hf];rfl
theorem x8_{m:Mo D}{env e1:Env'}{d:D}(h:m env=some (d,e1)):q8_ m env=some (.ret d,e1):=by unfold q8_;rw[h];rfl
theorem b5D{m:Mo (List D)}{env e1:Env'}{d:List D}(h:m env=some (d,e1)):a1V m env=some (.retL d,e1):=by unfold a1V;rw[h];rfl
theorem a0r{i:Nat}{m:Mo D}{env e1:Env'}{d:D}(h:m env=some (d,e1)):v7_ i m env=some (.nx,e1.set i (.dat d)):=by unfold v7_;rw[h];rfl
theorem b5E{i:Nat}{m:Mo (List D)}{env e1:Env'}{d:List D}(h:m env=some (d,e1)):a0p i m env=some (.nx,e1.set i (.own d)):=by unfold a0p;rw[h];rfl
theorem j3_{m:Mo D}{env e1:Env'}{b:Bool}(h:m env=some (.bl b,e1)):mT m env=some (b,e1):=by unfold mT;rw[h];rfl
theorem a1y{m:Mo Bool}{env e1:Env'}{b:Bool}(h:m env=some (b,e1)):x5_ m env=some (!b,e1):=by unfold x5_;rw[h];rfl
theorem a1z{mi:Mo (List D)}{g:OZ}{b:Mo Fl}{env e1:Env'}{ds:List D}(h:mi env=some (ds,e1)):w4_ mi g b env=loop g b ds e1:=by unfold w4_;rw[h];rfl
theorem a2f{n:Nat}{f:Fn}{as:Mo (List Ar)}{env e1:Env'}{av:List Ar}{r:Rr}{ws':List W}(h:as env=some (av,e1))(hn:av.length=n)(hs:slots av=[])(hf:f (av.map (u2_ (.l [])))=some (r,ws')):a0Z n f as env=some (r,e1):=by
 unfold a0Z;rw[h];show(if av.length=n then _ else none)=_
 rw[Qb hn];simp only[hs];rw[hf];rfl
theorem a4J{n i:Nat}{f:Fn}{as:Mo (List Ar)}{env e1:Env'}{av:List Ar}{r:Rr}{ws':List W}{w:W}{c c':List D}(h:as env=some (av,e1))(hn:av.length=n)(hs:slots av=[i])(hw:e1[i]? =some w)(hm:w.mutL=some c)(hf:f (av.map (u2_ (.l c)))=some (r,ws'))(hp:a1s ws'=some (.l c')):
  a0Z n f as env=some (r,e1.set i (w.put c')):=by
 unfold a0Z;rw[h];show(if av.length=n then _ else none)=_
 rw[Qb hn];simp only[hs];rw[hw];simp only[Qk];rw[W.mutL_of hm];simp only[Qk];rw[hf];simp only[Qk];rw[hp,W.put_eq hm];rfl
theorem a1d{n:Nat}{f:Fn}{as:Mo (List Ar)}{env e1:Env'}{d:D}(h:a0Z n f as env=some (.d d,e1)):mCD n f as env=some (d,e1):=by unfold mCD;rw[h];rfl
theorem a9S{n:Nat}{f:Fn}{as:Mo (List Ar)}{env e1:Env'}{d:List D}(h:a0Z n f as env=some (.l d,e1)):a1a n f as env=some (d,e1):=by unfold a1a;rw[h];rfl
section
variable{X:Cx}{B:OA}{pos:Pos}{e:Expr}{ma:Mo D}
def a1e(m:Mo D):Mo Fl:=fun env=>(m env).map fun p=>(.nx,p.2)
theorem a2O(h:ED X B e ma)(hsw:swapsWith e none pos.line X.env=pure false:=by rfl):ES X B (.Expr e pos) (a1e ma):=by
 refine ps_imp (a8p (te:=TD X.K B ma) h hsw) ?_
 rintro D σ H ⟨G,env,fl,env',rl,e,k⟩;obtain⟨⟨d,env1⟩,e1,e2⟩:=x4_ e;cases e2;exact .bind rl e1 fun v G' H' ev r=>k σ G' H' ev
theorem a2P{m:Mo D}{env e1:Env'}{d:D}(h:m env=some (d,e1)):a1e m env=some (.nx,e1):=by unfold a1e;rw[h];rfl
theorem a9T{N:Nat}{mb:Mo Fl}{ws env:List W}(h:mb (ws++List.replicate (N-ws.length) .nil)=some (.nx,env)):fnM N mb ws=some (.d .non,a0v ws env):=by unfold fnM;rw[h]
end
section
variable{X:Cx}{B:OA}
end
section
variable{X:Cx}{B:OA}{pos:Pos}{a b c e:Expr}{ma mb mc:Mo D}{ms:Mo (List D)}{es:List Expr}
end
section
variable{X:Cx}{B:OA}
theorem a9U:∀{us:List Value}{ns:List Int},IntsAre us ns->∀(i:Nat) (v:Value),us[i]? =some v->∃t,v=.int (ns.getD i 0) t
 |_,_,.nil,i,v,h=>by simp at h
 |_,_,.cons n t r,i,v,h=>by
  cases i with
  |zero=>simp at h;exact⟨t,by simp[←h]⟩
  |succ i=>exact a9U r i v (by simpa using h)
end
theorem b5F:bootBuiltins "sum"=some (.builtin "sum"):=by decide+kernel
section
variable{X:Cx}{B:OA}
theorem b5G{pins:OX}{σ:St}{H:Hp}{s:Shared}{p:Addr}{ns:List Int}{A:Around}{Q:OE}{E:OE}(I:Inv X pins σ H s)(hh:X.A.in1.handled=none)(hq:SqL X.K H p (ns.map V.int)∨SqT X.K H p (ns.map V.int))
  (h:∀(o:Obj) (P:Nat->Value->Prop) (T:Nat->Heap->Prop),Walks X.prog X.w X.A.in1 s.heap.objs.size [s.heap.objs.size,p] [s.heap.objs.size] ns.length P T->T 0 (s.heap.push o)->(∀b∈[s.heap.objs.size,p],b<(s.heap.push o).objs.size)->
   (∀i v,P i v->i<ns.length/\∃t,v=.int (ns.getD i 0) t)->Q (.ref s.heap.objs.size) {s with heap:=s.heap.push o}):wpAny (model X.prog X.w) A (pyIter (.ref p)) Q E s:=by
 have key:∀(its:List Value),IntsAre its ns->∀i v,its.toArray[i]? =some v->i<ns.length/\∃t,v=.int (ns.getD i 0) t:=fun its hi i v hv=>by
  have hv':its[i]? =some v:=by simpa using hv
  refine⟨?_,a9U hi i v hv'⟩;have:=(Qy.mp hv').1;rw[hi.length]at this;exact this
 have low:∀(o:Obj),p<s.heap.objs.size->∀b∈[s.heap.objs.size,p],b<(s.heap.push o).objs.size:=fun o hlt b hb=>by
  have hs:s.heap.objs.size<(s.heap.push o).objs.size:=by rw[Za];exact Nat.lt_succ_self _
  rcases Qr.mp hb with rfl|hb
  ·exact hs
  ·rcases Qr.mp hb with rfl|hb
   ·exact Vp hlt hs
   ·cases hb
 rcases hq with hq|hq
 ·obtain⟨its,r',pl,hz⟩:=I.list hq
  have hi:IntsAre its ns:=a8F r'
  have hl:=pl.isList
  have hlt:p<s.heap.objs.size:=by obtain⟨_,e,_⟩:=hl;exact Qh e
  have W:=Walks.list (prog:=X.prog) (w:=X.w) (A:=X.A.in1) hh s.heap.objs.size p (Zj hlt) its.toArray
  have es:its.toArray.size=ns.length:=by rw[Qn,hi.length]
  rw[es]at W;exact Ua hl (h _ _ _ W ⟨⟨_,Qg _ rfl,rfl,rfl⟩,hl.push _⟩ (low _ hlt) (key its hi))
 ·obtain⟨its,r',pl,hz⟩:=I.tuple hq
  have hi:IntsAre its ns:=a8F r'
  have hl:s.heap.IsTuple p its.toArray:=pl
  have hlt:p<s.heap.objs.size:=by obtain⟨_,e,_⟩:=hl;exact Qh e
  have W:=Walks.tuple (prog:=X.prog) (w:=X.w) (A:=X.A.in1) hh s.heap.objs.size p (Zj hlt) its.toArray
  have es:its.toArray.size=ns.length:=by rw[Qn,hi.length]
  rw[es]at W;exact Vr hl (h _ _ _ W ⟨⟨_,Qg _ rfl,rfl,rfl⟩,hl.push _⟩ (low _ hlt) (key its hi))
def g5_(gt:Bool)(ns:List Int):Int:=ns.getD (argBest (fun i j=>if gt then decide (ns.getD i 0>ns.getD j 0)else decide (ns.getD i 0<ns.getD j 0)) (ns.length-1)) 0
def a9V(X:Cx)(gt:Bool):List V->Hp->VK->Prop:=fun xs H Q=>∃(p:Addr) (ns:List Int),xs=[.ref p]/\(SqL X.K H p (ns.map V.int)∨SqT X.K H p (ns.map V.int))/\0<ns.length/\Q (.int (g5_ gt ns)) H
theorem a6j(hc:X.calm=true):a0t X (.builtin "min") (a9V X false):=by
 intro pins s σ H xs us Q I r h;obtain⟨p,ns,rfl,hq,h0,q⟩:=h;obtain⟨u,rfl,rx⟩:=a3j r;cases rx;have hh:X.A.handled=none:=I.ok.hd hc;refine call_min_walk (b5G I hh hq fun o P T W st low key=>?_)
 refine⟨_,_,_,_,_,_,_,rfl,W,st,low,h0,CmpOf.ints_lt (fun i=>ns.getD i 0) (fun i v hv=>(key i v hv).2),fun v h' tk hP hk=>?_⟩
 obtain⟨_,t,rfl⟩:=key _ v hP;exact⟨.int _,H,I.kept (t':=tk) (LSm.kept_iter hk),⟨t,rfl⟩,q⟩
def g6_(gt:Bool):List D->Option D
 |[.lst ds]=>(ints? ds).bind fun ns=>if ns.isEmpty then none else some (.int (g5_ gt ns))
 |[.tup ds]=>(ints? ds).bind fun ns=>if ns.isEmpty then none else some (.int (g5_ gt ns))
 |_=>none
theorem a6k{gt:Bool}:a0Y X B (a9V X gt) (g6_ gt):=by
 intro G σ env H xs ds c Q rl r e k;unfold g6_ at e;split at e
 ·rename_i ds
  obtain⟨x,rfl,q⟩:=a1n r;obtain⟨ns,e1,e2⟩:=q7_ e;split at e2
  ·cases e2
  ·rename_i h0
   cases e2;simp only[Rep]at q;obtain⟨a,ys,rfl,h1,h2⟩:=q;have:=a2K h2 e1;subst this;exact⟨a,ns,rfl,.inl (rl.sub.sqL h1),by cases ns with|nil=>simp at h0|cons _ _=>simp,k _ G H (.refl rl) (by simp only[Rep])⟩
 ·rename_i ds
  obtain⟨x,rfl,q⟩:=a1n r;obtain⟨ns,e1,e2⟩:=q7_ e;split at e2
  ·cases e2
  ·rename_i h0
   cases e2;simp only[Rep]at q;obtain⟨a,ys,rfl,h1,h2⟩:=q;have:=a2K h2 e1;subst this;exact⟨a,ns,rfl,.inr (rl.sub.sqT h1),by cases ns with|nil=>simp at h0|cons _ _=>simp,k _ G H (.refl rl) (by simp only[Rep])⟩
 ·cases e
end
section
variable{X:Cx}{B:OA}{pos:Pos}{a b c e:Expr}{ms:Mo (List D)}
end
section
variable{X:Cx}{B:OA}{pos:Pos}{c:Expr}{t:Mo Bool}
end
section
variable{X:Cx}{B:OA}{pos:Pos}{e:Expr}{ma:Mo D}{ml:Mo (List D)}
end
section
variable{prog:Program}{w:World}{A:Around}{E:OE}{s:Shared}{c:Bool}
end
section
variable{prog:Program}{w:World}{A:Around}{E:OE}{s:Shared}
end
section
variable{X:Cx}{B:OA}{pos p:Pos}{a:Expr}{ms:Mo (List D)}{elts:List Expr}{kk:Nat}{tp:Pos}
end
def CXE(P:Program)(w:World):CXT:=fun outer H s E ev s'=>
 ∃(e t C:Addr) (H':Hp) (Bh:Heap),ev=.ref e/\s'.os=s.os/\AllBare s'.gens/\Heap.FlyingW Bh outer e (.ref C) (.ref t) s'.heap/\
  Un (frs outer) [] H H' s.heap s'.heap/\HOk P w H' Bh/\(∀b o,s.heap.get? b=some o->H b=none->b∉frs outer->Bh.get? b=some o)/\
  (∀b o,s.heap.get? b=some o->b∉frs outer->∃o',Bh.get? b=some o')/\E (.ref C) none H'
section
variable{X:Cx}{pins:OX}{σ:St}{H H':Hp}{s s':Shared}{E:XK}{e t C:Addr}{Bh:Heap}
structure XOk(X:Cx)(E:XK):Prop where
 pass:a3k (CXE X.prog X.w) X E
 made:∀(pins:OX) (σ:St) (H:Hp) (s:Shared) (h':Heap) (e C:Addr) (vs:List Value),Inv X pins σ H s->Heap.MadeExcOf s.heap h' e (.ref C) vs->E (.ref C) none H->X.xe (.ref e) {s with heap:=h'}
end
def vmro:List Value:=[.type "ValueError",.type "Exception",.type "BaseException",.type "object"]
def a9W(K:Qq)(n:Str):Bool:=match PySem.W.nsIn K mainGlobals n with
 |some (some (.ref C))=>PySem.W.excIn K C vmro "ValueError.__new__"
 |_=>false
abbrev Mx:=Env'->Option Str
section
variable(K:Qq)(B:OA)(E:XK)
end
section
variable{X:Cx}{B:OA}{E:XK}{pos p:Pos}{e:Expr}{es:List Expr}{st:Stmt}{rest:List Stmt}{x1 x2:Mx}{s1:Mo Fl}{ma:Mo D}
def SpX(K:Qq)(n:Nat)(g:List W->Option Str):Sp:=fun vs H _ E=>∃G ws c C,ws.length=n/\a3u ws/\Rel K a0a G (vs.map some) ws H/\g ws=some c/\PySem.W.nsIn K mainGlobals c=some (some (.ref C))/\
 ∀G' ws' H',Ev K a0a G (vs.map some) ws H G' (vs.map some) ws' H'->E (.ref C) none H'
structure DefX(P:Program)(w:World)(K:Qq)(mg:OU)(base:Heap)(x:Str)(k n:Nat)(g:List W->Option Str):Prop where
 ex:∃(f:Addr) (fd:FuncData) (ps:List Str),FnOk P w K mg base (CXE P w) k f fd ps (SpX K n g)/\ps.length=n/\mg x=some (.ref f)/\PySem.W.keepIn K (.ref f)=true/\a0u K fd ps []
end
open PySem.W Builtin Builtin.ObjectAttr Builtin.Getset_descriptor PySem.Calls
section
variable{prog:Program}{w:World}{A:Around}{E:OE}{K:Frag}{x C:Addr}{h:Heap}{g:Array GenState}{d:Drawn}{t:Nat}{os:OsState}
end
def b5H:List String:=["tuple","list","int","bool","str"]
def a9X(K:Frag)(C:Addr):Bool:=
 (mroIn K C (.type "BaseException")==some true)&&((mroIn K C (.type "object")==some true)&&((findIn K (.ref C) "__class__"==some (some (.builtin "object.__class__")))&&((specialIn K (.builtin "object.__class__") "__get__"==some (some (.builtin "getset_descriptor.__get__")))&&
 ((takesIn K (.builtin "object.__class__")==some true)&&((findIn K (.ref C) "__getattribute__"==some (some (.builtin "BaseException.__getattribute__")))&&((findIn K (.ref C) "__getattr__"==some none)&&((clsIn K C).isSome&&((kitOne K (.ref C) (.type "ValueError")==some true)&&b5H.all fun T=>kitOne K (.ref C) (.type T)==some false))))))))
structure ExcF(K:Frag)(S:Str)(names:List Str)(n:Str)(C:Addr):Prop where
 nm:nsIn K mainGlobals n=some (some (.ref C))
 one:a9W K n=true
 kit:a9X K C=true
 sub:∃D,nsIn K mainGlobals S=some (some (.ref D))/\mroIn K C (.ref D)=some true/\a9W K S=true/\a9X K D=true
 pair:∀m∈names,∃D,nsIn K mainGlobals m=some (some (.ref D))/\kitOne K (.ref C) (.ref D)=some (n==m)
section
variable{X:Cx}{B:OA}{pos p p2:Pos}{a:Expr}{ma:Mo D}{S m:Str}{names:List Str}
end
end L2.Mir
namespace L2.Mir
open PySem PySem.Spec PyProof.Rows PySem.W
section
variable{X:Cx}{pins:OX}{σ σ':St}{H:Hp}{s:Shared}{e:Addr}{φ:Heap->Prop}
end
section
variable{M:Model}{A:Around}{E:OE}{K:Frag}{e C Dd:Addr}{h:Heap}{g:Array GenState}{d:Drawn}{t:Nat}{os:OsState}
end
def b5I(a:Addr)(h:Heap):Prop:=∃o fd,h.get? a=some o/\o.data=.func fd
section
variable{X:Cx}{B:OA}{S n x y:Str}{names:List Str}{i0 i j:Nat}{fl:Addr}{o:Option Str}{G₀:Hp}{cp cpos epos sp yp np apos hpos tpos:Pos}
end
section
variable{X:Cx}{B:OA}{S n x y:Str}{names:List Str}{i0 i j:Nat}{fl:Addr}{o:Option Str}{G₀:Hp}{cp cpos epos sp yp np apos hpos tpos yp0 spos0 npos0:Pos}{rest:List Stmt}{m:Mo Fl}{kk:Nat}
end
section
variable{P:Program}{w:World}{K:Frag}{mg:OU}{base:Heap}{N':List Str}{q:Str}{scope:Scope}{fl:Addr}{cd:Value}{cl:List (Str×Addr)}{A:Around}{outer:List Env}{s:Shared}{H:Hp}{E:XK}{σ:St}
end
structure LamAt(K:Frag)(params:Arguments)(body:Expr)(scope:Scope)(N':List Str)(lq:Str)(fl c':Addr)(cl:List (Str×Addr))(σ:St)(s₁:Shared)(H₁:Hp)(outer₁:List Env):Prop where
 obj:∃pm ctv,s₁.heap.get? fl=some (kla_obj "<lambda>" lq params body scope cl pm c' ctv)
 free:H₁ fl=none
 nfr:fl∉frs outer₁
 code:∃φ,H₁ c'=some (.ext φ)/\∀h:Heap,φ h->h.CodeRec (.ref c') lq
 inj:∀x y c,cl.lookup x=some c->cl.lookup y=some c->x=y
 has:∀x,scope.names.lookup x=some .free->∃c,cl.lookup x=some c
 cell:∀x c,cl.lookup x=some c->(∃v,s₁.heap.IsCell c v)/\H₁ c=none/\c∉frs outer₁
 val:∀(i:Nat) (x:Str) (v:V),N'[i]? =some x->σ[i]? =some (some v)->Vis scope x->scope.names.lookup x=some .free/\∃c u,cl.lookup x=some c/\v2_ v u/\s₁.heap.IsCell c (some u)
 len:σ.length=N'.length
def b5J(P:Program)(w:World)(K:Frag)(mg:OU)(base:Heap)(kc:Nat)(fl:Addr)(s₁:Shared)(H₁:Hp)(outer₁:List Env)(o:Option Str)(G:Hp):Prop:=
 (∀(H':Hp) (s:Shared),Un (frs outer₁) [] H₁ H' s₁.heap s.heap->b5I fl s.heap)/\
 ∀(A:Around) (outer:List Env) (s:Shared) (Q:VK) (E:XK),Room kc A->Env0 P w K mg base A outer s H₁->Un (frs outer₁) [] H₁ H₁ s₁.heap s.heap->
  (o=none->∀v G' H',Ev K a0a G [] [] H₁ G' [] [] H'->Q v H')->
  (∀n C,o=some n->nsIn K mainGlobals n=some (some (.ref C))->∀G' H',Ev K a0a G [] [] H₁ G' [] [] H'->E (.ref C) none H')->
  codeAny (model P w) A (.call (.ref fl) ⟨[],[]⟩) (CR (CXE P w) outer P w H₁ s Q E) s
def b5K(mg:OU)(base:Heap):Prop:=∃bm o,mg "__builtins__"=some (.ref bm)/\bm≠builtinsNs/\bm≠mainGlobals/\base.get? bm=some o/\o.cls=.type "module"/\o.dict=some builtinsNs/\o.data=.plain
section
variable{X:Cx}{pins:OX}{σ:St}{H:Hp}{s:Shared}{P c:Addr}{ps:Array Value}{qual:Str}{scope:Scope}{cl:List (Str×Addr)}{params:Arguments}{body:Expr}{pos:Pos}
structure Made(X:Cx)(pins:OX)(σ:St)(H:Hp)(s:Shared)(P:Addr)(qual:Str)(params:Arguments)(body:Expr)(scope:Scope)(cl:List (Str×Addr))(fl c':Addr)(H1:Hp)(s1:Shared):Prop where
 inv:Inv X pins σ H1 s1
 ev:∀(B:OA) (G:Hp) (env:Env'),Rel X.K B G σ env H->Ev X.K B G σ env H G σ env H1
 obj:∃pm ctv,s1.heap.get? fl=some (kla_obj "<lambda>" (lamQ qual) params body scope cl pm c' ctv)
 new:s.heap.objs.size≤fl
 free:H1 fl=none
 code:H1 c'=some (LamC X.K P c')
 keep:∀b o,H b=none->s.heap.get? b=some o->s1.heap.get? b=some o/\H1 b=none
end
structure RefDef(P:Program)(w:World)(K:Frag)(mg:OU)(base:Heap)(x:Str)(k kc:Nat)(fr:Option Str->Option D):Prop where
 ex:∃f:Addr,mg x=some (.ref f)/\keepIn K (.ref f)=true/\∀(A:Around) (outer:List Env) (s:Shared) (H:Hp) (fl:Addr) (o:Option Str) (G:Hp) (Q:VK),Room k A->Env0 P w K mg base A outer s H->b5J P w K mg base kc fl s H outer o G->Rel K a0a G [] [] H->
  (∃d,fr o=some d/\∀v G' H',Ev K a0a G [] [] H G' [] [] H'->Rep K G' v d->Q v H')->codeAny (model P w) A (.call (.ref f) ⟨[.ref fl],[]⟩) (CR CX0 outer P w H s Q E0) s
structure TabF(K:Frag)(mg:OU)(base:Heap)(cd:Value)(qual:Str)(P:Addr):Prop where
 ex:∃c,cd=.ref c/\codeHdIn K c P=true/\codeIn K (.ref c) qual=true
 tq:tabQ K P qual=true
 bm:b5K mg base
section
variable{X:Cx}{B:OA}{x S qual:Str}{names:List Str}{k kc:Nat}{fr:Option Str->Option D}{P:Addr}{N':List Str}{scope:Scope}{keep:List Bool}{params:Arguments}{body:Expr}{mb:Mo D}{xb:Mx}{p lpos pos:Pos}{ps0:Array Value}
end
def b5L(ts:List Addr)(H:Hp):Prop:=∀P∈ts,∃ps,H P=some (.tbl ps)
def SpT(K:Frag)(ts:List Addr)(n:Nat)(f:Fn):Sp:=fun vs H Q E=>b5L ts H/\SpF K n f vs H Q E
end L2.Mir
namespace L2.Mir
open PySem PySem.Spec PyProof.Rows PySem.W
section
variable{X:Cx}{B:OA}{pos:Pos}{o e:Expr}{ma mb:Mo D}
end
open AutoSeq1 (wpAny_loadPart')
section
variable{prog:Program}{w:World}{A:Around}{E:OE}{s:Shared}
end
section
variable{X:Cx}{B:OA}{pos:Pos}{a b c e:Expr}{ms:Mo (List D)}
end
section
variable{X:Cx}{B:OA}{pos:Pos}
end
section
variable{prog:Program}{w:World}{A:Around}{R:Result->Shared->Prop}{s:Shared}
end
abbrev a9Y:=St->Hp->(St->Hp->Prop)->Prop
section
variable{X:Cx}{elt:Expr}{gens:List Comprehension}{scope:Scope}{pos:Pos}{d:Nat}
end
section
variable{X:Cx}{N':List Str}{scope:Scope}{keep:List Bool}{more:Nat}{tg iter elt:Expr}{ifs:List Expr}{gs:List Comprehension}{g:TG}{tt:TT}{act:Addr->a9Y}{pos:Pos}
end
section
variable{K:Qq}{B:OA}{n:Nat}
end
section
variable{X:Cx}{B:OA}{N':List Str}{scope scope0:Scope}{keep:List Bool}{more n d:Nat}{tg iter elt:Expr}{ifs:List Expr}{gens gs:List Comprehension}{g:OZ}{t:Mo Bool}{m:Mo D}{mi:Mo (List D)}{a:Mo (List D)}{pos:Pos}{s:Shared}{H:Hp}{fp:List Addr}{p:Addr}
end
section
variable{X:Cx}{B:OA}{pos:Pos}{o e:Expr}{ma mb:Mo D}
end
section
variable{X:Cx}{B:OA}{pos:Pos}
end
section
variable{prog:Program}{w:World}{A:Around}{E:OE}{s:Shared}{c1 c2:Bool}
end
section
variable{X:Cx}{pins:OX}{σ:St}{A:Around}{R:Result->Shared->Prop}{c1 c2:Bool}{n l1 l2 S:Addr}{xs ys:List V}
end
section
variable{X:Cx}{B:OA}{pos:Pos}{a b:Expr}{ms:Mo (List D)}
end
section
variable{X:Cx}{B:OA}
end
section
variable{prog:Program}{w:World}{A:Around}{E:OE}{s:Shared}
end
section
variable{X:Cx}{B:OA}{pos:Pos}{es:List Expr}{gs:List D->Env'->Option Env'}
end
def lkD:OI->List D->List Int->Option D
 |k'::ks,v::vs,k=>if k'=k then some v else lkD ks vs k
 |_,_,_=>none
def reD:OI->List D->List Int->D->List D
 |k'::ks,v::vs,k,d=>if k'=k then d::reD ks vs k d else v::reD ks vs k d
 |_,vs,_,_=>vs
def a2g:D->Option (List Int)
 |.tup ds=>ints? ds
 |_=>none
section
variable{K:Qq}{G:Hp}
theorem a6l:∀ns:List Int,(x0_ ns).map kV=ns.map V.int
 |[]=>rfl
 |n::ns=>by show V.int n::(x0_ ns).map kV=_;rw[a6l ns];rfl
theorem a6m:∀{a b:List Int},x0_ a=x0_ b->a=b
 |[],[],_=>rfl
 |[],_::_,e=>by simp[x0_]at e
 |_::_,[],e=>by simp[x0_]at e
 |x::a,y::b,e=>by
  simp only[x0_,Qm,Vb,Sum.inl.injEq]at e;rw[e.1,a6m e.2]
def a2h(K:Qq)(H:Hp)(b:Addr)(k:List Int):Prop:=H b=some (.tup ((x0_ k).map kV))∨w3_ K b (x0_ k)
theorem a2h.mono{H H':Hp}{b:Addr}{k:List Int}(l:Le H H')(h:a2h K H b k):a2h K H' b k:=h.imp (fun e=>l _ _ e) id
theorem a6n{v:V}{d:D}{k:List Int}(r:Rep K G v d)(h:a2g d=some k):∃b,v=.ref b/\a2h K G b k:=by
 cases d<;>first|(exact absurd (show(none:Option (List Int))=some k from h) (by simp))|skip
 rename_i ds;simp only[Rep]at r;obtain⟨a,xs,rfl,q,t⟩:=r;have hx:=a2K t (show ints? ds=some k from h)
 subst hx;refine⟨a,rfl,?_⟩
 rcases q with q|q
 ·exact .inl (by rw[a6l];exact q)
 ·exact .inr (.inr (by rw[a6l];exact q))
theorem a6o{P:Program}{w:World}{H:Hp}{h:Heap}{b:Addr}{k:List Key}(ok:HOk P w H h)(kin:K.In h)(e:H b=some (.tup (k.map kV))∨w3_ K b k):(tupleKind (k5_ P w)).is h k b:=by
 rcases e with e|e
 ·exact b3U ok e
 ·rcases e with e|⟨o,its,n,h1,h2,_,h3,_,h4⟩
  ·cases e
  ·exact⟨o,its,n,kin b o h1,h2,h3,a5F h4⟩
end
section
variable{X:Cx}{pins:OX}{σ:St}{H:Hp}{s:Shared}{a b:Addr}{A:Around}{E:OE}{kvs:List (List Key×V)}
theorem a3D(I:Inv X pins σ H s)(e:H a=some (.dT (w3_ X.K) kvs)):kvs.length≤sizeLine/\(a==sysModules)=false/\∃xs,KT (w3_ X.K) H kvs xs/\s.heap.DictOfH (tupleKind (k5_ X.prog X.w)) a xs:=by
 obtain⟨z,y,xs,r,o,es,ep,h1,h2,h3,h4,h5⟩:=(show k0_ X.prog X.w H s.heap a (.dT (w3_ X.K) kvs)from I.hok a _ e)
 refine⟨z,y,xs,r,o,es,ep,h1,h2,h3,h4,fun x hx=>?_,h5⟩
 have all:∀{l:List (List Key×V)}{m:List (List Key×Addr×Value)},KT (w3_ X.K) H l m->∀x∈m,(tupleKind (k5_ X.prog X.w)).is s.heap x.1 x.2.1:=by
  intro l m q
  induction q with
  |nil=>intro x hx;exact nomatch hx
  |@cons p q ps qs hq t ih=>
   intro x hx
   rcases Qr.mp hx with e|hx
   ·subst e
    exact a6o (K:=X.K) I.hok I.kIn (by rw[←hq.1];exact hq.2.1)
   ·exact ih x hx
 exact all r x hx
theorem b5M{k:List Key}{v:V}{r:Value}{Q:Unit->Shared->Prop}(hu:A.units+1<cLine)(I:Inv X pins σ H s)(e:H a=some (.dT (w3_ X.K) kvs))(eb:H b=some (.tup (k.map kV))∨w3_ X.K b k)(l:kvs.length<sizeLine)(rv:v2_ v r)
  (h:∀s',Inv X pins σ (upd H a (.dT (w3_ X.K) (a0L kvs k v))) s'->Q () s'):wpAny (model X.prog X.w) A (setItem (.ref a) (.ref b) r) Q E s:=by
 obtain⟨z,hd,xs,rel,dd⟩:=a3D I e;have hz:xs.length≤sizeLine:=by rw[←Paired.length rel];exact z
 have hl:(a0L kvs k v).length≤sizeLine:=by have:=b3T kvs k v;omega
 refine wpAny_setItem_heap (hsz:=hz) (tupleKind_room_in1 hu) (a6o (K:=X.K) I.hok I.kIn eb) dd fun h' dd' hs=>h _ ?_
 obtain⟨q,es,ep,hq,h2,h3,h4,_,h5⟩:=dd';refine b3V I (by rw[e];exact True.intro) hs ⟨q,hq⟩ ⟨hl,hd,_,(rel.put k eb rv).keeps fun c ys ec=>?_,q,es,ep,hq,h2,h3,h4,h5⟩
 rw[v4_ (a5g ec e (fun z=>nomatch z))]
 exact ec
theorem a6p(I:Inv X pins σ H s)(e:H a=some (.dT (w3_ X.K) kvs)):s.TypeIs (.ref a) "dict":=by
 obtain⟨_,_,xs,_,dd⟩:=a3D I e;exact dd.typeIs
end
section
variable{K:Qq}{G:Hp}
theorem a3E:∀{kvs:List (List Key×V)}{ks:OI}{vs:List D}(k:List Int),kvs.map (·.1)=ks.map x0_->z7_ K G (kvs.map (·.2)) vs->
  (∀d,lkD ks vs k=some d->∃v,a0m kvs (x0_ k)=some v/\Rep K G v d)/\((a0m kvs (x0_ k)).isSome=ks.contains k)
 |[],[],vs,k,_,r=>⟨fun d h=>by simp[lkD]at h,rfl⟩
 |[],_::_,_,_,e,_=>by simp at e
 |_::_,[],_,_,e,_=>by simp at e
 |p::kvs,k'::ks,[],k,e,r=>by have:=r.length;simp at this
 |p::kvs,k'::ks,d'::vs,k,e,r=>by
  simp only[Qm,Vb]at e;obtain⟨e1,e2⟩:=e;rw[Qm]at r;simp only[z7_]at r;obtain⟨x,t,z,r1,r2⟩:=r;cases z;obtain⟨h1,h2⟩:=a3E (ks:=ks) (vs:=vs) k e2 r2
  by_cases hk:k'=k
  ·subst hk
   refine⟨fun d h=>?_,?_⟩
   ·simp only[lkD,Zs,Zf]at h
    subst h;exact⟨p.2,a4l e1,r1⟩
   ·rw[a4l e1];simp
  ·have ne:¬ p.1=x0_ k:=fun z=>hk (a6m (e1.symm.trans z))
   refine⟨fun d h=>?_,?_⟩
   ·simp only[lkD,Qw hk]at h
    obtain⟨v,q1,q2⟩:=h1 d h;exact⟨v,by rw[a4m ne];exact q1,q2⟩
   ·have hb:(k==k')=false:=by simpa using fun z=>hk (Eq.symm z)
    rw[a4m ne,h2,Zd,hb,Vt]
theorem a9Z:∀{kvs:List (List Key×V)}{ks:OI}{vs:List D}(k:List Int) {v:V}{d:D},kvs.map (·.1)=ks.map x0_->z7_ K G (kvs.map (·.2)) vs->Rep K G v d->
  (kvs.map fun kv=>if kv.1=x0_ k then(kv.1,v)else kv).map (·.1)=ks.map x0_/\z7_ K G ((kvs.map fun kv=>if kv.1=x0_ k then(kv.1,v)else kv).map (·.2)) (reD ks vs k d)
 |[],[],vs,k,v,d,_,r,_=>⟨rfl,by simpa [reD]using r⟩
 |[],_::_,_,_,_,_,e,_,_=>by simp at e
 |_::_,[],_,_,_,_,e,_,_=>by simp at e
 |p::kvs,k'::ks,[],k,v,d,e,r,_=>by have:=r.length;simp at this
 |p::kvs,k'::ks,d'::vs,k,v,d,e,r,rd=>by
  simp only[Qm,Vb]at e;obtain⟨e1,e2⟩:=e;rw[Qm]at r;simp only[z7_]at r;obtain⟨x,t,z,r1,r2⟩:=r;cases z;obtain⟨h1,h2⟩:=a9Z (ks:=ks) (vs:=vs) k e2 r2 rd
  by_cases hk:k'=k
  ·subst hk
   simp only[Qm,Qb e1,reD,Zs];exact⟨by rw[e1,h1],repL_cons rd h2⟩
  ·have ne:¬ p.1=x0_ k:=fun z=>hk (a6m (e1.symm.trans z))
   simp only[Qm,Qw ne,reD,Qw hk];exact⟨by rw[e1,h1],repL_cons r1 h2⟩
def a0x(ks:OI)(k:List Int):OI:=if ks.contains k then ks else ks++[k]
def a0G(ks:OI)(vs:List D)(k:List Int)(d:D):List D:=if ks.contains k then reD ks vs k d else vs++[d]
theorem b5N{kvs:List (List Key×V)}{ks:OI}{vs:List D}(k:List Int){v:V}{d:D}(e:kvs.map (·.1)=ks.map x0_)(r:z7_ K G (kvs.map (·.2)) vs)(rd:Rep K G v d):
  (a0L kvs (x0_ k) v).map (·.1)=(a0x ks k).map x0_/\z7_ K G ((a0L kvs (x0_ k) v).map (·.2)) (a0G ks vs k d):=by
 have h:=(a3E (K:=K) (G:=G) k e r).2
 unfold a0L a0x a0G;rw[a5E,h];cases ks.contains k with
 |true=>simp only[Zs];exact a9Z k e r rd
 |false=>
  simp only[Zx,Yx,Zm,Qm,Jt];exact⟨by rw[e],r.append (repL_cons rd repL_nil)⟩
end
theorem b5O{P:Program}{w:World}{H:Hp}{C:Addr->List Key->Prop}(h:Heap)(hb:sysModules<h.objs.size):k0_ P w H (h.push {cls:=.type "dict",data:=.dict #[]}) h.objs.size (.dT C []):=
 ⟨Xw _,Uz.mpr (Zh (Zj hb)),[],.nil,_,#[],0,Qg _ rfl,⟨rfl,rfl,rfl⟩,rfl,rfl,List.nodup_nil⟩
def b5P(C:Addr->List Key->Prop):TE:=fun _ H Q=>∀p,H p=none->Q (.ref p) (upd H p (.dT C []))
section
variable{X:Cx}{B:OA}{pos:Pos}{a b e:Expr}{ma mb:Mo D}
theorem b5Q{C:Addr->List Key->Prop}:PE X (.Dict [] [] pos) (b5P C):=fun pins s σ H Q I h=>
 wpAny_Dict_empty ⟨.ref s.heap.objs.size,_,I.laid (a:=s.heap.objs.size) (o:=.dT C []) (t':=s.toks) (fun _ _ q=>Qx _ q) (Qu _) (b5O s.heap I.big),rfl,h _ (I.hok.fresh (Qu _))⟩
def b0a(i:Nat):Mo Fl:=fun env=>some (.nx,env.set i (.ownD [] []))
theorem b5R{i:Nat}{x:Str}{pos' dpos:Pos}(hN:X.N.Nodup)(hi:X.N[i]? =some x)(hx:Loc X.env.scope x)(hs:swapsWith (.Dict [] [] dpos) (some (.Name x pos')) pos.line X.env=pure false:=by rfl)(hf:X.fn x=true∨X.env.scope.names.lookup x=some .local:=by first|exact .inl rfl|exact .inr rfl|assumption):
  ES X B (.Assign [.Name x pos'] (.Dict [] [] dpos) pos) (b0a i):=by
 refine ps_imp (a5m hN hi hx (b5Q (C:=w3_ X.K)) hs hf) ?_
 rintro D σ H ⟨G,env,fl,env',rl,e,k⟩;cases e;intro p hp;have ev:=rl.allocM (o:=.dT (w3_ X.K) []) hp;exact k _ _ _ (ev.setOwnM (m:=.d [] []) (fun z=>rl.old p z hp) hp (rl.unowned hp) x3_ (rl.gnone hp) ⟨[],rfl,rfl,repL_nil⟩ rfl rfl)
def b5S(K:Qq):a4g:=fun o i v H Q=>∃a b kvs k,o=.ref a/\i=.ref b/\H a=some (.dT (w3_ K) kvs)/\a2h K H b k/\kvs.length<sizeLine/\Q (upd H a (.dT (w3_ K) (a0L kvs (x0_ k) v)))
theorem b5T(hu:X.A.units+64<cLine):a5j X (b5S X.K):=by
 intro pins s σ H o i v ov iv u Q I ro ri rv h;obtain⟨a,b,kvs,k,rfl,rfl,e,kb,hl,q⟩:=h;cases ro;cases ri;exact b5M (by omega) I e kb hl rv fun s' I'=>⟨_,I',q⟩
def gSD(s:Nat)(mi:Mo D):OZ:=fun d env=>((env[s]?).bind W.mutD).bind fun _=>(mi env).bind fun p=>(p.2[s]?).bind fun w=>w.mutD.bind fun q=>(a2g p.1).bind fun k=>
 if q.1.length<100000 then some (p.2.set s (w.putM (.d (a0x q.1 k) (a0G q.1 q.2 k d))))else none
theorem b5U{n s:Nat}{x:Str}{p:Pos}(hu:X.A.units+64<cLine)(ho:PE X (.Name x p) (a0f s))(hi:ED X B b mb)
  (ha:∀v,assign (.Subscript (.Name x p) b pos) X.env v=(do
   let ov←holding [v] (eval (.Name x p) X.env)
   let iv←holding [v,ov] (eval b X.env)
   standAt pos
   holding [v,ov,iv] (setItem ov iv v)
   release [v,ov,iv] []):=by intro _;rfl):EG X B n (.Subscript (.Name x p) b pos) (gSD s mb):=by
 refine a4x (a8r ho hi (b5T hu) ha) ?_
 rintro v σ H Q ⟨G,env,d,env',rl,r,e,k⟩;obtain⟨⟨ks0,vs0⟩,e0,e⟩:=q7_ e;obtain⟨w0,e00,em0⟩:=q7_ e0;obtain⟨⟨d1,env1⟩,e1,e2⟩:=q7_ e;obtain⟨w,e3,e4⟩:=q7_ e2;obtain⟨⟨ks,vs⟩,e5,e6⟩:=q7_ e4;obtain⟨key,e7,e8⟩:=q7_ e6;dsimp only at e8 e3;split at e8
 case isFalse=>cases e8
 rename_i hl;cases e8;obtain⟨q,kvs0,h1,_⟩:=rl.ownD s w0 ks0 vs0 e00 em0;refine⟨_,h1,.bind rl e1 fun iv G1 H1 ev r1=>?_⟩
 obtain⟨q',kvs,g1,g2,g3,g4,g5⟩:=ev.rel.ownD s w ks vs e3 e5;rw[h1]at g1;cases g1;obtain⟨b',rfl,kb⟩:=a6n r1 e7;obtain⟨p1,p2⟩:=b5N (K:=X.K) (G:=G1) key g3 g4 (Rep.mono ev.same _ r);have hz:kvs.length<sizeLine:=by
  have:=Yh List.length g3;rw[Qv,Qv]at this;rw[this];exact Vp hl (by decide)
 exact⟨q,b',kvs,key,rfl,rfl,g2,kb.mono ev.rel.sub,hz,k _ G1 _ (ev.writeM e3 (W.mutD_of e5) h1 ⟨_,rfl,p1,p2⟩) fun _ _=>rfl⟩
end
section
variable{X:Cx}{B:OA}{pos p:Pos}{e:Expr}{es:List Expr}{ma:Mo D}{ms:Mo (List D)}
end
section
variable{K:Qq}{B:OA}{G G1 G2:Hp}{σ:St}{env env1:Env'}{H H1 H2:Hp}{vs:List V}{ds:List D}{a:Addr}
end
section
variable{X:Cx}{B:OA}{pos p:Pos}{e:Expr}{es:List Expr}{ms:Mo (List D)}{fn:Fn}{k n:Nat}{x:Str}
end
end L2.Mir
namespace L2.Mir
open PySem PySem.Spec PyProof.Rows
section
variable{X:Cx}{B:OA}{pos p:Pos}{e:Expr}{vs:List Expr}{ma:Mo D}{ms:Mo (List D)}
end
section
variable{X:Cx}{N':List Str}{scope:Scope}{keep:List Bool}{more:Nat}{tg iter elt:Expr}{ifs:List Expr}{gs:List Comprehension}{g:TG}{tt:TT}{act:Addr->a9Y}{pos:Pos}
end
section
variable{X:Cx}{B:OA}{N':List Str}{scope scope0:Scope}{keep:List Bool}{more n d:Nat}{tg iter elt:Expr}{ifs:List Expr}{gens gs:List Comprehension}{g:OZ}{t:Mo Bool}{m:Mo D}{mi:Mo (List D)}{a:Mo (List D)}{pos:Pos}{s:Shared}{H:Hp}{fp:List Addr}{p:Addr}
end
inductive NamesAt (X:Cx):List Expr->List Nat->Prop
 |nil:NamesAt X [] []
 |cons {x:Str}{p:Pos}{i:Nat}{es:List Expr}{is:List Nat}:PE X (.Name x p) (a0f i)->NamesAt X es is->NamesAt X (.Name x p::es) (i::is)
section
variable{K:Qq}{B:OA}{G:Hp}{σ:St}{env:Env'}{H:Hp}
open Classical in
end
section
variable{X:Cx}{B:OA}{pos p:Pos}{e:Expr}{es:List Expr}{is:List Nat}{fn:Fn}{k n:Nat}{x:Str}
end
end L2.Mir
namespace L2.Mir
open PySem PyProof PyProof.Rows L2
variable{X:Cx}{B:OA}
inductive RowsAre (h:Heap):List Value->OI->Prop
 |nil:RowsAre h [] []
 |cons {a:Addr}{its:Array Value}{k:List Int}{vs:List Value}{ks:OI}(t:IsTup h a its) (i:IntsAre its.toList k) (r:RowsAre h vs ks):RowsAre h (.ref a::vs) (k::ks)
theorem a3F:∀ns:List Int,PyData.canLayAll0 (ns.map PyData.int)=true
 |[]=>rfl
 |n::ns=>by simp[PyData.canLayAll0,PyData.canLay0,a3F ns]
section
open PySem.SeqAt
open PySem.AutoSeq1 (wpAny_loadPart')
open PySem.MeetsSeq PySem.MeetsSeq2 PySem.MeetsSeq3
end
section
variable{prog:Program}{w:World}{A:Around}{E:OE}{s:Shared}
end
section
variable{X:Cx}{B:OA}{pins:OX}{σ:St}{G H:Hp}{s:Shared}
end
section
variable{X:Cx}{B:OA}{e st:Expr}{ma:Mo D}{pos p2:Pos}
end
section
variable{prog:Program}{w:World}{A:Around}{E:OE}{s:Shared}
variable{h₀:Heap}{L kS D:Addr}{m:OU}{news0:OX}{e1:Nat}{Fin:List Value->Nat->Shared->Prop}
end
section
variable{X:Cx}{pins:OX}{σ:St}{H:Hp}{s:Shared}
end
section
variable{X:Cx}{B:OA}{e:Expr}{ma:Mo D}{p p1 kp1 kp2 pos:Pos}{j:Nat}{p2:Pos}
end
section
open PySem.SeqAt
open PySem.AutoSeq1 (wpAny_loadPart')
open PySem.MeetsSeq PySem.MeetsSeq2 PySem.MeetsSeq3
end
section
variable{X:Cx}{B:OA}{pos:Pos}{o e:Expr}{ma mb:Mo D}
end
abbrev Ro:=Option (OI)
abbrev MoN(α:Type):=Env'->Ro->Option (α×Env'×Ro)
def b5V(H0 G:Hp)(σ:St)(env:Env')(H:Hp)(bs:List Addr)(rows:OI):Prop:=
 Paired (fun b row=>H b=some (.lst (row.map V.int))) bs rows/\∀b∈bs,H0 b=none/\G b=none/\ ¬ Owned σ env b
def Nst(H0 G:Hp)(σ:St)(env:Env')(H:Hp)(r:Nat)(rows:OI):Prop:=
 ∃a bs,σ[r]? =some (some (V.ref a))/\H a=some (.lst (bs.map V.ref))/\(a::bs).Nodup/\b5V H0 G σ env H bs rows/\H0 a=none/\G a=none/\ ¬ Owned σ env a
def NO(H0 G:Hp)(σ:St)(env:Env')(H:Hp)(r:Nat):Ro->Prop
 |none=>True
 |some rows=>Nst H0 G σ env H r rows
section
variable{K:Qq}{B:OA}{H0 G G':Hp}{σ σ':St}{env env':Env'}{H H':Hp}{r:Nat}
end
section
variable(K:Qq)(B:OA)(r:Nat)
def b5W(G0:Hp)(σ0:St)(env0:Env')(H0 G:Hp)(env':Env')(q':Ro)(D:Ends):Fl->Prop
 |.nx=>∀σ' G' H',Ev K B G0 σ0 env0 H0 G' σ' env' H'->Le G G'->env'[r]? =some .nil->NO H0 G' σ' env' H' r q'->D.nx σ' H'
 |fl=>Post K B G0 σ0 env0 H0 env' D fl
def TN(m:MoN Fl):TS:=fun D σ H=>∃G0 σ0 env0 H0 G env q fl env' q',Ev K B G0 σ0 env0 H0 G σ env H/\env[r]? =some .nil/\NO H0 G σ env H r q/\m env q=some (fl,env',q')/\b5W K B r G0 σ0 env0 H0 G env' q' D fl
end
section
variable{X:Cx}{B:OA}{r:Nat}{e a b:Expr}{pos:Pos}{st:Stmt}{rest:List Stmt}
end
section
variable{X:Cx}{B:OA}{r:Nat}{e a b tg:Expr}{pos:Pos}{st:Stmt}{rest:List Stmt}
end
mutual
def D.lf:D->Bool
 |.non=>true
 |.bl _=>true
 |.int _=>true
 |.str _=>true
 |.tup ds=>lfL ds
 |_=>false
def lfL:List D->Bool
 |[]=>true
 |d::ds=>d.lf&&lfL ds
end
section
variable{K:Qq}{G G':Hp}
mutual
theorem rep_lf(h:∀b xs,G b=some (.tup xs)->G' b=some (.tup xs)):∀(d:D) {v:V},d.lf=true->Rep K G v d->Rep K G' v d
 |.non,v,_,r=>by simpa only[Rep]using r
 |.bl b,v,_,r=>by simpa only[Rep]using r
 |.int i,v,_,r=>by simpa only[Rep]using r
 |.str x,v,_,r=>by simpa only[Rep]using r
 |.tup ds,v,l,r=>by
  simp only[Rep]at r ⊢;obtain⟨a,xs,e,q,t⟩:=r;exact⟨a,xs,e,q.imp (fun e=>h _ _ e) id,repL_lf h ds (by simpa only[D.lf]using l) t⟩
 |.lst ds,v,l,r=>by simp[D.lf]at l
 |.emp,v,l,r=>by simp[D.lf]at l
 |.obj o,v,l,r=>by simp[D.lf]at l
 |.dct _ _,v,l,r=>by simp[D.lf]at l
theorem repL_lf(h:∀b xs,G b=some (.tup xs)->G' b=some (.tup xs)):∀(ds:List D) {xs:List V},lfL ds=true->z7_ K G xs ds->z7_ K G' xs ds
 |[],_,_,r=>by simpa only[z7_]using r
 |d::ds,_,l,r=>by
  simp only[z7_]at r ⊢;obtain⟨x,t,e,q,u⟩:=r;have l':d.lf=true/\lfL ds=true:=by simpa only[lfL,Qp]using l
  exact⟨x,t,e,rep_lf h d l'.1 q,repL_lf h ds l'.2 u⟩
end
end
section
variable{K:Qq}{B:OA}{H0 G:Hp}{σ:St}{env:Env'}{H:Hp}
end
section
variable{X:Cx}{B:OA}{r:Nat}{pos p px:Pos}{fn:Fn}{k n:Nat}{x y:Str}
end
section
variable{K:Qq}{B:OA}{G G1:Hp}{σ σ1:St}{env env1:Env'}{H H1:Hp}
end
section
variable{X:Cx}{B:OA}{r:Nat}{N':List Str}{scope:Scope}{keep:List Bool}{more:Nat}{tg iter elt:Expr}{g:OZ}{ml mi:Mo (List D)}{pos:Pos}
end
section
variable{X:Cx}{B:OA}{e:Expr}{ma:Mo D}{pos p2:Pos}
end
open PySem.W Builtin Builtin.ObjectAttr Builtin.Getset_descriptor PySem.Calls
theorem fl1:typeLookup (.type "function") "__getattribute__"=pure (some (.builtin "object.__getattribute__")):=by rfl
theorem fl2(self:Value):bindSpecial (Value.builtin "object.__getattribute__") self=pure (Value.builtin "object.__getattribute__",[self]):=by rfl
theorem fl3:typeLookup (.type "function") "__class__"=pure (some (.builtin "object.__class__")):=by rfl
theorem fl4:isSubtype (.type "function") (.type "object")=pure true:=by rfl
theorem fl5:getOf (some (.builtin "object.__class__"))=pure (some (.builtin "getset_descriptor.__get__")):=by rfl
theorem fl6:dataDescriptor? (some (.builtin "object.__class__")) (some (.builtin "getset_descriptor.__get__"))=pure (some (.builtin "getset_descriptor.__get__",.builtin "object.__class__")):=by rfl
section
variable{prog:Program}{w:World}{A:Around}{E:OE}{x:Addr}{h:Heap}{g:Array GenState}{d:Drawn}{t:Nat}{os:OsState}
theorem b5X{R:Result->Shared->Prop}{tp:Value}(I:KitAt x "function" h)
  (hq:R (.ok (.ret (.type "function"))) ⟨h,g,d,t,os⟩):codeAny (model prog w) A (.call (.builtin "getset_descriptor.__get__") ⟨[.builtin "object.__class__",.ref x,tp],[]⟩) R ⟨h,g,d,t,os⟩:=by
 have L0:=kitAt_ty (M:=model prog w) (T:="function") _ I
 refine codeAny_call_builtin KF.slot_gs.plain KF.entry_gs (KF.slot_gs.check _ _ _ _ _ _ _ _ KF.type_class (KF.args_gs _ _ _) ?_);unfold Builtin.«getset_descriptor.__get__» descrGet;rw[dga_obj];refine Qz (Qj ?_);unfold descrGetter descrCheckInstance descrNameAndClass isInstance;simp only[KF.owner_class]
 repeat (first|with_reducible refine L0.at ?_|wp_step)
 dsimp only;rw[fl4]
 repeat (first|with_reducible refine L0.at ?_|wp_step)
 refine⟨Code.quiet_builtin _ (by decide+kernel),codeAny_builtin KF.entry_class ?_⟩
 unfold Builtin.«object.__class__» shownTypeOf
 repeat (first|with_reducible refine L0.at ?_|wp_step)
 exact hq
theorem b5Y{tk:Tok}{Q:Fin->Shared->Prop}(I:KitAt x "function" h)(hq:Q (.done (.ret (.type "function"))) ⟨h,g,d,t,os⟩):
  wpAny (model prog w) A (Builtin.«object.__getattribute__» ⟨[.ref x,.str "__class__" tk],[]⟩) Q E ⟨h,g,d,t,os⟩:=by
 have L0:=kitAt_ty (M:=model prog w) (T:="function") _ I
 unfold Builtin.«object.__getattribute__»
 repeat (any_goals (first|assumption|with_reducible refine L0.at ?_|wp_step))
 rw[fl3];refine Qj ?_
 rw[fl5];refine Qz (Qj ?_);rw[fl6]
 repeat (any_goals (first|assumption|with_reducible refine L0.at ?_|wp_step))
 refine b5X I ?_
 repeat (any_goals (first|assumption|wp_step))
theorem b5Z{M:Model}{nameV:Value}{Q:Unit->Shared->Prop}(I:KitAt x "function" h)(hq:Q () ⟨h,g,d,t,os⟩):
  wpAny M A (checkBuiltinCall "object.__getattribute__" ⟨[.ref x,nameV],[]⟩) Q E ⟨h,g,d,t,os⟩:=by
 have hk:builtinKind "object.__getattribute__"=some .slot:=by decide+kernel
 have hsplit:splitId "object.__getattribute__"=some ("object","__getattribute__"):=by decide+kernel
 have L0:=kitAt_ty (M:=M) (T:="function") _ I
 simp only[checkBuiltinCall,hk,hsplit];refine Qz ?_
 unfold isInstance
 repeat (first|with_reducible refine L0.at ?_|wp_step)
 rw[fl4]
 repeat (first|with_reducible refine L0.at ?_|wp_step)
 exact hq
theorem b6a{Q:Option Value->Shared->Prop}{s:Shared}(I:KitAt x "function" s.heap)(k:Q (some (.type "function")) ⟨s.heap,s.gens,s.drawn,s.toks+1,s.os⟩):
  wpAny (model prog w) A (getAttr? (.ref x) "__class__") Q E s:=by
 obtain⟨h,g,d,t,os⟩:=s;have L0:=kitAt_ty (M:=model prog w) (T:="function") _ I;unfold getAttr? getAttrBy?
 repeat (any_goals (first|assumption|with_reducible refine L0.at ?_|wp_step))
 rw[fl1]
 repeat (any_goals (first|assumption|with_reducible refine L0.at ?_|wp_step))
 rw[fl2]
 repeat (any_goals (first|assumption|with_reducible refine L0.at ?_|wp_step))
 refine codeAny_call_builtin (by decide+kernel) F.entry_object_getattribute (b5Z I (b5Y I ?_))
 repeat (any_goals (first|assumption|wp_step))
end
theorem b6b{K:Frag}{x:Addr}{o:Obj}(hl:List.lookup x K=some o)(hc:o.cls=.type "function"):KitX K (.ref x) (.type "function") (fun _=>True):=by
 have q:KitX K (.ref x) (.type "function") (KitAt x "function"):=kitx_of (fun M h p=>kitAt_ty M h p) (fun{prog w A E Q s} p k=>b6a p k)
 exact⟨fun M h X _=>q.ty M h X (kitAt_K X hl hc),fun M h X _=>q.it M h X (kitAt_K X hl hc),q.ne,fun{prog w A E Q s} X _ k=>q.ca X (kitAt_K X hl hc) k⟩
def b0b(K:Qq)(f:Addr):Bool:=match List.lookup f K with
 |some o=>o.cls==.type "function"
 |none=>false
theorem a1A{K:Qq}{f:Addr}(h:b0b K f=true):PySem.W.KitX K (.ref f) (.type "function") (fun _=>True):=by
 unfold b0b at h;split at h
 ·rename_i o e
  exact b6b e (eq_of_beq h)
 ·cases h
def Nsd(K:Qq)(mg:OU)(x:Str):Prop:=∃f,PySem.W.nsIn K mainGlobals x=some (some (.ref f))/\mg x=some (.ref f)/\PySem.W.KitX K (.ref f) (.type "function") (fun _=>True)
section
variable{X:Cx}{B:OA}{e:Expr}{es:List Expr}{p pos:Pos}{y:Str}{i k n:Nat}{as:Mo (List Ar)}
theorem b6c{CX}{f:Addr}{fd:FuncData}{ps:List Str}{sp:Sp}{ds:List Value}{dvs:List V}{E:XK}{t:TA}(F:FnOk X.prog X.w X.K X.mg X.base CX k f fd ps sp)(hr:Room k X.A)(hv:PE X (.Name y p) (a0f i))(hk:PySem.W.keepIn X.K (.ref f)=true)(hb:a0u X.K fd ps ds)(hd:q5_ dvs ds)(hx:a3k CX X E)
  (ha:PA X (e::es) t)(he:starEach (e::es) X.env=(false,eval e X.env)::starEach es X.env:=by rfl)(hpl:(backTo pos (starEach es X.env)).any (·.1)=false:=by rfl):
  PE X (.Call (.Name y p) (e::es) [] pos) (fun σ H Q=>σ[i]? =some (some (.ref f))/\a5u sp dvs E t σ H Q):=by
 intro pins s σ H Q I ⟨h0,h⟩;refine Uh (thn (hv pins s σ H (fun v H'=>v=.ref f/\H'=H) I ⟨_,h0,rfl,rfl⟩) fun u s0 ⟨v,H',I',r',q'⟩=>?_)
 obtain⟨rfl,rfl⟩:=q';cases r';refine PySem.W.callWith_K (h₀:=X.base) I'.ok.mod.kin hk (thn (ha pos pins s0 σ _ _ I' h) fun us s1 ⟨vs,H1,I1,r,q⟩=>⟨I1.kIn,?_⟩) he hpl
 exact a8y F hr hb hd hx I1 r q
def a4K(X:Cx)(n:Nat)(l:List (Str×Fn)):Prop:=∀nm fn,l.lookup nm=some fn->∃k,Room k X.A/\Def X.prog X.w X.K X.mg X.base nm k n fn/\Nsd X.K X.mg nm
theorem b6d:a4K X n []:=fun nm fn h=>by cases h
theorem a1B{x:Str}{fn:Fn}{l:List (Str×Fn)}(hr:Room k X.A)(d:Def X.prog X.w X.K X.mg X.base x k n fn)(hn:Nsd X.K X.mg x)(h:a4K X n l):a4K X n ((x,fn)::l):=fun nm fn' e=>by
 rw[List.lookup_cons]at e;split at e
 ·rename_i hb
  cases e;have:nm=x:=eq_of_beq hb;subst this;exact⟨k,hr,d,hn⟩
 ·exact h nm fn' e
def mCV(n i:Nat)(l:List (Str×Fn))(as:Mo (List Ar)):Mo D:=fun env=>match env[i]? with
 |some (.dat (.obj (.fn nm)))=>(l.lookup nm).bind fun fn=>mCD n fn as env
 |_=>none
theorem b6e{G:Hp}{v:V}{nm:Str}{f':Addr}(hn:Nsd X.K X.mg nm)(hm:X.mg nm=some (.ref f'))(q:Rep X.K G v (.obj (.fn nm))):v=.ref f':=by
 obtain⟨f0,h1,h2,_⟩:=hn;simp only[Rep]at q;obtain⟨f,rfl,h3,_⟩:=q;rw[h1]at h3;rw[h2]at hm;cases h3;cases hm
 rfl
theorem b6f{l:List (Str×Fn)}(ht:a4K X n l)(hv:PE X (.Name y p) (a0f i))(ha:EAr X B (e::es) as)(he:starEach (e::es) X.env=(false,eval e X.env)::starEach es X.env:=by rfl)(hpl:(backTo pos (starEach es X.env)).any (·.1)=false:=by rfl):
  ED X B (.Call (.Name y p) (e::es) [] pos) (mCV n i l as):=by
 intro pins s σ H Q I ⟨G,env,d,env',rl,em,kk⟩;unfold mCV at em;split at em
 case h_2=>cases em
 rename_i nm hen;obtain⟨fn,e1,e2⟩:=q7_ em;obtain⟨k,hr,D,hn⟩:=ht nm fn e1;obtain⟨v,q1,q2⟩:=rl.dat i _ hen;obtain⟨f',fd,ps,F,rfl,hm,hk,hb⟩:=D.ex;have:=b6e hn hm q2;subst this;obtain⟨⟨r,env1⟩,e3,e4⟩:=q7_ e2;refine b6c F hr hv hk hb .nil a5C ha he hpl pins s σ H Q I ⟨q1,?_⟩;cases r with
 |d d'=>cases e4;exact a5Q rl e3 kk
 |l ds=>cases e4
end
section
variable{prog:Program}{w:World}{A:Around}{E:OE}{s:Shared}
end
inductive PairsAt (K:Qq) (G:Hp):List V->List (List Int×V)->Prop
 |nil:PairsAt K G [] []
 |cons {q b:Addr}{k:List Int}{v:V}{xs:List V}{ps:List (List Int×V)}:SqU K G q [.ref b,v]->a2h K G b k->PairsAt K G xs ps->PairsAt K G (.ref q::xs) ((k,v)::ps)
section
variable{X:Cx}{pins:OX}{σ:St}{A:Around}{R:Result->Shared->Prop}{l it d:Addr}{xs:List V}{G:Hp}
end
section
variable{X:Cx}{B:OA}
end
end L2.Mir
namespace L2.Mir
open PySem PySem.Spec PyProof.Rows PySem.W
structure DefT(P:Program)(w:World)(K:Frag)(mg:OU)(base:Heap)(x:Str)(k n:Nat)(fn:Fn)(ts:List Addr):Prop where
 ex:∃(f:Addr) (fd:FuncData) (ps:List Str),FnOk P w K mg base CX0 k f fd ps (SpT K ts n fn)/\ps.length=n/\mg x=some (.ref f)/\keepIn K (.ref f)=true/\a0u K fd ps []
section
variable{X:Cx}{B:OA}{pos p:Pos}{e:Expr}{es:List Expr}{as:Mo (List Ar)}{fn:Fn}{k n:Nat}{x:Str}{ts:List Addr}{f:Addr}{fd:FuncData}{ps:List Str}{t:TA}{E:XK}
end
theorem y2_{N P:List Str}{sc:Scope}(a:sc.kind=.function:=by rfl)(b:sc.isCoroutine=false:=by rfl)(c:sc.isGenerator=false:=by rfl)(d:N.Nodup:=by decide+kernel)(e:N.take P.length=P:=by rfl)(f:∀x∈P,sc.names.lookup x=some .local∨sc.names.lookup x=some .cell:=by decide+kernel)(g:∀y∈sc.names,y.2≠.free:=by decide+kernel):FnScope N P sc:=⟨a,b,c,d,e,f,g⟩
theorem us1{α:Type}{M:List α->Prop}(h:∀a,M [a]):∀us:List α,us.length=1->M us
 |[a],_=>h a
theorem us2{α:Type}{M:List α->Prop}(h:∀a b,M [a,b]):∀us:List α,us.length=2->M us
 |[a,b],_=>h a b
theorem us3{α:Type}{M:List α->Prop}(h:∀a b c,M [a,b,c]):∀us:List α,us.length=3->M us
 |[a,b,c],_=>h a b c
section
variable{X:Cx}{B:OA}{pos:Pos}{o e:Expr}{ma mb:Mo D}
end
section
variable{X:Cx}{B:OA}{pos:Pos}{o e:Expr}{ma mb:Mo D}
end
section
variable{X:Cx}{B:OA}{tg e:Expr}{ma:Mo D}
end
def b6g(K:Qq):V->List V->Hp->VK->Prop:=fun x vs H Q=>∃(a b:Addr) (kvs:List (List Key×V)) (k:List Int) (df:V),x=.ref a/\vs=[.ref b,df]/\H a=some (.dT (w3_ K) kvs)/\a2h K H b k/\Q ((a0m kvs (x0_ k)).getD df) H
section
variable{X:Cx}{B:OA}{pos:Pos}{e e2:Expr}{ma mb:Mo D}
theorem b0c(hu:X.A.units+64<cLine):MtM X "dict.get" (b6g X.K):=by
 intro pins s σ H x vs v us Q I rx rv h;obtain⟨a,b,kvs,k,df,rfl,rfl,ea,kb,q⟩:=h;cases rx;obtain⟨u,u2,rfl,ru,ru2⟩:=rv.two;cases ru;obtain⟨z,hd,xs,rel,dd⟩:=a3D I ea;refine call_meetsIn Vw (a6p I ea) PySem.F.entry_dict_get (PySem.F.args_dict_get_3 _ _ _) (meetsH_dict_get_default (tupleKind (k5_ X.prog X.w)) a b hd u2) ⟨tupleKind_room_in1 (by omega),x0_ k,xs,a6o (K:=X.K) I.hok I.kIn kb,dd,?_⟩
 have r:=rel.val (x0_ k)
 cases hv:a0m kvs (x0_ k)with
 |none=>
  rw[hv]at r q;have:(atKey xs (x0_ k)).map (·.2)=none:=by
   cases h2:(atKey xs (x0_ k)).map (·.2)with
   |none=>rfl
   |some w=>rw[h2]at r;exact False.elim r
  rw[this];exact⟨df,H,I.tok _,ru2,q⟩
 |some y=>
  rw[hv]at r q;obtain⟨w',hw,rw'⟩:=a0J.some_of (v:=y) (o:=(atKey xs (x0_ k)).map (·.2)) r
  rw[hw];exact⟨y,H,I.tok _,rw',q⟩
def a2Q(i:Nat)(ma mb:Mo D):Mo D:=fun env=>((env[i]?).bind W.mutD).bind fun _=>(ma env).bind fun p=>(mb p.2).bind fun r=>((r.2[i]?).bind W.mutD).bind fun q=>(a2g p.1).map fun k=>((lkD q.1 q.2 k).getD r.1,r.2)
theorem b0d{K:Qq}{G:Hp}{kvs:List (List Key×V)}{ks:OI}{vs:List D}(k:List Int)(e:kvs.map (·.1)=ks.map x0_)(r:z7_ K G (kvs.map (·.2)) vs)(h:lkD ks vs k=none):a0m kvs (x0_ k)=none:=by
 have h2:=(a3E k e r).2
 have hl:ks.length=vs.length:=by
  have e1:=Yh List.length e
  have e2:=r.length
  rw[Qv]at e1 e2;rw[Qv]at e1
  omega
 have:ks.contains k=false:=by
  clear e r h2
  induction ks generalizing vs with
  |nil=>rfl
  |cons k' ks ih=>
   cases vs with
   |nil=>simp at hl
   |cons v vs=>
    unfold lkD at h
    by_cases hk:k'=k
    ·rw[Qb hk]at h;cases h
    ·rw[Qw hk]at h
     have hb:(k==k')=false:=by simpa using fun z=>hk (Eq.symm z)
     rw[Zd,hb,Vt];exact ih h (by simpa using hl)
 rw[this]at h2;cases q:a0m kvs (x0_ k)with
 |none=>rfl
 |some v=>rw[q]at h2;cases h2
theorem b6h{i:Nat}{x:Str}{p apos cpos:Pos}(hu:X.A.units+64<cLine)(ho:PE X (.Name x p) (a0f i))(ha:EDs X B [e,e2] (z3_ ma (z3_ mb z6_)))
  (hbase:attributeBase (.Name x p) "get" X.env (eval (.Name x p) X.env)=eval (.Name x p) X.env:=by rfl)
  (hfew:((backTo cpos (starEach [e,e2] X.env)).all (fun x=>!x.1)&&(backToKw cpos (keywordEach [] X.env)).all (fun x=>x.1.isSome)
   &&decide ([e,e2].length+([]:List Keyword).length+(if([]:List Keyword).isEmpty then 0 else 1)<30))=true:=by rfl)
  (hline:(apos.endLine==cpos.line)=true:=by rfl)(hs:starEach [e,e2] X.env=(false,eval e X.env)::starEach [e2] X.env:=by rfl)(hplain:(backTo cpos (starEach [e2] X.env)).any (·.1)=false:=by rfl):
  ED X B (.Call (.Attribute (.Name x p) "get" apos) [e,e2] [] cpos) (a2Q i ma mb):=by
 refine pe_imp (a5A Ui Vw PySem.F.type_dict_get (b0c hu) ho ha hbase hfew hline hs hplain) ?_
 rintro σ H Q ⟨G,env,d,env',rl,e,k⟩;obtain⟨⟨ks0,vs0⟩,e0,e⟩:=q7_ e;obtain⟨w0,e00,em0⟩:=q7_ e0;obtain⟨⟨d1,env1⟩,e1,e2⟩:=q7_ e;obtain⟨⟨d2,env2⟩,e3,e4⟩:=q7_ e2;obtain⟨⟨ks,vs⟩,e5,e6⟩:=q7_ e4;obtain⟨w,e7,e8⟩:=q7_ e5;obtain⟨key,e9,e10⟩:=x4_ e6;cases e10;obtain⟨q,kvs0,h1,h2,_⟩:=rl.ownD i w0 ks0 vs0 e00 em0;refine⟨_,h1,.inr (.inr (.inl ⟨rfl,.inr ⟨_,_,h2⟩⟩)),G,env,[d1,d2],env2,rl,?_,fun us G1 H1 ev r1=>?_⟩
 ·show(ma env).bind _=_
  rw[e1,Qk];show((z3_ mb z6_) env1).map _=_;show((mb env1).bind _).map _=_;rw[e3]
  rfl
 ·simp only[z7_]at r1
  obtain⟨y1,t1,rfl,s1,y2,t2,rfl,s2,rfl⟩:=r1;obtain⟨b,rfl,kb⟩:=a6n s1 e9;obtain⟨q',kvs,g1,g2,g3,g4,g5⟩:=ev.rel.ownD i w ks vs e7 e8;rw[h1]at g1;cases g1;refine⟨q,b,kvs,key,y2,rfl,rfl,g2,kb.mono ev.rel.sub,?_⟩;cases hv:lkD ks vs key with
  |none=>
   rw[b0d key g3 g4 hv];exact k _ G1 H1 ev (by rw[hv];exact s2)
  |some dv=>
   obtain⟨v,l1,l2⟩:=(a3E key g3 g4).1 _ hv;rw[l1];exact k _ G1 H1 ev (by rw[hv];exact l2)
end
def lkK:List (Key×Key)->Key->Option Key
 |[],_=>none
 |p::l,k=>if p.1=k then some p.2 else lkK l k
structure DkG(P:Program)(w:World)(K:Qq)(mg:OU)(x:Str)(kvs:List (Key×Key)):Prop where
 ex:∃a,mg x=some (.ref a)/\(a==sysModules)=false/\∀h:Heap,K.In h->(∃o,h.get? a=some o/\o.cls=.type "dict")/\∃g:Key->Option Value,h.MapOf (k5_ P w) a g/\∀k,a0J ((lkK kvs k).map kV) (g k)
def a6q:D->Option Key
 |.int i=>some (.inl i)
 |.str x=>some (.inr x)
 |_=>none
theorem b0e{K:Qq}{G:Hp}{v:V}{d:D}{k:Key}(r:Rep K G v d)(h:a6q d=some k):v=kV k:=by
 cases d<;>first|(exact absurd (show(none:Option Key)=some k from h) (by simp))|skip
 ·cases h
  simp only[Rep]at r;exact r
 ·cases h
  simp only[Rep]at r;exact r.1
section
variable{X:Cx}{B:OA}{pos:Pos}{a b:Expr}{ma mb:Mo D}{kvs:List (Key×Key)}
end
section
variable{X:Cx}{B:OA}{pos:Pos}{k1 k2 k3 v1 v2 v3:Expr}{a1 a2 a3 b1 b2 b3:Key}
end
inductive Ents (P:Program) (w:World):List DictEntry->List (Key×Key)->Prop
 |nil:Ents P w [] []
 |cons {e:DictEntry}{p:Key×Key}{es:List DictEntry}{kvs:List (Key×Key)}:v2_ (kV p.1) e.key->e.hash=(k5_ P w).hash p.1->v2_ (kV p.2) e.val->Ents P w es kvs->Ents P w (e::es) (p::kvs)
section
variable{X:Cx}{B:OA}{a b e st:Expr}{ma mb:Mo D}{pos p2:Pos}
end
def lkF:List (Str×Str)->Key->Option Str
 |[],_=>none
 |p::l,k=>if(.inr p.1:Key)=k then some p.2 else lkF l k
def b0f(mg:OU):Option Str->Option Value->Prop
 |none,o=>o=none
 |some n,o=>∃f,mg n=some (.ref f)/\o=some (.ref f)
structure DfG(P:Program)(w:World)(K:Qq)(mg:OU)(x:Str)(kvs:List (Str×Str)):Prop where
 ex:∃a,mg x=some (.ref a)/\(a==sysModules)=false/\∀h:Heap,K.In h->(∃o,h.get? a=some o/\o.cls=.type "dict")/\∃g:Key->Option Value,h.MapOf (k5_ P w) a g/\∀k,b0f mg (lkF kvs k) (g k)
 wk:(kvs.map fun p=>(.inr p.1:Key)).Nodup->∃a vs ep,mg x=some (.ref a)/\(a==sysModules)=false/\vs.map (·.1)=kvs.map (fun p=>(.inr p.1:Key))/\∀h:Heap,K.In h->h.DictAt (k5_ P w) a vs ep
theorem b0g:∀{kvs:List (Str×Str)}{k:Key}{n:Str},lkF kvs k=some n->∃p∈kvs,p.2=n
 |[],_,_,h=>by cases h
 |p::l,k,n,h=>by
  unfold lkF at h;split at h
  ·cases h
   exact⟨p,Jg ..,rfl⟩
  ·obtain⟨q,hq,e⟩:=b0g h
   exact⟨q,Yu _ hq,e⟩
def b0h(kvs:List (Str×Str))(mb:Mo D):Mo D:=fun env=>(mb env).bind fun p=>(a6q p.1).bind fun k=>(lkF kvs k).map fun n=>(.obj (.fn n),p.2)
def a6r(kvs:List (Str×Str))(ma:Mo D):Mo D:=fun env=>(ma env).bind fun p=>(a6q p.1).map fun k=>(.bl (lkF kvs k).isSome,p.2)
section
variable{X:Cx}{B:OA}{pos:Pos}{a b:Expr}{ma mb:Mo D}{kvs:List (Str×Str)}
theorem b6i{K:Qq}{mg:OU}:∀q∈([]:List (Str×Str)),Nsd K mg q.2:=fun q hq=>by cases hq
theorem a1C{K:Qq}{mg:OU}{k n:Str}{l:List (Str×Str)}(h:Nsd K mg n)(t:∀q∈l,Nsd K mg q.2):∀q∈(k,n)::l,Nsd K mg q.2:=fun q hq=>by
 rcases Qr.mp hq with rfl|hq
 ·exact h
 ·exact t q hq
theorem b6j{x:Str}{p:Pos}(hk:DfG X.prog X.w X.K X.mg x kvs)(hn:∀q∈kvs,Nsd X.K X.mg q.2)(hg:Gl X x)(hb:ED X B b mb)(hs:a4k b)(hd:(x==("__debug__":Str))=false:=by decide):
  ED X B (.Subscript (.Name x p) b pos) (b0h kvs mb):=by
 intro pins s σ H Q I h;obtain⟨G,env,d,env',rl,em,kk⟩:=h;obtain⟨⟨d1,env1⟩,e1,e2⟩:=q7_ em;obtain⟨key,e3,e4⟩:=q7_ e2;obtain⟨n,e5,e6⟩:=x4_ e4;cases e6;obtain⟨q,hm,hz,hall⟩:=hk.ex;refine b3X PySem.F.slot_dict_getitem.lookup hs (thn (a5i (v:=.ref q) hg hm rfl hd pins s σ H (fun v H1=>v=.ref q/\H1=H) I ⟨rfl,rfl⟩) fun u s1 ⟨y,H1,I1,ry,z1,z2⟩=>?_)
 subst z1 z2;cases ry;refine thn (hb pins s1 σ H1 (fun v H2=>∃G2,Ev X.K B G σ env H1 G2 σ env1 H2/\Rep X.K G2 v d1) I1 ⟨G,env,d1,env1,rl,e1,fun v G2 H2 ev r=>⟨G2,ev,r⟩⟩) fun iv s2 ⟨y,H2,I2,ry,G2,ev,r⟩=>?_
 have hv:=b0e r e3
 subst hv;obtain⟨⟨o,ho,hc⟩,g,hmap,hrel⟩:=hall s2.heap I2.kIn;have hr:=hrel key;rw[e5]at hr;obtain⟨f,hf,hgk⟩:=hr;obtain⟨⟨_,_⟩,hq,rfl⟩:=b0g e5;obtain⟨f',n1,n2,n3⟩:=hn _ hq;dsimp only at hf n1 n2 n3;rw[hf]at n2;cases n2;exact⟨⟨o,ho,hc⟩,wpAny_getItem_of (a1P ry) hmap hgk ⟨.ref f,H2,I2.tok _,rfl,kk _ G2 H2 ev (by simp only[Rep,a3l];exact⟨f,rfl,n1,n3⟩)⟩⟩
theorem b6k{x:Str}{p:Pos}(hk:DfG X.prog X.w X.K X.mg x kvs)(hg:Gl X x)(ha:ED X B a ma)(hd:(x==("__debug__":Str))=false:=by decide):PC X .In a (.Name x p) (TD X.K B (a6r kvs ma)):=by
 intro pins s σ H Q I h;obtain⟨G,env,d,env',rl,em,kk⟩:=h;obtain⟨⟨d1,env1⟩,e1,e2⟩:=q7_ em;obtain⟨key,e3,e4⟩:=x4_ e2;cases e4;obtain⟨q,hm,hn,hall⟩:=hk.ex;refine thn (ha pins s σ H (fun v H1=>∃G1,Ev X.K B G σ env H G1 σ env1 H1/\Rep X.K G1 v d1) I ⟨G,env,d1,env1,rl,e1,fun v G2 H2 ev r=>⟨G2,ev,r⟩⟩) fun iv s1 ⟨y,H1,I1,ry,G1,ev,r⟩=>?_
 refine thn (a5i (v:=.ref q) hg hm rfl hd pins s1 σ H1 (fun v H2=>v=.ref q/\H2=H1) I1 ⟨rfl,rfl⟩) fun u s2 ⟨x',H2,I2,rx,z1,z2⟩=>?_
 subst z1 z2;cases rx;have hv:=b0e r e3;subst hv;obtain⟨_,g,hmap,hrel⟩:=hall s2.heap I2.kIn;have hr:(g key).isSome=(lkF kvs key).isSome:=by
  have h1:=hrel key
  cases hl:lkF kvs key with
  |none=>rw[hl]at h1;rw[show g key=none from h1];rfl
  |some n=>
   rw[hl]at h1;obtain⟨f,_,h2⟩:=h1;rw[h2]
   rfl
 refine wpAny_in_of (a1P ry) hn hmap ⟨.bl (lkF kvs key).isSome,H2,I2.tok _,by rw[←hr];rfl,kk _ G1 H2 ev (by simp only[Rep])⟩
theorem b6l{x:Str}{p:Pos}(hk:DfG X.prog X.w X.K X.mg x kvs)(hg:Gl X x)(ha:ED X B a ma)(hm:behindInMarks .In (.Name x p)=false)(hd:(x==("__debug__":Str))=false:=by decide):ED X B (.Compare a [.In] [.Name x p] pos) (a6r kvs ma):=
 b2f (b6k hk hg ha hd) hm
end
inductive EntF (P:Program) (w:World) (mg:OU):List DictEntry->List (Str×Str)->Prop
 |nil:EntF P w mg [] []
 |cons {e:DictEntry}{p:Str×Str}{f:Addr}{es:List DictEntry}{kvs:List (Str×Str)}:v2_ (.str p.1) e.key->e.hash=(k5_ P w).hash (.inr p.1)->e.val=.ref f->mg p.2=some (.ref f)->EntF P w mg es kvs->EntF P w mg (e::es) (p::kvs)
theorem EntF.keys{P:Program}{w:World}{mg:OU}{es:List DictEntry}{kvs:List (Str×Str)}(h:EntF P w mg es kvs):∀e∈es,∃k,(k5_ P w).is k e.key=true/\e.hash=(k5_ P w).hash k:=by
 induction h with
 |nil=>intro e he;cases he
 |@cons e' p f es kvs h1 h2 h3 h4 _ ih=>
  intro e he
  rcases Qr.mp he with rfl|he
  ·exact⟨.inr p.1,a1P (k:=.inr p.1) h1,h2⟩
  ·exact ih e he
theorem EntF.find{P:Program}{w:World}{mg:OU}{es:List DictEntry}{kvs:List (Str×Str)}(h:EntF P w mg es kvs)(k:Key):b0f mg (lkF kvs k) ((es.find? fun e=>(k5_ P w).is k e.key).map (·.val)):=by
 induction h with
 |nil=>rfl
 |@cons e p f es kvs h1 h2 h3 h4 _ ih=>
  by_cases hk:(.inr p.1:Key)=k
  ·have e1:lkF (p::kvs) k=some p.2:=Qb hk
   have e2:(k5_ P w).is k e.key=true:=by rw[←hk];exact a1P (k:=.inr p.1) h1
   rw[e1,Jf,e2];exact⟨f,h4,Yh some h3⟩
  ·have e1:lkF (p::kvs) k=lkF kvs k:=Qw hk
   have e2:(k5_ P w).is k e.key=false:=by
    cases hq:(k5_ P w).is k e.key with
    |false=>rfl
    |true=>exact absurd ((k5_ P w).inj _ _ _ (a1P (k:=.inr p.1) h1) hq) hk
   rw[e1,Jf,e2];exact ih
theorem EntF.pairs{P:Program}{w:World}{mg:OU}{es:List DictEntry}{kvs:List (Str×Str)}(h:EntF P w mg es kvs):∃vs,Pairs (k5_ P w) es vs/\vs.map (·.1)=kvs.map fun p=>(.inr p.1:Key):=by
 induction h with
 |nil=>exact⟨[],.nil,rfl⟩
 |@cons e p f es kvs h1 h2 h3 h4 _ ih=>
  obtain⟨vs,q,e'⟩:=ih;exact⟨((.inr p.1:Key),e.val)::vs,Pairs.cons (kv:=((.inr p.1:Key),e.val)) (a1P (k:=.inr p.1) h1) rfl q,by rw[Qm,Qm,e']⟩
theorem b6m{P:Program}{w:World}{K:Qq}{mg:OU}{x:Str}{kvs:List (Str×Str)}{a:Addr}{es:List DictEntry}{ep:Nat}(hm:mg x=some (.ref a))(hl:K.lookup a=some ⟨.type "dict",none,.dict ⟨es⟩ ep,⟨[]⟩⟩)(hz:(a==sysModules)=false)(he:EntF P w mg es kvs):DfG P w K mg x kvs:=by
 obtain⟨vs,hp,hv⟩:=he.pairs;refine⟨⟨a,hm,hz,fun h hin=>⟨⟨_,hin a _ hl,rfl⟩,findBy (k5_ P w).is ⟨es⟩,⟨_,⟨es⟩,ep,hin a _ hl,⟨rfl,rfl,rfl⟩,rfl,fun e he'=>he.keys e (by simpa using he'),fun _=>rfl⟩,fun k=>?_⟩⟩,fun hn=>⟨a,vs,ep,hm,hz,hv,fun h hin=>⟨_,⟨es⟩,hin a _ hl,⟨rfl,rfl,rfl⟩,rfl,fun e he'=>he.keys e (by simpa using he'),hp,by rw[hv];exact hn⟩⟩⟩
 have:=he.find k;unfold findBy;rw[←Array.find?_toList];exact this
section
variable{K:Qq}{B:OA}{G G':Hp}{σ σ':St}{env env':Env'}{H H':Hp}
end
section
variable{X:Cx}{B:OA}{pos:Pos}{k1 k2 k3 k4 v1 v2 v3 v4:Expr}{a1 a2 a3 a4:Str}{m1 m2 m3 m4:Mo D}
end
section
variable{X:Cx}{B:OA}{pos p:Pos}{fn:Fn}{k:Nat}{x:Str}
end
section
variable{X:Cx}{B:OA}{tg:Expr}{kvs:List (Str×Str)}
end
section
variable{prog:Program}{w:World}{A:Around}{R:Result->Shared->Prop}{I S:Addr}{fp wr:List Addr}{n:Nat}{P:Nat->Value->Prop}{St:Nat->Heap->Prop}{bt:Nat->Nat->Bool}{Z:Heap->Prop}
end
section
variable{X:Cx}{B:OA}
end
section
variable{X:Cx}{B:OA}{pos p p1:Pos}{e2:Expr}{m:Mo D}{fn:Fn}{k i:Nat}{x y:Str}
end
section
variable{prog:Program}{w:World}{A:Around}{s:Shared}{fin:Bool}{Q:Bool->Shared->Prop}
end
section
variable{X:Cx}{B:OA}{pins:OX}{σ:St}{G H:Hp}{s:Shared}
end
def a1D(h:Heap)(d:Addr)(es:Array DictEntry)(ep:Nat):Prop:=∃o,h.get? d=some o/\o.data=.dict es ep
section
variable{prog:Program}{w:World}{A:Around}{E:OE}{s:Shared}{it d:Addr}{es:Array DictEntry}{i ep:Nat}
theorem b6n{v:Addr}{Q:OE}(hv:s.heap.IsValuesView v d)(hm:a1D s.heap d es ep)
  (q:Q (.ref s.heap.objs.size) {s with heap:=s.heap.push {cls:=.type "dict_valueiterator",data:=.fields #[.ref d,.int 0 0,.int es.size 0,.int ep 0]}}):wpAny (model prog w) A (pyIter (.ref v)) Q E s:=by
 obtain⟨ov,v1,v2,v3⟩:=id hv;obtain⟨o,d1,d2⟩:=hm;refine wpAny_pyIter_slot hv.typeIs Vc (Zo Vc hv.typeIs PySem.F.entry_dict_values_iter ?_ (PySem.F.args_dict_values_iter_1 _));refine Qz (Qj (Qz ?_));unfold Builtin.Dict_items.dictOf;refine Qz (Zp v1 v3 (x:=.ref d) rfl (Qj (Qz ?_)));unfold Builtin.Dict_items.newIterator;refine Qz (wpAny_dictEntries d1 d2 (Qz (wpAny_dictEpoch d1 d2 ?_)));have ow:Builtin.Dict_items.ownsTuple "dict_valueiterator"=false:=by decide
 simp only[ow,Zx,Yx];refine Qo (Qj ⟨_,rfl,"dict_valueiterator",_,⟨_,Qg _ rfl,rfl⟩,PySem.F.slot_dict_valueiterator_next.lookup,?_⟩)
 simpa [rawInt]using q
theorem b6o{e:DictEntry}{Q:Option Value->Shared->Prop}(hit:s.heap.IsValIter it d i es.size ep)(hm:a1D s.heap d es ep)(hx:es[i]? =some e)
  (q:∀h',h'.IsValIter it d (i+1) es.size ep->Heap.SameBut it s.heap h'->Q (some e.val) {s with heap:=h'}):wpAny (model prog w) A (pyNext (.ref it)) Q E s:=by
 obtain⟨o,i1,i2,i3⟩:=id hit;obtain⟨od,d1,d2⟩:=hm;have hlt:i<es.size:=by
  rcases Nat.lt_or_ge i es.size with h|h
  ·exact h
  ·rw[Array.getElem?_eq_none h]at hx;cases hx
 have he:es[i]=e:=by rw[Jx hlt]at hx;exact Zw hx
 have ow:Builtin.Dict_items.ownsTuple "dict_valueiterator"=false:=by decide
 unfold pyNext;refine Qz (Ve (Zg (name:=Str.ofString "__next__") hit.typeIs Yv (Zo Yv hit.typeIs Ug ?_ (Uk _))));refine Qz (Qj (Qz (Qz ?_)))
 first|refine Qz (Yd hit.typeIs (Qj ?_))|refine Qz (Jw hit.typeIs (Qj ?_))
 refine Qz (wpAny_fieldsOf i1 i3 ?_);simp only[ow,Zx,Yx];show wpAny _ _ (if(Value.ref d==Value.none)=true then _ else _) _ _ s
 rw[Qw (show ¬ ((Value.ref d==Value.none)=true)from Zk)]
 refine Qz (Qj (Qz (wpAny_dictEntries d1 d2 ?_)));rw[Qw (by simp)]
 refine Qz (Qj (Qz (wpAny_dictEpoch d1 d2 ?_)));rw[Qw (by simp)]
 refine Qj ?_
 simp only[show ¬ ((i:Int)<0)from by omega,Yx,Yj,Jx hlt]
 refine Qz ?_
 first|refine Qz (Yd hit.typeIs (Qj ?_))|refine Qz (Jw hit.typeIs (Qj ?_))
 refine Qz (Vy hit.typeIs ?_);show wpAny _ _ (setField (.ref it) 1 (rawInt ((i:Int)+1))>>=_) _ _ s;refine Qz (Vl i1 i3 (by simp) ?_)
 have hit':(s.heap.update it (Obj.mapFields (·.setIfInBounds 1 (rawInt ((i:Int)+1))))).IsValIter it d (i+1) es.size ep:=
  ⟨_,Vv _ i1 (Obj.isFreed_of_fields (Uc i3 _)),(Obj.cls_mapFields ..).trans i2,by rw[Uc i3];simp[rawInt]⟩
 refine Qz (Jb (Qz (Vy (s:={s with heap:=s.heap.update it (Obj.mapFields (·.setIfInBounds 1 (rawInt ((i:Int)+1))))}) hit'.typeIs ?_)))
 refine Qz (Vy (s:={s with heap:=s.heap.update it (Obj.mapFields (·.setIfInBounds 1 (rawInt ((i:Int)+1))))}) hit'.typeIs ?_)
 show wpAny _ _ (pure es[i].val) _ _ _;exact Qj (Qj ⟨_,rfl,Qj (he ▸ q _ hit' (Ux ..))⟩)
theorem b6p{Q:Option Value->Shared->Prop}(hh:A.handled=none)(hit:s.heap.IsValIter it d i es.size ep)(hm:a1D s.heap d es ep)(hge:es.size≤i)
  (q:∀h',Heap.ExtBut it s.heap h'->Q none {s with heap:=h'}):wpAny (model prog w) A (pyNext (.ref it)) Q E s:=by
 obtain⟨o,i1,i2,i3⟩:=id hit;obtain⟨od,d1,d2⟩:=hm;have ow:Builtin.Dict_items.ownsTuple "dict_valueiterator"=false:=by decide
 unfold pyNext;refine Qz (Ve (Zg (name:=Str.ofString "__next__") hit.typeIs Yv (Zo Yv hit.typeIs Ug ?_ (Uk _))));refine Qz (Qj (Qz (Qz ?_)))
 first|refine Qz (Yd hit.typeIs (Qj ?_))|refine Qz (Jw hit.typeIs (Qj ?_))
 refine Qz (wpAny_fieldsOf i1 i3 ?_);simp only[ow,Zx,Yx];show wpAny _ _ (if(Value.ref d==Value.none)=true then _ else _) _ _ s
 rw[Qw (show ¬ ((Value.ref d==Value.none)=true)from Zk)]
 refine Qz (Qj (Qz (wpAny_dictEntries d1 d2 ?_)));rw[Qw (by simp)]
 refine Qz (Qj (Qz (wpAny_dictEpoch d1 d2 ?_)));rw[Qw (by simp)]
 refine Qj ?_
 simp only[show ¬ ((i:Int)<0)from by omega,Yx,Yj,Array.getElem?_eq_none hge]
 refine Qz ?_
 first|refine Qz (Yd hit.typeIs (Qj ?_))|refine Qz (Jw hit.typeIs (Qj ?_))
 show wpAny _ _ (setField (.ref it) 0 .none>>=_) _ _ s;refine Qz (Vl i1 i3 (by simp) ?_)
 show wpAny _ _ (newExc (.type "StopIteration") []>>=_) _ _ _;refine Qz ?_
 simp only[newExc,newTuple];refine Qz (Qo ?_ (by size_fits))
 refine Qz (m:=firstArgMember _ _) (wpAny_of_eq (a:=Value.none) (by first|rfl|(simp only[firstArgMember];rfl)) ?_)
 refine Qo ?_ (by size_fits)
 simp only[raiseNew];refine Qz (wpAny_handled ?_);rw[show A.in1.handled=none from hh]
 refine Qz (Qj (wpAny_throw ?_));refine Qz (wpAny_isInstance (T:="StopIteration") (b:=true) ⟨_,Qg _ rfl,rfl⟩ isSubtype_stop ?_);exact Qj (q _ (((Ux ..).extBut.push _).push _))
theorem a1D.keep{h h':Heap}(x:a1D h d es ep)(k:∀o,h.get? d=some o->h'.get? d=some o):a1D h' d es ep:=by
 obtain⟨o,a,b⟩:=x;exact⟨o,k o a,b⟩
theorem b6q(hh:A.handled=none)(I:Addr)(hne:d≠I):Walks prog w A I [I,d] [I] es.size (fun i v=>∃e,es[i]? =some e/\v=e.val) (fun i h=>h.IsValIter I d i es.size ep/\a1D h d es ep)where
 sub:=fun b hb=>by simp at hb;simp[hb]
 frame:=fun _ _ _ st hk=>⟨st.1.at fun o e=>hk I (by simp) o e,st.2.keep fun o e=>hk d (by simp) o e⟩
 item:=fun i s Q E hi st hQ=>b6o st.1 st.2 (Jx hi) fun h' hit' hs'=>hQ _ h' s.toks ⟨_,Jx hi,rfl⟩ ⟨hit',st.2.keep fun o e=>hs'.extBut d o hne e⟩ fun b o hb e=>hs'.extBut b o (fun h=>hb (by simp[h])) e
 done:=fun s Q E st hQ=>b6p hh st.1 st.2 (Qu _) fun h' he'=>hQ h' s.toks fun b o hb e=>he' b o (fun h=>hb (by simp[h])) e
 self:=fun _ _ _ _ st hQ=>wpAny_pyIter_valiter st.1 hQ
theorem b6r(d:Addr)(hd:(d==sysModules)=false):MeetsIn prog w (Builtin.«dict.values» ⟨[.ref d],[]⟩) (fun _ R s=>s.TypeIs (.ref d) "dict"/\R (.ok (.ret (.ref s.heap.objs.size))) {s with heap:=s.heap.push {cls:=.type "dict_values",data:=.fields #[.ref d]}}):=
 .of_wp fun A R s ⟨hT,h⟩=>by
  refine Qz ?_
  unfold Builtin.Dict.noArgs;refine Qz (wpAny_notOrdered_dict hT (Qj ?_));show wpAny _ _ (Builtin.Dict.showsAll d>>=_) _ _ s;unfold Builtin.Dict.showsAll;rw[Qw (by rw[hd];exact Zk)]
  exact Qz (Qj (Qz (Qo (Qj ⟨_,rfl,h⟩))))
end
theorem b0i{α β:Type}{F:α->β->Prop}:∀{l:List α}{m:List β}{i:Nat}{b:β},Paired F l m->m[i]? =some b->∃a,l[i]? =some a/\F a b
 |_,_,i,b,.cons h t,e=>by
  cases i with
  |zero=>cases e;exact⟨_,rfl,h⟩
  |succ i=>exact b0i (i:=i) t e
section
variable{X:Cx}{B:OA}{pos:Pos}
def b6s(K:Qq):V->List V->Hp->VK->Prop:=fun x vs H Q=>∃(a:Addr) (kvs:List (List Key×V)),x=.ref a/\vs=[]/\H a=some (.dT (w3_ K) kvs)/\∀l,H l=none->l≠a->Q (.ref l) (upd H l (.ext fun h=>h.IsValuesView l a))
theorem b6t:MtM X "dict.values" (b6s X.K):=by
 intro pins s σ H x vs v us Q I rx rv h;obtain⟨a,kvs,rfl,rfl,ea,q⟩:=h;cases rx;cases rv;obtain⟨z,hd,xs,rel,dd⟩:=a3D I ea;refine call_meetsIn PySem.F.slot_dict_values (a6p I ea) PySem.F.entry_dict_values (PySem.F.args_dict_values_1 _) (b6r a hd) ⟨a6p I ea,?_⟩;have hf:H s.heap.objs.size=none:=I.hok.fresh (Qu _);have ne:s.heap.objs.size≠a:=fun z=>by rw[z,ea]at hf;cases hf
 refine⟨.ref s.heap.objs.size,_,I.laid (a:=s.heap.objs.size) (o:=.ext fun h=>h.IsValuesView s.heap.objs.size a) (t':=s.toks) (fun _ _ q=>Qx _ q) (Qu _) ⟨⟨_,Qg _ rfl,rfl,rfl⟩,⟨_,Qg _ rfl⟩,fun h1 h2 ⟨o,e,r⟩ k=>⟨o,k o e,r⟩⟩,rfl,q _ hf ne⟩
def b6u(X:Cx):List V->Hp->VK->Prop:=fun xs H Q=>∃(v a:Addr) (kvs:List (List Key×V)) (ns:List Int),xs=[.ref v]/\v≠a/\H v=some (.ext fun h=>h.IsValuesView v a)/\H a=some (.dT (w3_ X.K) kvs)/\kvs.map (·.2)=ns.map V.int/\Q (.int ns.sum) H
theorem b6v(hc:X.calm=true):a0t X (.builtin "sum") (b6u X):=by
 intro pins s σ H xs us Q I r h;obtain⟨v,a,kvs,ns,rfl,nva,hv,ha,hn,q⟩:=h;obtain⟨u,rfl,rx⟩:=a3j r;cases rx;have hh:X.A.handled=none:=I.ok.hd hc;have hview:s.heap.IsValuesView v a:=(show k0_ X.prog X.w H s.heap v (.ext _)from I.hok v _ hv).1
 obtain⟨z,hd,xs,rel,o,es,ep,d1,d2,d3,d4,d5⟩:=a3D I ha;have hes:a1D s.heap a es ep:=⟨o,d1,d3⟩;have hlt:a<s.heap.objs.size:=Qh d1;have hsz:es.size=ns.length:=by
  have e1:=Yh List.length d4
  rw[Qv]at e1;have e2:=rel.length;have e3:=Yh List.length hn;rw[Qv,Qv]at e3;rw[←Uj]
  omega
 have key:∀(i:Nat) (x:Value),(∃e:DictEntry,es[i]? =some e/\x=e.val)->∃t,x=Value.int (ns.getD i 0) t:=fun i x ⟨e,he,hx⟩=>by
  subst hx;have e1:es.toList[i]? =some e:=by simpa using he
  rw[d4,Zc]at e1;cases hq:xs[i]? with
  |none=>rw[hq]at e1;cases e1
  |some q'=>
   rw[hq]at e1;cases e1;obtain⟨p,hp,_,_,hr⟩:=b0i rel hq;have e2:(kvs.map (·.2))[i]? =some p.2:=by rw[Zc,hp];rfl
   rw[hn,Zc]at e2;cases hm:ns[i]? with
   |none=>rw[hm]at e2;cases e2
   |some n=>
    rw[hm]at e2;have e3:V.int n=p.2:=Zw e2;rw[←e3]at hr;obtain⟨t,ht⟩:=hr;exact⟨t,by rw[List.getD_eq_getElem?_getD,hm];exact ht⟩
 refine call_sum_walkG (b6n hview hes ?_);refine⟨s.heap.objs.size,[s.heap.objs.size,a],[s.heap.objs.size],es.size,_,_,fun i=>ns.getD i 0,rfl,b6q (A:=X.A.in1) hh _ (Zj hlt),⟨⟨_,Qg _ rfl,rfl,rfl⟩,hes.keep fun o e=>Qx _ e⟩,fun b hb=>?_,key,fun h' tk t' hk'=>?_⟩
 ·have hs:=Qh (Qg s.heap (o:={cls:=.type "dict_valueiterator",data:=.fields #[.ref a,.int 0 0,.int es.size 0,.int ep 0]}) rfl)
  rcases Qr.mp hb with rfl|hb
  ·exact hs
  ·rcases Qr.mp hb with rfl|hb
   ·exact Vp hlt hs
   ·cases hb
 ·rw[hsz,PyProof.Rows.preSum_getD,Jr (Qu _)]
  exact⟨.int ns.sum,H,I.kept (t':=tk) (LSm.kept_iter hk'),⟨t',rfl⟩,q⟩
end
def W.dictV:W->Option (OI×List D)
 |.dat (.dct ks vs)=>some (ks,vs)
 |.ownD ks vs=>some (ks,vs)
 |.parD ks vs=>some (ks,vs)
 |_=>none
theorem a6s{K:Qq}{B:OA}{G:Hp}{σ:St}{env:Env'}{H:Hp}(rl:Rel K B G σ env H){i:Nat}{w:W}{ks:OI}{vs:List D}(e1:env[i]? =some w)(e2:w.dictV=some (ks,vs)):
  ∃a kvs,σ[i]? =some (some (V.ref a))/\H a=some (.dT (w3_ K) kvs)/\kvs.map (·.1)=ks.map x0_/\z7_ K G (kvs.map (·.2)) vs:=by
 unfold W.dictV at e2;split at e2
 ·cases e2
  obtain⟨v,h1,h2⟩:=rl.dat i _ e1;simp only[Rep]at h2;obtain⟨a,kvs,rfl,h3,h4,h5⟩:=h2;exact⟨a,kvs,h1,rl.sub _ _ h3,h4,h5⟩
 ·cases e2
  obtain⟨a,kvs,h1,h2,h3,h4,_⟩:=rl.ownD i _ ks vs e1 rfl;exact⟨a,kvs,h1,h2,h3,h4⟩
 ·cases e2
  obtain⟨a,kvs,h1,h2,h3,h4,_⟩:=rl.ownD i _ ks vs e1 rfl;exact⟨a,kvs,h1,h2,h3,h4⟩
 ·cases e2
section
variable{X:Cx}{B:OA}{pos:Pos}{e e2:Expr}{ma mb:Mo D}
def a6t(i:Nat):Mo D:=fun env=>((env[i]?).bind W.dictV).bind fun q=>(ints? q.2).map fun ns=>(.int ns.sum,env)
theorem b6w{i:Nat}{x:Str}{p p1 apos cpos:Pos}(hc:X.calm=true)(ho:PE X (.Name x p) (a0f i))(hg:Gl X "sum")(hm:X.mg "sum"=none)
  (hbase:attributeBase (.Name x p) "values" X.env (eval (.Name x p) X.env)=eval (.Name x p) X.env:=by rfl)(hline:(apos.endLine==cpos.line)=true:=by rfl)
  (he:starEach [.Call (.Attribute (.Name x p) "values" apos) [] [] cpos] X.env=[(false,eval (.Call (.Attribute (.Name x p) "values" apos) [] [] cpos) X.env)]:=by rfl):
  ED X B (.Call (.Name "sum" p1) [.Call (.Attribute (.Name x p) "values" apos) [] [] cpos] [] pos) (a6t i):=by
 have hv:=b3O (X:=X) (apos:=apos) (cpos:=cpos) Ui PySem.F.slot_dict_values PySem.F.type_dict_values b6t ho hbase hline
 refine pe_imp (a5v (b6v hc) hg hm b5F (a2v hv a4j he)) ?_
 rintro σ H Q ⟨G,env,d,env',rl,e,k⟩;obtain⟨⟨ks,vs⟩,e1,e2⟩:=q7_ e;obtain⟨ns,e3,e4⟩:=x4_ e2;cases e4;obtain⟨w,w1,w2⟩:=q7_ e1;obtain⟨a,kvs,h1,h2,h3,h4⟩:=a6s rl w1 w2;have hx:=a2K h4 e3;refine⟨_,h1,.inr (.inr (.inl ⟨rfl,.inr ⟨_,_,h2⟩⟩)),a,kvs,rfl,rfl,h2,fun l hl ne=>?_⟩
 exact⟨l,a,kvs,ns,rfl,ne,x3_,by rw[v4_ (Zh ne)];exact h2,hx,k _ G _ (rl.allocM hl) (by simp only[Rep])⟩
def a3G(i:Nat)(ma mb:Mo D):Mo D:=fun env=>((env[i]?).bind W.dictV).bind fun _=>(ma env).bind fun p=>(mb p.2).bind fun r=>((r.2[i]?).bind W.dictV).bind fun q=>(a2g p.1).map fun k=>((lkD q.1 q.2 k).getD r.1,r.2)
theorem b0j{i:Nat}{x:Str}{p apos cpos:Pos}(hu:X.A.units+64<cLine)(ho:PE X (.Name x p) (a0f i))(ha:EDs X B [e,e2] (z3_ ma (z3_ mb z6_)))
  (hbase:attributeBase (.Name x p) "get" X.env (eval (.Name x p) X.env)=eval (.Name x p) X.env:=by rfl)
  (hfew:((backTo cpos (starEach [e,e2] X.env)).all (fun x=>!x.1)&&(backToKw cpos (keywordEach [] X.env)).all (fun x=>x.1.isSome)
   &&decide ([e,e2].length+([]:List Keyword).length+(if([]:List Keyword).isEmpty then 0 else 1)<30))=true:=by rfl)
  (hline:(apos.endLine==cpos.line)=true:=by rfl)(hs:starEach [e,e2] X.env=(false,eval e X.env)::starEach [e2] X.env:=by rfl)(hplain:(backTo cpos (starEach [e2] X.env)).any (·.1)=false:=by rfl):
  ED X B (.Call (.Attribute (.Name x p) "get" apos) [e,e2] [] cpos) (a3G i ma mb):=by
 refine pe_imp (a5A Ui Vw PySem.F.type_dict_get (b0c hu) ho ha hbase hfew hline hs hplain) ?_
 rintro σ H Q ⟨G,env,d,env',rl,e,k⟩;obtain⟨⟨ks0,vs0⟩,e0,e⟩:=q7_ e;obtain⟨w0,e00,em0⟩:=q7_ e0;obtain⟨⟨d1,env1⟩,e1,e2⟩:=q7_ e;obtain⟨⟨d2,env2⟩,e3,e4⟩:=q7_ e2;obtain⟨⟨ks,vs⟩,e5,e6⟩:=q7_ e4;obtain⟨w,e7,e8⟩:=q7_ e5;obtain⟨key,e9,e10⟩:=x4_ e6;cases e10;obtain⟨q,kvs0,h1,h2,_⟩:=a6s rl e00 em0;refine⟨_,h1,.inr (.inr (.inl ⟨rfl,.inr ⟨_,_,h2⟩⟩)),G,env,[d1,d2],env2,rl,?_,fun us G1 H1 ev r1=>?_⟩
 ·show(ma env).bind _=_
  rw[e1,Qk];show((z3_ mb z6_) env1).map _=_;show((mb env1).bind _).map _=_;rw[e3]
  rfl
 ·simp only[z7_]at r1
  obtain⟨y1,t1,rfl,s1,y2,t2,rfl,s2,rfl⟩:=r1;obtain⟨b,rfl,kb⟩:=a6n s1 e9;obtain⟨q',kvs,g1,g2,g3,g4⟩:=a6s ev.rel e7 e8;rw[h1]at g1;cases g1;refine⟨q,b,kvs,key,y2,rfl,rfl,g2,kb.mono ev.rel.sub,?_⟩;cases hv:lkD ks vs key with
  |none=>
   rw[b0d key g3 g4 hv];exact k _ G1 H1 ev (by rw[hv];exact s2)
  |some dv=>
   obtain⟨v,l1,l2⟩:=(a3E key g3 g4).1 _ hv;rw[l1];exact k _ G1 H1 ev (by rw[hv];exact l2)
end
end L2.Mir
namespace L2.Mir
open PySem L2
abbrev rgD(n:Nat):List D:=(List.range n).map fun(i:Nat)=>D.int (i:Int)
theorem b6x(n:Nat):u9_ 0 n=rgD n:=by
 unfold u9_ rgD;exact Zb fun i _=>by simp
theorem a3H{M:Mo D}{e e1:Env'}{n:Nat}{j:Int}(hM:M e=some (.int j,e1))(hj:j=(n:Int))(hn:n≤10000):j0_ (z3_ M z6_) e=some (rgD n,e1):=by
 subst hj;have:=a6h (ms:=z3_ M z6_) (env:=e) (e1:=e1) (j:=(n:Int)) (by unfold z3_ z6_;rw[hM];rfl) (by omega) (by omega)
 rw[this,Yj,b6x]
theorem b6y{base:Env'}{w v:W}{k:Nat}(h:base.length=k):(base++[w]).set k v=base++[v]:=by
 subst h;simp
theorem b6z{base:Env'}{w w2 v v2:W}{k:Nat}(h:base.length=k):((base++[w,w2]).set k v).set (k+1) v2=base++[v,v2]:=by
 subst h;rw[List.set_append_right _ _ (Qu _),Nat.sub_self,List.set_append_right _ _ (by omega)]
 simp
theorem b0k{α:Type}{t:Mo Bool}{m:Mo D}{base:Env'}{q f:α->D}{p:α->Bool}{k:Nat}(hk:base.length=k):∀{l:List α},(∀a∈l,t (base++[.dat (q a)])=some (p a,base++[.dat (q a)])/\(p a=true->m (base++[.dat (q a)])=some (f a,base++[.dat (q a)])))->∀w,∃w',j2_ (gN k) t m (l.map q) (base++[w])=some ((l.filter p).map f,base++[w'])
 |[],_,w=>⟨w,rfl⟩
 |a::l,h,w=>by
  obtain⟨h1,h2⟩:=h a (by simp)
  obtain⟨w',e⟩:=b0k hk (l:=l) (fun x hx=>h x (by simp[hx])) (.dat (q a))
  refine⟨w',?_⟩;rw[Qm];unfold j2_ gN;rw[Qk,b6y hk,h1,Qk];cases hp:p a with
  |false=>simp only[Zx,Yx];rw[List.filter_cons_of_neg (by simp[hp])];exact e
  |true=>
   simp only[Zs];rw[h2 hp,Qk,List.filter_cons_of_pos hp,Qm];show(j2_ (gN k) t m (l.map q) (base++[.dat (q a)])).map _=_;rw[e];rfl
theorem b0l{α:Type}{mi:Mo (List D)}{keep:List Bool}{t:Mo Bool}{m:Mo D}{env base:Env'}{l:List α}{q f:α->D}{p:α->Bool}{k:Nat}(hi:mi env=some (l.map q,env))(hl:l.length≤100000)(hb:w5_ keep 0 env=base)(hk:base.length=k)
  (h:∀a∈l,t (base++[.dat (q a)])=some (p a,base++[.dat (q a)])/\(p a=true->m (base++[.dat (q a)])=some (f a,base++[.dat (q a)])))(ho:∀w,w6_ keep env (base++[w])=some env):y3_ mi keep 1 (gN k) t m env=some ((l.filter p).map f,env):=by
 obtain⟨w',e⟩:=b0k hk h .nil;refine a3C hi (by simpa using hl) (e2:=base++[w']) ?_ (ho w')
 have:w5_ keep 1 env=base++[.nil]:=by rw[←hb];unfold w5_;simp
 rw[this];exact e
theorem b0m{α:Type}{mi:Mo (List D)}{keep:List Bool}{m:Mo D}{env base:Env'}{l:List α}{q f:α->D}{k:Nat}(hi:mi env=some (l.map q,env))(hl:l.length≤100000)(hb:w5_ keep 0 env=base)(hk:base.length=k)
  (h:∀a∈l,m (base++[.dat (q a)])=some (f a,base++[.dat (q a)]))(ho:∀w,w6_ keep env (base++[w])=some env):y3_ mi keep 1 (gN k) y9_ m env=some (l.map f,env):=by
 have:=b0l (p:=fun _=>true) (t:=y9_) hi hl hb hk (fun a ha=>⟨rfl,fun _=>h a ha⟩) ho
 rw[this,List.filter_eq_self.mpr (fun _ _=>rfl)]
theorem b0n{α:Type}{t:Mo Bool}{m:Mo D}{base:Env'}{q q2 f:α->D}{p:α->Bool}{k:Nat}(hk:base.length=k):∀{l:List α},(∀a∈l,t (base++[.dat (q a),.dat (q2 a)])=some (p a,base++[.dat (q a),.dat (q2 a)])/\(p a=true->m (base++[.dat (q a),.dat (q2 a)])=some (f a,base++[.dat (q a),.dat (q2 a)])))->∀w w2,∃w' w2',j2_ (gT 2 (gCn (gN k) (gCn (gN (k+1)) gNl))) t m (l.map fun a=>.tup [q a,q2 a]) (base++[w,w2])=some ((l.filter p).map f,base++[w',w2'])
 |[],_,w,w2=>⟨w,w2,rfl⟩
 |a::l,h,w,w2=>by
  obtain⟨h1,h2⟩:=h a (by simp)
  obtain⟨w',w2',e⟩:=b0n hk (l:=l) (fun x hx=>h x (by simp[hx])) (.dat (q a)) (.dat (q2 a))
  refine⟨w',w2',?_⟩;rw[Qm];unfold j2_;have hg:gT 2 (gCn (gN k) (gCn (gN (k+1)) gNl)) (.tup [q a,q2 a]) (base++[w,w2])=some (base++[.dat (q a),.dat (q2 a)]):=by
   show some (((base++[w,w2]).set k _).set (k+1) _)=_;rw[b6z hk]
  rw[hg,Qk,h1,Qk];cases hp:p a with
  |false=>simp only[Zx,Yx];rw[List.filter_cons_of_neg (by simp[hp])];exact e
  |true=>
   simp only[Zs];rw[h2 hp,Qk,List.filter_cons_of_pos hp,Qm];show(j2_ _ t m (l.map _) (base++[.dat (q a),.dat (q2 a)])).map _=_;rw[e];rfl
theorem b6A{α:Type}{mi:Mo (List D)}{keep:List Bool}{t:Mo Bool}{m:Mo D}{env base:Env'}{l:List α}{q q2 f:α->D}{p:α->Bool}{k:Nat}(hi:mi env=some (l.map (fun a=>.tup [q a,q2 a]),env))(hl:l.length≤100000)(hb:w5_ keep 0 env=base)(hk:base.length=k)
  (h:∀a∈l,t (base++[.dat (q a),.dat (q2 a)])=some (p a,base++[.dat (q a),.dat (q2 a)])/\(p a=true->m (base++[.dat (q a),.dat (q2 a)])=some (f a,base++[.dat (q a),.dat (q2 a)])))(ho:∀w w2,w6_ keep env (base++[w,w2])=some env):
  y3_ mi keep 2 (gT 2 (gCn (gN k) (gCn (gN (k+1)) gNl))) t m env=some ((l.filter p).map f,env):=by
 obtain⟨w',w2',e⟩:=b0n hk h .nil .nil;refine a3C hi (by simpa using hl) (e2:=base++[w',w2']) ?_ (ho w' w2')
 have:w5_ keep 2 env=base++[.nil,.nil]:=by rw[←hb];unfold w5_;simp
 rw[this];exact e
theorem b0o{α:Type}{mi:Mo (List D)}{keep:List Bool}{m:Mo D}{env base:Env'}{l:List α}{q q2 f:α->D}{k:Nat}(hi:mi env=some (l.map (fun a=>.tup [q a,q2 a]),env))(hl:l.length≤100000)(hb:w5_ keep 0 env=base)(hk:base.length=k)
  (h:∀a∈l,m (base++[.dat (q a),.dat (q2 a)])=some (f a,base++[.dat (q a),.dat (q2 a)]))(ho:∀w w2,w6_ keep env (base++[w,w2])=some env):y3_ mi keep 2 (gT 2 (gCn (gN k) (gCn (gN (k+1)) gNl))) y9_ m env=some (l.map f,env):=by
 have:=b6A (p:=fun _=>true) (t:=y9_) hi hl hb hk (fun a ha=>⟨rfl,fun _=>h a ha⟩) ho
 rw[this,List.filter_eq_self.mpr (fun _ _=>rfl)]
theorem b0p{g:OZ}{b:Mo Fl}:∀{ds:List D}{P:Nat->Env'->Prop}{env:Env'},(∀i d e,ds[i]? =some d->P i e->∃e1 e2,g d e=some e1/\b e1=some (.nx,e2)/\P (i+1) e2)->P 0 env->∃env',loop g b ds env=some (.nx,env')/\P ds.length env'
 |[],P,env,_,p=>⟨env,rfl,p⟩
 |d::ds,P,env,h,p=>by
  obtain⟨e1,e2,h1,h2,h3⟩:=h 0 d env rfl p;obtain⟨e3,h4,h5⟩:=b0p (ds:=ds) (P:=fun i e=>P (i+1) e) (fun i x e hi q=>h (i+1) x e (by simpa using hi) q) h3
  refine⟨e3,?_,h5⟩;unfold loop;rw[h1];simp only[Qk];rw[h2];exact h4
theorem a3I{g:OZ}{b:Mo Fl}{n:Nat}(P:Nat->Env'->Prop){env:Env'}(h:∀i<n,∀e,P i e->∃e1 e2,g (.int (i:Int)) e=some e1/\b e1=some (.nx,e2)/\P (i+1) e2)(p:P 0 env):∃env',loop g b (rgD n) env=some (.nx,env')/\P n env':=by
 obtain⟨e',h1,h2⟩:=b0p (ds:=rgD n) (g:=g) (b:=b) (P:=P) (env:=env) (fun i d e hi q=>by
  unfold rgD at hi;rw[Zc]at hi
  by_cases hl:i<n
  ·rw[List.getElem?_range hl]at hi
   cases hi;exact h i hl e q
  ·rw[List.getElem?_eq_none (by simpa using hl)]at hi;cases hi) p
 refine⟨e',h1,?_⟩;have:(rgD n).length=n:=by simp[rgD]
 rw[this]at h2;exact h2
theorem c0c{xs:List D}{i:Nat}:a0M xs none (some (i:Int))=xs.take i:=by
 unfold a0M;rw[HT.sIx_nat,HT.sIx_none];simp only[List.drop_zero,Nat.sub_zero]
 by_cases h:i≤xs.length
 ·rw[Nat.min_eq_left h]
 ·rw[Nat.min_eq_right (by omega),Jr (Qu _),Jr (by omega)]
theorem b6B{xs:List D}{i:Nat}:a0M xs (some (i:Int)) none=xs.drop i:=by
 unfold a0M;rw[HT.sIx_nat,HT.sIx_none]
 by_cases h:i≤xs.length
 ·rw[Nat.min_eq_left h,Jr (by simp)]
 ·rw[Nat.min_eq_right (by omega),List.drop_eq_nil_of_le (Qu _),List.drop_eq_nil_of_le (by omega:xs.length≤i)];simp
theorem a5w{m:Mo D}{ml mh:Mo (Option Int)}{e:Env'}{xs:List D}{lo hi:Option Int}(h:m e=some (.tup xs,e))(h1:ml e=some (lo,e))(h2:mh e=some (hi,e)):mSl m ml mh e=some (.tup (a0M xs lo hi),e):=by
 unfold mSl;rw[h,Qk,h1,Qk,h2];rfl
theorem a4L(l:List Int):ints? (l.map D.int)=some l:=by
 induction l with
 |nil=>rfl
 |cons a l ih=>show(ints? (l.map D.int)).map _=_;rw[ih];rfl
theorem y4_{m n:Mo Fl}{e e1:Env'}{r:Option (Fl×Env')}(h:m e=some (.nx,e1))(h2:n e1=r):q0_ m n e=r:=by unfold q0_;rw[h];exact h2
theorem a4M{t:Mo Bool}{m n:Mo Fl}{e e1:Env'}{r:Option (Fl×Env')}(h:t e=some (true,e1))(h2:m e1=r):v9_ t m n e=r:=by unfold v9_;rw[h];exact h2
theorem u6_{t:Mo Bool}{m n:Mo Fl}{e e1:Env'}{r:Option (Fl×Env')}(h:t e=some (false,e1))(h2:n e1=r):v9_ t m n e=r:=by unfold v9_;rw[h];exact h2
theorem a6u{t u:Mo Bool}{e e1:Env'}{r:Option (Bool×Env')}(h:t e=some (false,e1))(h2:u e1=r):k6_ t u e=r:=by unfold k6_;rw[h];exact h2
theorem a0O{n:Nat}{f:Fn}{as:Mo (List Ar)}{env e1:Env'}{av:List Ar}{r:D}{ws':List W}(h:as env=some (av,e1))(hn:av.length=n)(hs:slots av=[])(hf:f (av.map (u2_ (.l [])))=some (.d r,ws')):mCD n f as env=some (r,e1):=a1d (a2f h hn hs hf)
theorem b6C{C N:Nat}(hC:1≤C)(hC2:C≤900){body last:Mo Fl}{ns:List Int}(hb:∀k:Nat,k<1000->∀ws:List W,ws.length=N->∃ws':List W,ws'.length=N+1/\body (.dat (.lst (ns.map D.int))::.dat (.int (k:Int))::ws)=some (.nx,.dat (.lst (ns.map D.int))::ws'))
  (hl:∀ws:List W,ws.length=N+1->∃e,last (.dat (.lst (ns.map D.int))::ws)=some (.ret (.bl true),e)):
  ∃ws',fnM (N+2) (q0_ (w4_ (j0_ (z3_ (mCB a2I (z3_ (mC (.int 1)) (z3_ (mCB a2J (z3_ (mCB y0_ (z3_ (z0_ 0) z6_)) (z3_ (mC (.int (C:Int))) z6_))) z6_))) z6_)) (gN 1) body) last) [.dat (.lst (ns.map D.int))]=some (.d (.bl true),ws'):=by
 obtain⟨K,hK,hr⟩:∃K:Nat,K≤C/\(j0_ (z3_ (mCB a2I (z3_ (mC (.int 1)) (z3_ (mCB a2J (z3_ (mCB y0_ (z3_ (z0_ 0) z6_)) (z3_ (mC (.int (C:Int))) z6_))) z6_))) z6_)) (.dat (.lst (ns.map D.int))::List.replicate (N+1) .nil)=some (rgD K,.dat (.lst (ns.map D.int))::List.replicate (N+1) .nil):=by
  let q:Int:=if(C:Int)<(ns.length:Int)then C else(ns.length:Int)
  let p:Int:=if q>1 then q else 1
  have hq:q≤C:=by simp only[q];split<;>omega
  have hp:1≤p/\p≤C:=by simp only[p];split<;>omega
  refine⟨p.toNat,by omega,a3H (j:=p) (g2_ (x2_ rfl (x2_ (g2_ (x2_ (g2_ (x2_ rfl rfl) (show y0_ [.lst (ns.map .int)]=some (.int (ns.length:Int))from ?_)) (x2_ rfl rfl)) (show a2J [.int (ns.length:Int),.int C]=some (.int q)from rfl)) rfl)) (show a2I [.int 1,.int q]=some (.int p)from rfl)) (by omega) (by omega)⟩
  show some (D.int ((ns.map D.int).length:Nat))=_;rw[Qv]
 obtain⟨e',h1,ws,hws,rfl⟩:=a3I (g:=gN 1) (b:=body) (n:=K) (fun _ e=>∃ws:List W,ws.length=N+1/\e=.dat (.lst (ns.map D.int))::ws) (env:=.dat (.lst (ns.map D.int))::List.replicate (N+1) .nil)
  (fun i hi e ⟨ws,hw,he⟩=>by
   subst he
   match ws,hw with
   |w::ws,hw=>
    obtain⟨ws',h1,h2⟩:=hb i (by omega) ws (by simpa using hw)
    exact⟨_,_,rfl,h2,ws',h1,rfl⟩) ⟨_,by simp,rfl⟩
 obtain⟨e2,h2⟩:=hl ws hws;refine⟨_,x7_ (d:=.bl true) (env:=e2) ?_⟩;show q0_ _ _ (.dat (.lst (ns.map D.int))::List.replicate (N+1) .nil)=_;exact y4_ ((a1z hr).trans h1) h2
theorem b6D{m:Mo D}{i j:Nat}{env e1:Env'}{a b:D}(h:m env=some (.tup [a,b],e1)):w2_ m (gT 2 (gCn (gN i) (gCn (gN j) gNl))) env=some (.nx,(e1.set i (.dat a)).set j (.dat b)):=by
 unfold w2_;rw[h];rfl
theorem b0q{ms:Mo (List D)}{env e1:Env'}{ds:List D}(h:ms env=some (ds,e1))(hl:ds.length≤1000):x6_ ms env=some (.tup ds,e1):=by unfold x6_;rw[h,Qk];simp only[hl,Zs]
theorem b0r{α:Type}(l:List α)(p q:α->D):a0d (l.map p) (l.map q)=l.map fun a=>.tup [p a,q a]:=by
 unfold a0d
 induction l with
 |nil=>rfl
 |cons a l ih=>rw[Qm,Qm,List.zip_cons_cons,Qm,ih,Qm]
theorem b6E{ms:Mo (List D)}{e e1:Env'}{a b:D}{α:Type}{l:List α}{p q:α->D}(h:ms e=some ([a,b],e1))(ha:a.items=some (l.map p))(hb:b.items=some (l.map q)):a0q ms e=some (l.map fun a=>.tup [p a,q a],e1):=by
 unfold a0q;rw[h];show a.items.bind _=_;rw[ha];show b.items.map _=_;rw[hb,Vf,b0r]
theorem a4N{m n:Mo D}{e e1:Env'}{r:Option (D×Env')}(h:m e=some (.bl true,e1))(h2:n e1=r):u0_ m n e=r:=by unfold u0_;rw[h];exact h2
theorem a6v{m n:Mo D}{e e1:Env'}(h:m e=some (.bl false,e1)):u0_ m n e=some (.bl false,e1):=by unfold u0_;rw[h];rfl
theorem b6F{m:Mo D}{i j:Nat}{env e1 e2:Env'}{a b:D}(h:m env=some (.tup [a,b],e1))(he:(e1.set i (.dat a)).set j (.dat b)=e2):w2_ m (gT 2 (gCn (gN i) (gCn (gN j) gNl))) env=some (.nx,e2):=by
 rw[b6D h,he]
theorem a1f{i:Nat}{m:Mo D}{env e1 e2:Env'}{d:D}(h:m env=some (d,e1))(he:e1.set i (.dat d)=e2):v7_ i m env=some (.nx,e2):=by rw[a0r h,he]
theorem b6G{i:Nat}{m:Mo (List D)}{env e1 e2:Env'}{d:List D}(h:m env=some (d,e1))(he:e1.set i (.own d)=e2):a0p i m env=some (.nx,e2):=by rw[b5E h,he]
theorem a0e{N:Nat}{mb:Mo Fl}{ws env ws':List W}{d:D}(h:mb (ws++List.replicate (N-ws.length) .nil)=some (.ret d,env))(he:a0v ws env=ws'):fnM N mb ws=some (.d d,ws'):=by rw[x7_ h,he]
abbrev up(a n:Nat):List Nat:=(List.range (n-a)).map (a+ ·)
end L2.Mir
namespace L2.Mir
open PySem PySem.W
structure DfAt(K:Frag)(x:Str)(st:Stmt)(f:Addr)(pm:Value)(cd:Addr):Prop where
 a:nsIn K mainGlobals x=some (some (.ref f))
 l:K.lookup f=some ⟨.type "function",none,.func (fnOf x x (a1O st) (a0W st) (v5_ st) .none .none .none pm none (.ref cd) .none),⟨[]⟩⟩
 c:codeIn K (.ref cd) x=true
 k:keepIn K (.ref f)=true
theorem DfAt.f{K:Frag}{x:Str}{st:Stmt}{f:Addr}{pm:Value}{cd:Addr}(A:DfAt K x st f pm cd):Fun K x x st f (fnOf x x (a1O st) (a0W st) (v5_ st) .none .none .none pm none (.ref cd) .none):=b3S A.l A.c A.k
theorem DfAt.g{K:Frag}{x:Str}{st:Stmt}{f:Addr}{pm:Value}{cd:Addr}{h:Heap}{mg:OU}(A:DfAt K x st f pm cd)(X:K.In h)(G:h.Ns mainGlobals mg):mg x=some (.ref f):=mg_of X G A.a
theorem dM(P:Program)(w:World)(base:Heap){K:Frag}{x:Str}{st:Stmt}{f cd:Addr}{pm:Value}{k n:Nat}{fn:Fn}{fd:FuncData}{ps:List Str}{h:Heap}{mg:OU}(o:FnOk P w K mg base CX0 k f fd ps (SpF K n fn))(A:DfAt K x st f pm cd)(X:K.In h)(G:h.Ns mainGlobals mg)(b:a0u K fd ps [])(e:ps.length=n:=by rfl):Def P w K mg base x k n fn:=⟨_,_,_,o,e,A.g X G,A.k,b⟩
end L2.Mir
namespace K23
open PySem L2 L2.Mir
def top(i:Nat):Stmt:=PySem.Challenge.pw_turnsigns_k23_whole_nets.main.body.getD i (.Pass ⟨0,0,0,0⟩)
abbrev a6w:Stmt:=top 7
abbrev a6x:Stmt:=top 8
abbrev a6y:Stmt:=top 9
abbrev a6z:Stmt:=top 10
abbrev a6A:Stmt:=top 11
abbrev a6B:Stmt:=top 12
abbrev a6C:Stmt:=top 13
abbrev a6D:Stmt:=top 14
abbrev a6E:Stmt:=top 15
abbrev a6F:Stmt:=top 16
abbrev a6G:Stmt:=top 17
abbrev a6H:Stmt:=top 20
abbrev a6I:Stmt:=top 21
abbrev a6J:Stmt:=top 22
abbrev a6K:Stmt:=top 23
abbrev a6L:Stmt:=top 24
abbrev a6M:Stmt:=top 26
abbrev a6N:Stmt:=top 27
abbrev a6O:Stmt:=top 28
abbrev a6P:Stmt:=top 29
abbrev a6Q:Stmt:=top 30
abbrev a6R:Stmt:=top 31
abbrev a6S:Stmt:=top 32
abbrev a6T:Stmt:=top 33
abbrev a6U:Stmt:=top 34
abbrev a6V:Stmt:=top 36
abbrev a6W:Stmt:=top 37
abbrev a6X:Stmt:=top 38
abbrev a6Y:Stmt:=top 39
abbrev a6Z:Stmt:=top 40
abbrev a7a:Stmt:=top 41
abbrev a7b:Stmt:=top 42
abbrev a7c:Stmt:=top 43
abbrev a7d:Stmt:=top 45
abbrev a7e:Stmt:=top 46
abbrev a7f:Stmt:=top 47
abbrev a7g:Stmt:=top 48
abbrev a7h:Stmt:=top 50
abbrev a7i:Stmt:=top 51
abbrev a7j:Stmt:=top 52
abbrev a7k:Stmt:=top 53
abbrev a7l:Stmt:=top 54
abbrev a7m:Stmt:=top 55
abbrev a7n:Stmt:=top 56
abbrev a2R:Stmt:=top 57
structure Txt(K:Qq)(mg:OU):Prop where
 g_isinstance:mg "isinstance"=none
 g_int:mg "int"=none
 g_bool:mg "bool"=none
 g_all:mg "all"=none
 g_tuple:mg "tuple"=none
 g_len:mg "len"=none
 g_range:mg "range"=none
 g_str:mg "str"=none
 g_zip:mg "zip"=none
 g_min:mg "min"=none
 g_max:mg "max"=none
 g_sum:mg "sum"=none
 n_told_other:Nsd K mg "told_other"
 n_told_slant:Nsd K mg "told_slant"
 n_told_flat:Nsd K mg "told_flat"
 n_told_upright:Nsd K mg "told_upright"
 n_turned_right:Nsd K mg "turned_right"
 n_turned_half:Nsd K mg "turned_half"
 n_turned_left:Nsd K mg "turned_left"
 n_stayed:Nsd K mg "stayed"
 c_GREATEST_SIDE:∃t,mg "GREATEST_SIDE"=some (.int 6 t)
section
variable{P:Program}{w:World}{K:Qq}{mg:OU}{base:Heap}
theorem b6H:FnScope ["thing"] ["thing"] (v5_ a6w):=y2_
def b6I:Mo Fl:=(q8_ (u0_ (mIs "int" (z0_ 0)) (a5J (mIs "bool" (z0_ 0)))))
def a0P:Fn:=fnM 1 b6I
theorem b6J{f:Addr}{fd:FuncData}(F:Fun K "is_whole" "is_whole" a6w f fd)(T:Txt K mg):FnOk P w K mg base CX0 1 f fd ["thing"] (SpF K 1 a0P):=
 y1_ F b6H fun cdv A outer s H E hr=>(@q3_ _ _ _ _ (@v6_ _ _ _ _ _ (@a3q _ _ _ _ _ _ _ _ (@a1t _ _ _ _ _ _ _ _ _ (by exact b4I) (@z2_ _ _ _ _ _ (pv 0)) (by exact rfl) (by exact T.g_isinstance) (by exact rfl) (by exact T.g_int) (by exact b5x) (by decide) (by decide) (by exact se2 rfl rfl)) (@a3p _ _ _ _ _ _ (@b4g _ _ _ _ _ (@a1t _ _ _ _ _ _ _ _ _ (by exact b4J) (@z2_ _ _ _ _ _ (pv 0)) (by exact rfl) (by exact T.g_isinstance) (by exact rfl) (by exact T.g_bool) (by exact b5y) (by decide) (by decide) (by exact se2 rfl rfl)))))))
theorem b6K:FnScope ["thing","least","greatest"] ["thing","least","greatest"] (v5_ a6x):=y2_
def a7o:Mo Fl:=(q8_ (u0_ (mCD 1 a0P (z5_ (z0_ 0) z8_)) (a0B dLe dLe (z0_ 1) (z0_ 0) (z0_ 2))))
def a4O:Fn:=fnM 3 a7o
theorem b6L{f:Addr}{fd:FuncData}(F:Fun K "is_within" "is_within" a6x f fd)(T:Txt K mg)(d_is_whole:Def P w K mg base "is_whole" 1 1 a0P):FnOk P w K mg base CX0 2 f fd ["thing","least","greatest"] (SpF K 3 a4O):=
 y1_ F b6K fun cdv A outer s H E hr=>(@q3_ _ _ _ _ (@v6_ _ _ _ _ _ (@a3q _ _ _ _ _ _ _ _ (@v1_ _ _ _ _ _ _ _ _ _ _ _ (by exact d_is_whole) (by exact(hr.mono (show 1≤1 by decide))) (by exact rfl) (@q2_ _ _ _ _ _ _ (@z2_ _ _ _ _ _ (pv 0)) (@q9_ _ _) (by exact z1_ rfl)) (by decide) (by exact z1_ rfl) (by exact z9_ rfl)) (@a3p _ _ _ _ _ _ (@b4h _ _ _ _ _ _ _ _ _ _ _ _ _ _ _ (by exact a2t) (by exact a2t) (by exact a2y) (by exact a2y) (@z2_ _ _ _ _ _ (pv 1)) (@z2_ _ _ _ _ _ (pv 0)) (@z2_ _ _ _ _ _ (pv 2)) (by with_unfolding_all rfl))))))
theorem b6M:FnScope ["thing","width"] ["thing","width"] (v5_ a6y):=y2_
theorem nd1:(["-0","-1","number"]:List Str).Nodup:=by decide+kernel
def a7p:Mo Fl:=(q0_ (v9_ (k6_ (x5_ (mT (mIs "tuple" (z0_ 0)))) (mT (z4_ (dEq true) (mCB y0_ (z3_ (z0_ 0) z6_)) (z0_ 1)))) (q8_ (mC (.bl false))) mNx) (q8_ (mCB a2H (z3_ (mF (y3_ (x1_ (z0_ 0)) [false,false] 1 (gN 2) y9_ (mCD 1 a0P (z5_ (z0_ 2) z8_)))) z6_))))
def a1g:Fn:=fnM 2 a7p
theorem b6N{f:Addr}{fd:FuncData}(F:Fun K "is_row" "is_row" a6y f fd)(T:Txt K mg)(d_is_whole:Def P w K mg base "is_whole" 1 1 a0P):FnOk P w K mg base CX0 2 f fd ["thing","width"] (SpF K 2 a1g):=
 y1_ F b6M fun cdv A outer s H E hr=>(@v0_ _ _ _ _ _ _ (@k3_ _ _ _ _ _ _ _ _ _ (@a0X _ _ _ _ (@a1U _ _ _ _ _ _ _ _ (@a0h _ _ _ _ _ (@a0o _ _ _ _ (@a1t _ _ _ _ _ _ _ _ _ (by exact a3y) (@z2_ _ _ _ _ _ (pv 0)) (by exact rfl) (by exact T.g_isinstance) (by exact rfl) (by exact T.g_tuple) (by exact u5_) (by decide) (by decide) (by exact se2 rfl rfl)) (by intro _;rfl))) (@a1T _ _ _ _ _ (@w1_ _ _ _ _ _ _ _ _ _ _ (by exact(op_neD hr.units)) (by exact opd_eq) (@k1_ _ _ _ _ _ _ _ _ _ _ _ (by exact j4_) (by exact j5_) (by exact rfl) (by exact T.g_len) (by exact Zq) (@q1_ _ _ _ _ _ _ (@z2_ _ _ _ _ _ (pv 0)) (@q6_ _ _) (by exact z1_ rfl)) (by decide) (by decide) (by exact z1_ rfl) (by exact z9_ rfl)) (@z2_ _ _ _ _ _ (pv 1)) (by exact(nomark _)))))) (@q3_ _ _ _ _ (@v6_ _ _ _ _ _ (@w7_ _ _ _ _ _))) (@k2_ _ _)) (@q3_ _ _ _ _ (@v6_ _ _ _ _ _ (@k1_ _ _ _ _ _ _ _ _ _ _ _ (by exact(a5X rfl)) (by exact a5Y) (by exact rfl) (by exact T.g_all) (by exact a6f) (@q1_ _ _ _ _ _ _ (@u1_ _ _ _ _ (@a0c _ _ ["-0","-1","number"] _ [false,false] 1 _ _ _ _ _ _ _ _ _ (by exact(u4_ rfl rfl)) (by exact rfl) (@u8_ _ _ _ _ _ (@z2_ _ _ _ _ _ (pv 0))) (fun s H fp=>(@y6_ _ _ _ _ 2 _ (by exact(show 2≤2 by decide)) (by exact nd1) (by exact rfl) (by first|exact Or.inl rfl|exact Or.inr rfl) (by first|exact .inl rfl|exact .inr rfl|assumption))) (fun s H fp=>(@a0j _ _)) (fun s H fp=>(@v1_ _ _ _ _ _ _ _ _ _ _ _ (by exact d_is_whole) (by exact(hr.mono (show 1≤1 by decide))) (by exact rfl) (@q2_ _ _ _ _ _ _ (@z2_ _ _ _ _ _ (pv 2)) (@q9_ _ _) (by exact z1_ rfl)) (by decide) (by exact z1_ rfl) (by exact z9_ rfl))) (by intro _;rfl))) (@q6_ _ _) (by exact z1_ rfl)) (by decide) (by decide) (by exact z1_ rfl) (by exact z9_ rfl)))))
theorem b6O:FnScope ["thing","many","width"] ["thing","many","width"] (v5_ a6z):=y2_
theorem nd2:(["-0","-1","width","row"]:List Str).Nodup:=by decide+kernel
def a3J:Mo Fl:=(q0_ (v9_ (k6_ (x5_ (mT (mIs "tuple" (z0_ 0)))) (mT (z4_ (dEq true) (mCB y0_ (z3_ (z0_ 0) z6_)) (z0_ 1)))) (q8_ (mC (.bl false))) mNx) (q8_ (mCB a2H (z3_ (mF (y3_ (x1_ (z0_ 0)) [false,false,true] 1 (gN 3) y9_ (mCD 2 a1g (z5_ (z0_ 3) (z5_ (z0_ 2) z8_))))) z6_))))
def a1E:Fn:=fnM 3 a3J
theorem b6P{f:Addr}{fd:FuncData}(F:Fun K "is_grid" "is_grid" a6z f fd)(T:Txt K mg)(d_is_row:Def P w K mg base "is_row" 2 2 a1g):FnOk P w K mg base CX0 3 f fd ["thing","many","width"] (SpF K 3 a1E):=
 y1_ F b6O fun cdv A outer s H E hr=>(@v0_ _ _ _ _ _ _ (@k3_ _ _ _ _ _ _ _ _ _ (@a0X _ _ _ _ (@a1U _ _ _ _ _ _ _ _ (@a0h _ _ _ _ _ (@a0o _ _ _ _ (@a1t _ _ _ _ _ _ _ _ _ (by exact a3y) (@z2_ _ _ _ _ _ (pv 0)) (by exact rfl) (by exact T.g_isinstance) (by exact rfl) (by exact T.g_tuple) (by exact u5_) (by decide) (by decide) (by exact se2 rfl rfl)) (by intro _;rfl))) (@a1T _ _ _ _ _ (@w1_ _ _ _ _ _ _ _ _ _ _ (by exact(op_neD hr.units)) (by exact opd_eq) (@k1_ _ _ _ _ _ _ _ _ _ _ _ (by exact j4_) (by exact j5_) (by exact rfl) (by exact T.g_len) (by exact Zq) (@q1_ _ _ _ _ _ _ (@z2_ _ _ _ _ _ (pv 0)) (@q6_ _ _) (by exact z1_ rfl)) (by decide) (by decide) (by exact z1_ rfl) (by exact z9_ rfl)) (@z2_ _ _ _ _ _ (pv 1)) (by exact(nomark _)))))) (@q3_ _ _ _ _ (@v6_ _ _ _ _ _ (@w7_ _ _ _ _ _))) (@k2_ _ _)) (@q3_ _ _ _ _ (@v6_ _ _ _ _ _ (@k1_ _ _ _ _ _ _ _ _ _ _ _ (by exact(a5X rfl)) (by exact a5Y) (by exact rfl) (by exact T.g_all) (by exact a6f) (@q1_ _ _ _ _ _ _ (@u1_ _ _ _ _ (@a0c _ _ ["-0","-1","width","row"] _ [false,false,true] 1 _ _ _ _ _ _ _ _ _ (by exact(u4_ rfl rfl)) (by exact rfl) (@u8_ _ _ _ _ _ (@z2_ _ _ _ _ _ (pv 0))) (fun s H fp=>(@y6_ _ _ _ _ 3 _ (by exact(show 3≤3 by decide)) (by exact nd2) (by exact rfl) (by first|exact Or.inl rfl|exact Or.inr rfl) (by first|exact .inl rfl|exact .inr rfl|assumption))) (fun s H fp=>(@a0j _ _)) (fun s H fp=>(@v1_ _ _ _ _ _ _ _ _ _ _ _ (by exact d_is_row) (by exact(hr.mono (show 2≤2 by decide))) (by exact rfl) (@q2_ _ _ _ _ _ _ (@z2_ _ _ _ _ _ (pv 3)) (@q2_ _ _ _ _ _ _ (@z2_ _ _ _ _ _ (pv 2)) (@q9_ _ _) (by exact z1_ rfl)) (by exact z1_ rfl)) (by decide) (by exact z1_ rfl) (by exact z9_ rfl))) (by intro _;rfl))) (@q6_ _ _) (by exact z1_ rfl)) (by decide) (by decide) (by exact z1_ rfl) (by exact z9_ rfl)))))
theorem b6Q:FnScope ["thing","least","greatest"] ["thing","least","greatest"] (v5_ a6A):=y2_
def a3K:Mo Fl:=(q0_ (v9_ (k6_ (x5_ (mT (mIs "tuple" (z0_ 0)))) (x5_ (mT (a0B dLe dLe (z0_ 1) (mCB y0_ (z3_ (z0_ 0) z6_)) (z0_ 2))))) (q8_ (mC (.bl false))) mNx) (q8_ (mCD 3 a1E (z5_ (z0_ 0) (z5_ (mCB y0_ (z3_ (z0_ 0) z6_)) (z5_ (mCB y0_ (z3_ (z0_ 0) z6_)) z8_))))))
def a2S:Fn:=fnM 3 a3K
theorem b6R{f:Addr}{fd:FuncData}(F:Fun K "is_square" "is_square" a6A f fd)(T:Txt K mg)(d_is_grid:Def P w K mg base "is_grid" 3 3 a1E):FnOk P w K mg base CX0 4 f fd ["thing","least","greatest"] (SpF K 3 a2S):=
 y1_ F b6Q fun cdv A outer s H E hr=>(@v0_ _ _ _ _ _ _ (@k3_ _ _ _ _ _ _ _ _ _ (@a0X _ _ _ _ (@a1U _ _ _ _ _ _ _ _ (@a0h _ _ _ _ _ (@a0o _ _ _ _ (@a1t _ _ _ _ _ _ _ _ _ (by exact a3y) (@z2_ _ _ _ _ _ (pv 0)) (by exact rfl) (by exact T.g_isinstance) (by exact rfl) (by exact T.g_tuple) (by exact u5_) (by decide) (by decide) (by exact se2 rfl rfl)) (by intro _;rfl))) (@a1T _ _ _ _ _ (@a0h _ _ _ _ _ (@a9d _ _ _ _ _ _ _ _ _ _ _ _ _ _ _ (by exact a2t) (by exact a2t) (by exact a2y) (by exact a2y) (@z2_ _ _ _ _ _ (pv 1)) (@k1_ _ _ _ _ _ _ _ _ _ _ _ (by exact j4_) (by exact j5_) (by exact rfl) (by exact T.g_len) (by exact Zq) (@q1_ _ _ _ _ _ _ (@z2_ _ _ _ _ _ (pv 0)) (@q6_ _ _) (by exact z1_ rfl)) (by decide) (by decide) (by exact z1_ rfl) (by exact z9_ rfl)) (@z2_ _ _ _ _ _ (pv 2)) (by with_unfolding_all rfl)))))) (@q3_ _ _ _ _ (@v6_ _ _ _ _ _ (@w7_ _ _ _ _ _))) (@k2_ _ _)) (@q3_ _ _ _ _ (@v6_ _ _ _ _ _ (@v1_ _ _ _ _ _ _ _ _ _ _ _ (by exact d_is_grid) (by exact(hr.mono (show 3≤3 by decide))) (by exact rfl) (@q2_ _ _ _ _ _ _ (@z2_ _ _ _ _ _ (pv 0)) (@q2_ _ _ _ _ _ _ (@k1_ _ _ _ _ _ _ _ _ _ _ _ (by exact j4_) (by exact j5_) (by exact rfl) (by exact T.g_len) (by exact Zq) (@q1_ _ _ _ _ _ _ (@z2_ _ _ _ _ _ (pv 0)) (@q6_ _ _) (by exact z1_ rfl)) (by decide) (by decide) (by exact z1_ rfl) (by exact z9_ rfl)) (@q2_ _ _ _ _ _ _ (@k1_ _ _ _ _ _ _ _ _ _ _ _ (by exact j4_) (by exact j5_) (by exact rfl) (by exact T.g_len) (by exact Zq) (@q1_ _ _ _ _ _ _ (@z2_ _ _ _ _ _ (pv 0)) (@q6_ _ _) (by exact z1_ rfl)) (by decide) (by decide) (by exact z1_ rfl) (by exact z9_ rfl)) (@q9_ _ _) (by exact z1_ rfl)) (by exact z1_ rfl)) (by exact z1_ rfl)) (by decide) (by exact z1_ rfl) (by exact z9_ rfl)))))
theorem b6S:FnScope ["grid"] ["grid"] (v5_ a6B):=y2_
theorem nd3:(["grid","at"]:List Str).Nodup:=by decide+kernel
theorem nd4:(["-0","at","row"]:List Str).Nodup:=by decide+kernel
def a7q:Mo Fl:=(q8_ (mCB j6_ (z3_ (mF (y3_ (j0_ (z3_ (mCB y0_ (z3_ (z4_ dIx (z0_ 0) (mC (.int 0))) z6_)) z6_)) [true] 1 (gN 1) y9_ (mCB j6_ (z3_ (mF (y3_ (x1_ (z0_ 0)) [false,true] 1 (gN 2) y9_ (z4_ dIx (z0_ 2) (z0_ 1)))) z6_)))) z6_)))
def g7_:Fn:=fnM 1 a7q
theorem b6T{f:Addr}{fd:FuncData}(F:Fun K "flipped" "flipped" a6B f fd)(T:Txt K mg):FnOk P w K mg base CX0 1 f fd ["grid"] (SpF K 1 g7_):=
 y1_ F b6S fun cdv A outer s H E hr=>(@q3_ _ _ _ _ (@v6_ _ _ _ _ _ (@a0C _ _ _ _ _ _ _ _ _ _ _ (by exact a0A) (by exact a0D) (by exact rfl) (by exact T.g_tuple) (by exact u5_) (@q1_ _ _ _ _ _ _ (@u1_ _ _ _ _ (@a0c _ _ ["grid","at"] _ [true] 1 _ _ _ _ _ _ _ _ _ (by exact(u4_ rfl rfl)) (by exact rfl) (@a1q _ _ _ _ _ _ _ (by exact rfl) (by exact T.g_range) (@q1_ _ _ _ _ _ _ (@k1_ _ _ _ _ _ _ _ _ _ _ _ (by exact j4_) (by exact j5_) (by exact rfl) (by exact T.g_len) (by exact Zq) (@q1_ _ _ _ _ _ _ (@k9_ _ _ _ _ _ _ _ (@z2_ _ _ _ _ _ (pv 0)) (@q4_ _ _ _ _ _) (fun _ _=>rfl)) (@q6_ _ _) (by exact z1_ rfl)) (by decide) (by decide) (by exact z1_ rfl) (by exact z9_ rfl)) (@q6_ _ _) (by exact z1_ rfl)) (by exact se1 rfl)) (fun s H fp=>(@y6_ _ _ _ _ 1 _ (by exact(show 1≤1 by decide)) (by exact nd3) (by exact rfl) (by first|exact Or.inl rfl|exact Or.inr rfl) (by first|exact .inl rfl|exact .inr rfl|assumption))) (fun s H fp=>(@a0j _ _)) (fun s H fp=>(@a0C _ _ _ _ _ _ _ _ _ _ _ (by exact a0A) (by exact a0D) (by exact rfl) (by exact T.g_tuple) (by exact u5_) (@q1_ _ _ _ _ _ _ (@u1_ _ _ _ _ (@a0c _ _ ["-0","at","row"] _ [false,true] 1 _ _ _ _ _ _ _ _ _ (by exact(u4_ rfl rfl)) (by exact rfl) (@u8_ _ _ _ _ _ (@z2_ _ _ _ _ _ (pv 0))) (fun s H fp=>(@y6_ _ _ _ _ 2 _ (by exact(show 2≤2 by decide)) (by exact nd4) (by exact rfl) (by first|exact Or.inl rfl|exact Or.inr rfl) (by first|exact .inl rfl|exact .inr rfl|assumption))) (fun s H fp=>(@a0j _ _)) (fun s H fp=>(@k9_ _ _ _ _ _ _ _ (@z2_ _ _ _ _ _ (pv 2)) (@z2_ _ _ _ _ _ (pv 1)) (fun _ _=>rfl))) (by intro _;rfl))) (@q6_ _ _) (by exact z1_ rfl)) (by decide) (by decide) (by exact z1_ rfl) (by exact z9_ rfl))) (by intro _;rfl))) (@q6_ _ _) (by exact z1_ rfl)) (by decide) (by decide) (by exact z1_ rfl) (by exact z9_ rfl))))
theorem a7r:FnScope ["row","sums","number"] ["row"] (v5_ a6C):=y2_
def a7s:Mo Fl:=(q0_ (a0p 1 (a1l (z3_ (mC (.int 0)) z6_))) (q0_ (w4_ (x1_ (z0_ 0)) (gN 2) (a1W 1 (z4_ y8_ (w9_ 1 (a1k (mC (.int 1)))) (z0_ 2)))) (q8_ (mCB j6_ (z3_ (z0_ 1) z6_)))))
def a3L:Fn:=fnM 3 a7s
theorem b6U{f:Addr}{fd:FuncData}(F:Fun K "running_sums" "running_sums" a6C f fd)(T:Txt K mg):FnOk P w K mg base CX0 1 f fd ["row"] (SpF K 1 a3L):=
 y1_ F a7r fun cdv A outer s H E hr=>(@v0_ _ _ _ _ _ _ (@a5M _ _ _ _ _ 1 _ _ (by exact a7r.nd) (by exact rfl) (by first|exact Or.inl rfl|exact Or.inr rfl) (@a3r _ _ _ _ _ (@q1_ _ _ _ _ _ _ (@q4_ _ _ _ _ _) (@q6_ _ _) (by exact z1_ rfl))) (by rfl) (by first|exact .inl rfl|exact .inr rfl|assumption)) (@v0_ _ _ _ _ _ _ (@a0E _ _ _ _ _ _ _ _ _ (by exact Ze) (by exact rfl) (@u8_ _ _ _ _ _ (@z2_ _ _ _ _ _ (pv 0))) (@y6_ _ _ _ _ 2 _ (by exact(show 0≤2 by decide)) (by exact a7r.nd) (by exact rfl) (by first|exact Or.inl rfl|exact Or.inr rfl) (by first|exact .inl rfl|exact .inr rfl|assumption)) (@q3_ _ _ _ _ (@a4w _ _ _ _ _ _ _ _ _ _ (pv 1) (@q1_ _ _ _ _ _ _ (@y5_ _ _ _ _ _ _ _ _ _ _ (by exact g0_) (by exact g1_) (@a1m _ _ _ _ _ _ _ _ (pv 1) (@a9b _ _ _ _ _ (@q4_ _ _ _ _ _)) (fun _ _=>rfl) (by exact(b5w a1v))) (@z2_ _ _ _ _ _ (pv 2))) (@q6_ _ _) (by exact z1_ rfl)) (by rfl) (by rfl) (by rfl) (by exact z1_ rfl) (by exact z9_ rfl) (by rfl))) (by intro _;rfl)) (@q3_ _ _ _ _ (@v6_ _ _ _ _ _ (@a0C _ _ _ _ _ _ _ _ _ _ _ (by exact a0A) (by exact a0D) (by exact rfl) (by exact T.g_tuple) (by exact u5_) (@q1_ _ _ _ _ _ _ (@z2_ _ _ _ _ _ (pv 1)) (@q6_ _ _) (by exact z1_ rfl)) (by decide) (by decide) (by exact z1_ rfl) (by exact z9_ rfl))))))
theorem b6V:FnScope ["row"] ["row"] (v5_ a6D):=y2_
theorem nd5:(["row","at"]:List Str).Nodup:=by decide+kernel
def a7t:Mo Fl:=(q8_ (mCB j6_ (z3_ (mF (y3_ (a3t (z3_ (mC (.int 1)) (z3_ (mCB y0_ (z3_ (z0_ 0) z6_)) z6_))) [true] 1 (gN 1) y9_ (z4_ w8_ (z4_ dIx (z0_ 0) (z0_ 1)) (z4_ dIx (z0_ 0) (z4_ w8_ (z0_ 1) (mC (.int 1))))))) z6_)))
def a3M:Fn:=fnM 1 a7t
theorem b6W{f:Addr}{fd:FuncData}(F:Fun K "rises" "rises" a6D f fd)(T:Txt K mg):FnOk P w K mg base CX0 1 f fd ["row"] (SpF K 1 a3M):=
 y1_ F b6V fun cdv A outer s H E hr=>(@q3_ _ _ _ _ (@v6_ _ _ _ _ _ (@a0C _ _ _ _ _ _ _ _ _ _ _ (by exact a0A) (by exact a0D) (by exact rfl) (by exact T.g_tuple) (by exact u5_) (@q1_ _ _ _ _ _ _ (@u1_ _ _ _ _ (@a0c _ _ ["row","at"] _ [true] 1 _ _ _ _ _ _ _ _ _ (by exact(u4_ rfl rfl)) (by exact rfl) (@b4q _ _ _ _ _ _ _ _ (by exact rfl) (by exact T.g_range) (@q1_ _ _ _ _ _ _ (@q4_ _ _ _ _ _) (@q1_ _ _ _ _ _ _ (@k1_ _ _ _ _ _ _ _ _ _ _ _ (by exact j4_) (by exact j5_) (by exact rfl) (by exact T.g_len) (by exact Zq) (@q1_ _ _ _ _ _ _ (@z2_ _ _ _ _ _ (pv 0)) (@q6_ _ _) (by exact z1_ rfl)) (by decide) (by decide) (by exact z1_ rfl) (by exact z9_ rfl)) (@q6_ _ _) (by exact z1_ rfl)) (by exact z1_ rfl)) (by exact se2 rfl rfl) (by exact se1 rfl)) (fun s H fp=>(@y6_ _ _ _ _ 1 _ (by exact(show 1≤1 by decide)) (by exact nd5) (by exact rfl) (by first|exact Or.inl rfl|exact Or.inr rfl) (by first|exact .inl rfl|exact .inr rfl|assumption))) (fun s H fp=>(@a0j _ _)) (fun s H fp=>(@y5_ _ _ _ _ _ _ _ _ _ _ (by exact a1L) (by exact a1S) (@k9_ _ _ _ _ _ _ _ (@z2_ _ _ _ _ _ (pv 0)) (@z2_ _ _ _ _ _ (pv 1)) (fun _ _=>rfl)) (@k9_ _ _ _ _ _ _ _ (@z2_ _ _ _ _ _ (pv 0)) (@y5_ _ _ _ _ _ _ _ _ _ _ (by exact a1L) (by exact a1S) (@z2_ _ _ _ _ _ (pv 1)) (@q4_ _ _ _ _ _)) (fun _ _=>rfl)))) (by intro _;rfl))) (@q6_ _ _) (by exact z1_ rfl)) (by decide) (by decide) (by exact z1_ rfl) (by exact z9_ rfl))))
theorem b6X:FnScope ["grid"] ["grid"] (v5_ a6E):=y2_
theorem nd6:(["-0","row"]:List Str).Nodup:=by decide+kernel
def b0s:Mo Fl:=(q8_ (mCB j6_ (z3_ (mF (y3_ (x1_ (z0_ 0)) [false] 1 (gN 1) y9_ (mCD 1 a3L (z5_ (z0_ 1) z8_)))) z6_)))
def a0Q:Fn:=fnM 1 b0s
theorem b6Y{f:Addr}{fd:FuncData}(F:Fun K "sums_across" "sums_across" a6E f fd)(T:Txt K mg)(d_running_sums:Def P w K mg base "running_sums" 1 1 a3L):FnOk P w K mg base CX0 2 f fd ["grid"] (SpF K 1 a0Q):=
 y1_ F b6X fun cdv A outer s H E hr=>(@q3_ _ _ _ _ (@v6_ _ _ _ _ _ (@a0C _ _ _ _ _ _ _ _ _ _ _ (by exact a0A) (by exact a0D) (by exact rfl) (by exact T.g_tuple) (by exact u5_) (@q1_ _ _ _ _ _ _ (@u1_ _ _ _ _ (@a0c _ _ ["-0","row"] _ [false] 1 _ _ _ _ _ _ _ _ _ (by exact(u4_ rfl rfl)) (by exact rfl) (@u8_ _ _ _ _ _ (@z2_ _ _ _ _ _ (pv 0))) (fun s H fp=>(@y6_ _ _ _ _ 1 _ (by exact(show 1≤1 by decide)) (by exact nd6) (by exact rfl) (by first|exact Or.inl rfl|exact Or.inr rfl) (by first|exact .inl rfl|exact .inr rfl|assumption))) (fun s H fp=>(@a0j _ _)) (fun s H fp=>(@v1_ _ _ _ _ _ _ _ _ _ _ _ (by exact d_running_sums) (by exact(hr.mono (show 1≤1 by decide))) (by exact rfl) (@q2_ _ _ _ _ _ _ (@z2_ _ _ _ _ _ (pv 1)) (@q9_ _ _) (by exact z1_ rfl)) (by decide) (by exact z1_ rfl) (by exact z9_ rfl))) (by intro _;rfl))) (@q6_ _ _) (by exact z1_ rfl)) (by decide) (by decide) (by exact z1_ rfl) (by exact z9_ rfl))))
theorem b6Z:FnScope ["grid"] ["grid"] (v5_ a6F):=y2_
def a7u:Mo Fl:=(q8_ (mCD 1 g7_ (z5_ (mCD 1 a0Q (z5_ (mCD 1 g7_ (z5_ (z0_ 0) z8_)) z8_)) z8_)))
def a2i:Fn:=fnM 1 a7u
theorem b7a{f:Addr}{fd:FuncData}(F:Fun K "sums_down" "sums_down" a6F f fd)(T:Txt K mg)(d_flipped:Def P w K mg base "flipped" 1 1 g7_)(d_sums_across:Def P w K mg base "sums_across" 2 1 a0Q):FnOk P w K mg base CX0 3 f fd ["grid"] (SpF K 1 a2i):=
 y1_ F b6Z fun cdv A outer s H E hr=>(@q3_ _ _ _ _ (@v6_ _ _ _ _ _ (@v1_ _ _ _ _ _ _ _ _ _ _ _ (by exact d_flipped) (by exact(hr.mono (show 1≤2 by decide))) (by exact rfl) (@q2_ _ _ _ _ _ _ (@v1_ _ _ _ _ _ _ _ _ _ _ _ (by exact d_sums_across) (by exact(hr.mono (show 2≤2 by decide))) (by exact rfl) (@q2_ _ _ _ _ _ _ (@v1_ _ _ _ _ _ _ _ _ _ _ _ (by exact d_flipped) (by exact(hr.mono (show 1≤2 by decide))) (by exact rfl) (@q2_ _ _ _ _ _ _ (@z2_ _ _ _ _ _ (pv 0)) (@q9_ _ _) (by exact z1_ rfl)) (by decide) (by exact z1_ rfl) (by exact z9_ rfl)) (@q9_ _ _) (by exact z1_ rfl)) (by decide) (by exact z1_ rfl) (by exact z9_ rfl)) (@q9_ _ _) (by exact z1_ rfl)) (by decide) (by exact z1_ rfl) (by exact z9_ rfl))))
theorem b7b:FnScope ["grid"] ["grid"] (v5_ a6G):=y2_
theorem nd7:(["-0","row"]:List Str).Nodup:=by decide+kernel
def b0t:Mo Fl:=(q8_ (mCB j6_ (z3_ (mF (y3_ (x1_ (z0_ 0)) [false] 1 (gN 1) y9_ (mCD 1 a3M (z5_ (z0_ 1) z8_)))) z6_)))
def a2j:Fn:=fnM 1 b0t
theorem b7c{f:Addr}{fd:FuncData}(F:Fun K "rises_across" "rises_across" a6G f fd)(T:Txt K mg)(d_rises:Def P w K mg base "rises" 1 1 a3M):FnOk P w K mg base CX0 2 f fd ["grid"] (SpF K 1 a2j):=
 y1_ F b7b fun cdv A outer s H E hr=>(@q3_ _ _ _ _ (@v6_ _ _ _ _ _ (@a0C _ _ _ _ _ _ _ _ _ _ _ (by exact a0A) (by exact a0D) (by exact rfl) (by exact T.g_tuple) (by exact u5_) (@q1_ _ _ _ _ _ _ (@u1_ _ _ _ _ (@a0c _ _ ["-0","row"] _ [false] 1 _ _ _ _ _ _ _ _ _ (by exact(u4_ rfl rfl)) (by exact rfl) (@u8_ _ _ _ _ _ (@z2_ _ _ _ _ _ (pv 0))) (fun s H fp=>(@y6_ _ _ _ _ 1 _ (by exact(show 1≤1 by decide)) (by exact nd7) (by exact rfl) (by first|exact Or.inl rfl|exact Or.inr rfl) (by first|exact .inl rfl|exact .inr rfl|assumption))) (fun s H fp=>(@a0j _ _)) (fun s H fp=>(@v1_ _ _ _ _ _ _ _ _ _ _ _ (by exact d_rises) (by exact(hr.mono (show 1≤1 by decide))) (by exact rfl) (@q2_ _ _ _ _ _ _ (@z2_ _ _ _ _ _ (pv 1)) (@q9_ _ _) (by exact z1_ rfl)) (by decide) (by exact z1_ rfl) (by exact z9_ rfl))) (by intro _;rfl))) (@q6_ _ _) (by exact z1_ rfl)) (by decide) (by decide) (by exact z1_ rfl) (by exact z9_ rfl))))
theorem a4P:FnScope ["line","total","number"] ["line"] (v5_ a6H):=y2_
def a3N:Mo Fl:=(q0_ (v7_ 1 (mC (.int 0))) (q0_ (w4_ (x1_ (z0_ 0)) (gN 2) (q0_ (a4v 1 a4s (z0_ 2)) (v9_ (mT (z4_ (dIn true) (z0_ 1) (x6_ (z3_ (mC (.int 0)) (z3_ (mC (.int 1)) z6_))))) (q8_ (mC (.bl false))) mNx))) (q8_ (z4_ (dEq false) (z0_ 1) (mC (.int 1))))))
def a2k:Fn:=fnM 3 a3N
theorem b7d{f:Addr}{fd:FuncData}(F:Fun K "takes_turns" "takes_turns" a6H f fd)(T:Txt K mg):FnOk P w K mg base CX0 1 f fd ["line"] (SpF K 1 a2k):=
 y1_ F a4P fun cdv A outer s H E hr=>(@v0_ _ _ _ _ _ _ (@k4_ _ _ _ _ _ 1 _ _ (by exact a4P.nd) (by exact rfl) (by first|exact Or.inl rfl|exact Or.inr rfl) (@q4_ _ _ _ _ _) (by rfl) (by first|exact .inl rfl|exact .inr rfl|assumption)) (@v0_ _ _ _ _ _ _ (@a0E _ _ _ _ _ _ _ _ _ (by exact Ze) (by exact rfl) (@u8_ _ _ _ _ _ (@z2_ _ _ _ _ _ (pv 0))) (@y6_ _ _ _ _ 2 _ (by exact(show 0≤2 by decide)) (by exact a4P.nd) (by exact rfl) (by first|exact Or.inl rfl|exact Or.inr rfl) (by first|exact .inl rfl|exact .inr rfl|assumption)) (@v0_ _ _ _ _ _ _ (@b4k _ _ _ _ _ 1 _ _ _ _ _ (by exact a4P.nd) (by exact rfl) (by first|exact Or.inl rfl|exact Or.inr rfl) (@z2_ _ _ _ _ _ (pv 2)) (by exact b3c) (by exact a8W) (by first|exact .inl rfl|exact .inr rfl|assumption)) (@q3_ _ _ _ _ (@k3_ _ _ _ _ _ _ _ _ _ (@w1_ _ _ _ _ _ _ _ _ _ _ (by exact b3M) (by exact b4P) (@z2_ _ _ _ _ _ (pv 1)) (@g4_ _ _ _ _ _ _ (@q1_ _ _ _ _ _ _ (@q4_ _ _ _ _ _) (@q1_ _ _ _ _ _ _ (@q4_ _ _ _ _ _) (@q6_ _ _) (by exact z1_ rfl)) (by exact z1_ rfl))) (by with_unfolding_all rfl)) (@q3_ _ _ _ _ (@v6_ _ _ _ _ _ (@w7_ _ _ _ _ _))) (@k2_ _ _)))) (by intro _;rfl)) (@q3_ _ _ _ _ (@v6_ _ _ _ _ _ (@a8V _ _ _ _ _ _ _ _ _ _ (by exact(op_eqD hr.units)) (by exact opd_eq) (@z2_ _ _ _ _ _ (pv 1)) (@q4_ _ _ _ _ _) (by exact(nomark _)))))))
theorem b7e:FnScope ["thing"] ["thing"] (v5_ a6I):=y2_
theorem nd8:(["-0","line"]:List Str).Nodup:=by decide+kernel
def a7v:Mo Fl:=(q0_ (v9_ (x5_ (mT (mCD 3 a2S (z5_ (z0_ 0) (z5_ (mC (.int 1)) (z5_ (mC (.int 6)) z8_)))))) (q8_ (mC (.bl false))) mNx) (q8_ (mCB a2H (z3_ (mF (y3_ (x1_ (z4_ y8_ (z0_ 0) (mCD 1 g7_ (z5_ (z0_ 0) z8_)))) [false] 1 (gN 1) y9_ (mCD 1 a2k (z5_ (z0_ 1) z8_)))) z6_))))
def a1h:Fn:=fnM 1 a7v
theorem b7f{f:Addr}{fd:FuncData}(F:Fun K "is_table" "is_table" a6I f fd)(T:Txt K mg)(d_is_square:Def P w K mg base "is_square" 4 3 a2S)(d_takes_turns:Def P w K mg base "takes_turns" 1 1 a2k)(d_flipped:Def P w K mg base "flipped" 1 1 g7_):FnOk P w K mg base CX0 5 f fd ["thing"] (SpF K 1 a1h):=
 y1_ F b7e fun cdv A outer s H E hr=>(@v0_ _ _ _ _ _ _ (@k3_ _ _ _ _ _ _ _ _ _ (@a0h _ _ _ _ _ (@a0o _ _ _ _ (@v1_ _ _ _ _ _ _ _ _ _ _ _ (by exact d_is_square) (by exact(hr.mono (show 4≤4 by decide))) (by exact rfl) (@q2_ _ _ _ _ _ _ (@z2_ _ _ _ _ _ (pv 0)) (@q2_ _ _ _ _ _ _ (@q4_ _ _ _ _ _) (@q2_ _ _ _ _ _ _ (@a9O _ _ _ _ _ (by exact rfl) (by exact T.c_GREATEST_SIDE) (by decide)) (@q9_ _ _) (by exact z1_ rfl)) (by exact z1_ rfl)) (by exact z1_ rfl)) (by decide) (by exact z1_ rfl) (by exact z9_ rfl)) (by intro _;rfl))) (@q3_ _ _ _ _ (@v6_ _ _ _ _ _ (@w7_ _ _ _ _ _))) (@k2_ _ _)) (@q3_ _ _ _ _ (@v6_ _ _ _ _ _ (@k1_ _ _ _ _ _ _ _ _ _ _ _ (by exact(a5X rfl)) (by exact a5Y) (by exact rfl) (by exact T.g_all) (by exact a6f) (@q1_ _ _ _ _ _ _ (@u1_ _ _ _ _ (@a0c _ _ ["-0","line"] _ [false] 1 _ _ _ _ _ _ _ _ _ (by exact(u4_ rfl rfl)) (by exact rfl) (@u8_ _ _ _ _ _ (@y5_ _ _ _ _ _ _ _ _ _ _ (by exact g0_) (by exact g1_) (@z2_ _ _ _ _ _ (pv 0)) (@v1_ _ _ _ _ _ _ _ _ _ _ _ (by exact d_flipped) (by exact(hr.mono (show 1≤4 by decide))) (by exact rfl) (@q2_ _ _ _ _ _ _ (@z2_ _ _ _ _ _ (pv 0)) (@q9_ _ _) (by exact z1_ rfl)) (by decide) (by exact z1_ rfl) (by exact z9_ rfl)))) (fun s H fp=>(@y6_ _ _ _ _ 1 _ (by exact(show 1≤1 by decide)) (by exact nd8) (by exact rfl) (by first|exact Or.inl rfl|exact Or.inr rfl) (by first|exact .inl rfl|exact .inr rfl|assumption))) (fun s H fp=>(@a0j _ _)) (fun s H fp=>(@v1_ _ _ _ _ _ _ _ _ _ _ _ (by exact d_takes_turns) (by exact(hr.mono (show 1≤4 by decide))) (by exact rfl) (@q2_ _ _ _ _ _ _ (@z2_ _ _ _ _ _ (pv 1)) (@q9_ _ _) (by exact z1_ rfl)) (by decide) (by exact z1_ rfl) (by exact z9_ rfl))) (by intro _;rfl))) (@q6_ _ _) (by exact z1_ rfl)) (by decide) (by decide) (by exact z1_ rfl) (by exact z9_ rfl)))))
theorem b7g:FnScope ["thing"] ["thing"] (v5_ a6J):=y2_
def a7w:Mo Fl:=(v9_ (x5_ (mT (mCD 1 a1h (z5_ (z0_ 0) z8_)))) a2A mNx)
def a0y:Fn:=fnM 1 a7w
theorem b7h{f:Addr}{fd:FuncData}(F:Fun K "must_be_table" "must_be_table" a6J f fd)(T:Txt K mg)(d_is_table:Def P w K mg base "is_table" 5 1 a1h):FnOk P w K mg base CX0 6 f fd ["thing"] (SpF K 1 a0y):=
 y1_ F b7g fun cdv A outer s H E hr=>(@q3_ _ _ _ _ (@k3_ _ _ _ _ _ _ _ _ _ (@a0h _ _ _ _ _ (@a0o _ _ _ _ (@v1_ _ _ _ _ _ _ _ _ _ _ _ (by exact d_is_table) (by exact(hr.mono (show 5≤5 by decide))) (by exact rfl) (@q2_ _ _ _ _ _ _ (@z2_ _ _ _ _ _ (pv 0)) (@q9_ _ _) (by exact z1_ rfl)) (by decide) (by exact z1_ rfl) (by exact z9_ rfl)) (by intro _;rfl))) (@q3_ _ _ _ _ (@a3s _ _ _)) (@k2_ _ _)))
theorem b7i:FnScope ["table"] ["table"] (v5_ a6K):=y2_
def a7x:Mo Fl:=(q8_ (mCD 1 a0Q (z5_ (mCD 1 a2i (z5_ (z0_ 0) z8_)) z8_)))
def a4Q:Fn:=fnM 1 a7x
theorem b7j{f:Addr}{fd:FuncData}(F:Fun K "summed" "summed" a6K f fd)(T:Txt K mg)(d_sums_across:Def P w K mg base "sums_across" 2 1 a0Q)(d_sums_down:Def P w K mg base "sums_down" 3 1 a2i):FnOk P w K mg base CX0 4 f fd ["table"] (SpF K 1 a4Q):=
 y1_ F b7i fun cdv A outer s H E hr=>(@q3_ _ _ _ _ (@v6_ _ _ _ _ _ (@v1_ _ _ _ _ _ _ _ _ _ _ _ (by exact d_sums_across) (by exact(hr.mono (show 2≤3 by decide))) (by exact rfl) (@q2_ _ _ _ _ _ _ (@v1_ _ _ _ _ _ _ _ _ _ _ _ (by exact d_sums_down) (by exact(hr.mono (show 3≤3 by decide))) (by exact rfl) (@q2_ _ _ _ _ _ _ (@z2_ _ _ _ _ _ (pv 0)) (@q9_ _ _) (by exact z1_ rfl)) (by decide) (by exact z1_ rfl) (by exact z9_ rfl)) (@q9_ _ _) (by exact z1_ rfl)) (by decide) (by exact z1_ rfl) (by exact z9_ rfl))))
theorem b7k:FnScope ["table"] ["table"] (v5_ a6L):=y2_
def a7y:Mo Fl:=(q0_ (a1e (mCD 1 a0y (z5_ (z0_ 0) z8_))) (q8_ (mCD 1 a4Q (z5_ (z0_ 0) z8_))))
def a3O:Fn:=fnM 1 a7y
theorem b7l{f:Addr}{fd:FuncData}(F:Fun K "heights_of" "heights_of" a6L f fd)(T:Txt K mg)(d_must_be_table:Def P w K mg base "must_be_table" 6 1 a0y)(d_summed:Def P w K mg base "summed" 4 1 a4Q):FnOk P w K mg base CX0 7 f fd ["table"] (SpF K 1 a3O):=
 y1_ F b7k fun cdv A outer s H E hr=>(@v0_ _ _ _ _ _ _ (@a2O _ _ _ _ _ (@v1_ _ _ _ _ _ _ _ _ _ _ _ (by exact d_must_be_table) (by exact(hr.mono (show 6≤6 by decide))) (by exact rfl) (@q2_ _ _ _ _ _ _ (@z2_ _ _ _ _ _ (pv 0)) (@q9_ _ _) (by exact z1_ rfl)) (by decide) (by exact z1_ rfl) (by exact z9_ rfl)) (by rfl)) (@q3_ _ _ _ _ (@v6_ _ _ _ _ _ (@v1_ _ _ _ _ _ _ _ _ _ _ _ (by exact d_summed) (by exact(hr.mono (show 4≤6 by decide))) (by exact rfl) (@q2_ _ _ _ _ _ _ (@z2_ _ _ _ _ _ (pv 0)) (@q9_ _ _) (by exact z1_ rfl)) (by decide) (by exact z1_ rfl) (by exact z9_ rfl)))))
theorem b7m:FnScope ["table"] ["table"] (v5_ a6M):=y2_
def a7z:Mo Fl:=(q8_ (x6_ (z3_ (mCD 1 a0Q (z5_ (z0_ 0) z8_)) (z3_ (mCD 1 a2i (z5_ (z0_ 0) z8_)) z6_))))
def a0R:Fn:=fnM 1 a7z
theorem b7n{f:Addr}{fd:FuncData}(F:Fun K "spun" "spun" a6M f fd)(T:Txt K mg)(d_sums_across:Def P w K mg base "sums_across" 2 1 a0Q)(d_sums_down:Def P w K mg base "sums_down" 3 1 a2i):FnOk P w K mg base CX0 4 f fd ["table"] (SpF K 1 a0R):=
 y1_ F b7m fun cdv A outer s H E hr=>(@q3_ _ _ _ _ (@v6_ _ _ _ _ _ (@g4_ _ _ _ _ _ _ (@q1_ _ _ _ _ _ _ (@v1_ _ _ _ _ _ _ _ _ _ _ _ (by exact d_sums_across) (by exact(hr.mono (show 2≤3 by decide))) (by exact rfl) (@q2_ _ _ _ _ _ _ (@z2_ _ _ _ _ _ (pv 0)) (@q9_ _ _) (by exact z1_ rfl)) (by decide) (by exact z1_ rfl) (by exact z9_ rfl)) (@q1_ _ _ _ _ _ _ (@v1_ _ _ _ _ _ _ _ _ _ _ _ (by exact d_sums_down) (by exact(hr.mono (show 3≤3 by decide))) (by exact rfl) (@q2_ _ _ _ _ _ _ (@z2_ _ _ _ _ _ (pv 0)) (@q9_ _ _) (by exact z1_ rfl)) (by decide) (by exact z1_ rfl) (by exact z9_ rfl)) (@q6_ _ _) (by exact z1_ rfl)) (by exact z1_ rfl)))))
theorem a4R:FnScope ["thing","side","across","down"] ["thing"] (v5_ a6N):=y2_
def a2l:Mo Fl:=(q0_ (v9_ (k6_ (x5_ (mT (mIs "tuple" (z0_ 0)))) (mT (z4_ (dEq true) (mCB y0_ (z3_ (z0_ 0) z6_)) (mC (.int 2))))) (q8_ (mC (.bl false))) mNx) (q0_ (w2_ (z0_ 0) (gT 2 (gCn (gN 2) (gCn (gN 3) gNl)))) (q0_ (v9_ (k6_ (x5_ (mT (mIs "tuple" (z0_ 2)))) (x5_ (mT (a0B dLe dLe (mC (.int 1)) (mCB y0_ (z3_ (z0_ 2) z6_)) (mC (.int 6)))))) (q8_ (mC (.bl false))) mNx) (q0_ (v7_ 1 (mCB y0_ (z3_ (z0_ 2) z6_))) (q8_ (u0_ (mCD 3 a1E (z5_ (z0_ 2) (z5_ (z0_ 1) (z5_ (z4_ y8_ (z0_ 1) (mC (.int 1))) z8_)))) (mCD 3 a1E (z5_ (z0_ 3) (z5_ (z4_ y8_ (z0_ 1) (mC (.int 1))) (z5_ (z0_ 1) z8_))))))))))
def a2T:Fn:=fnM 4 a2l
theorem b7o{f:Addr}{fd:FuncData}(F:Fun K "has_net_shape" "has_net_shape" a6N f fd)(T:Txt K mg)(d_is_grid:Def P w K mg base "is_grid" 3 3 a1E):FnOk P w K mg base CX0 4 f fd ["thing"] (SpF K 1 a2T):=
 y1_ F a4R fun cdv A outer s H E hr=>(@v0_ _ _ _ _ _ _ (@k3_ _ _ _ _ _ _ _ _ _ (@a0X _ _ _ _ (@a1U _ _ _ _ _ _ _ _ (@a0h _ _ _ _ _ (@a0o _ _ _ _ (@a1t _ _ _ _ _ _ _ _ _ (by exact a3y) (@z2_ _ _ _ _ _ (pv 0)) (by exact rfl) (by exact T.g_isinstance) (by exact rfl) (by exact T.g_tuple) (by exact u5_) (by decide) (by decide) (by exact se2 rfl rfl)) (by intro _;rfl))) (@a1T _ _ _ _ _ (@w1_ _ _ _ _ _ _ _ _ _ _ (by exact(op_neD hr.units)) (by exact opd_eq) (@k1_ _ _ _ _ _ _ _ _ _ _ _ (by exact j4_) (by exact j5_) (by exact rfl) (by exact T.g_len) (by exact Zq) (@q1_ _ _ _ _ _ _ (@z2_ _ _ _ _ _ (pv 0)) (@q6_ _ _) (by exact z1_ rfl)) (by decide) (by decide) (by exact z1_ rfl) (by exact z9_ rfl)) (@q4_ _ _ _ _ _) (by exact(nomark _)))))) (@q3_ _ _ _ _ (@v6_ _ _ _ _ _ (@w7_ _ _ _ _ _))) (@k2_ _ _)) (@v0_ _ _ _ _ _ _ (@a2B _ _ _ _ _ _ _ (@z2_ _ _ _ _ _ (pv 0)) (@a1p _ _ _ _ _ _ _ _ (by exact rfl) (@j7_ _ _ _ _ _ _ _ (@y6_ _ _ _ _ 2 _ (by exact(show 0≤2 by decide)) (by exact a4R.nd) (by exact rfl) (by first|exact Or.inl rfl|exact Or.inr rfl) (by first|exact .inl rfl|exact .inr rfl|assumption)) (@j7_ _ _ _ _ _ _ _ (@y6_ _ _ _ _ 3 _ (by exact(show 0≤3 by decide)) (by exact a4R.nd) (by exact rfl) (by first|exact Or.inl rfl|exact Or.inr rfl) (by first|exact .inl rfl|exact .inr rfl|assumption)) (@a1o _ _ _) (by rfl)) (by rfl)) (by rfl) (by rfl)) (by rfl) (by rfl) (by rfl)) (@v0_ _ _ _ _ _ _ (@k3_ _ _ _ _ _ _ _ _ _ (@a0X _ _ _ _ (@a1U _ _ _ _ _ _ _ _ (@a0h _ _ _ _ _ (@a0o _ _ _ _ (@a1t _ _ _ _ _ _ _ _ _ (by exact a3y) (@z2_ _ _ _ _ _ (pv 2)) (by exact rfl) (by exact T.g_isinstance) (by exact rfl) (by exact T.g_tuple) (by exact u5_) (by decide) (by decide) (by exact se2 rfl rfl)) (by intro _;rfl))) (@a1T _ _ _ _ _ (@a0h _ _ _ _ _ (@a9d _ _ _ _ _ _ _ _ _ _ _ _ _ _ _ (by exact a2t) (by exact a2t) (by exact a2y) (by exact a2y) (@q4_ _ _ _ _ _) (@k1_ _ _ _ _ _ _ _ _ _ _ _ (by exact j4_) (by exact j5_) (by exact rfl) (by exact T.g_len) (by exact Zq) (@q1_ _ _ _ _ _ _ (@z2_ _ _ _ _ _ (pv 2)) (@q6_ _ _) (by exact z1_ rfl)) (by decide) (by decide) (by exact z1_ rfl) (by exact z9_ rfl)) (@a9O _ _ _ _ _ (by exact rfl) (by exact T.c_GREATEST_SIDE) (by decide)) (by with_unfolding_all rfl)))))) (@q3_ _ _ _ _ (@v6_ _ _ _ _ _ (@w7_ _ _ _ _ _))) (@k2_ _ _)) (@v0_ _ _ _ _ _ _ (@k4_ _ _ _ _ _ 1 _ _ (by exact a4R.nd) (by exact rfl) (by first|exact Or.inl rfl|exact Or.inr rfl) (@k1_ _ _ _ _ _ _ _ _ _ _ _ (by exact j4_) (by exact j5_) (by exact rfl) (by exact T.g_len) (by exact Zq) (@q1_ _ _ _ _ _ _ (@z2_ _ _ _ _ _ (pv 2)) (@q6_ _ _) (by exact z1_ rfl)) (by decide) (by decide) (by exact z1_ rfl) (by exact z9_ rfl)) (by rfl) (by first|exact .inl rfl|exact .inr rfl|assumption)) (@q3_ _ _ _ _ (@v6_ _ _ _ _ _ (@a3q _ _ _ _ _ _ _ _ (@v1_ _ _ _ _ _ _ _ _ _ _ _ (by exact d_is_grid) (by exact(hr.mono (show 3≤3 by decide))) (by exact rfl) (@q2_ _ _ _ _ _ _ (@z2_ _ _ _ _ _ (pv 2)) (@q2_ _ _ _ _ _ _ (@z2_ _ _ _ _ _ (pv 1)) (@q2_ _ _ _ _ _ _ (@y5_ _ _ _ _ _ _ _ _ _ _ (by exact g0_) (by exact g1_) (@z2_ _ _ _ _ _ (pv 1)) (@q4_ _ _ _ _ _)) (@q9_ _ _) (by exact z1_ rfl)) (by exact z1_ rfl)) (by exact z1_ rfl)) (by decide) (by exact z1_ rfl) (by exact z9_ rfl)) (@a3p _ _ _ _ _ _ (@v1_ _ _ _ _ _ _ _ _ _ _ _ (by exact d_is_grid) (by exact(hr.mono (show 3≤3 by decide))) (by exact rfl) (@q2_ _ _ _ _ _ _ (@z2_ _ _ _ _ _ (pv 3)) (@q2_ _ _ _ _ _ _ (@y5_ _ _ _ _ _ _ _ _ _ _ (by exact g0_) (by exact g1_) (@z2_ _ _ _ _ _ (pv 1)) (@q4_ _ _ _ _ _)) (@q2_ _ _ _ _ _ _ (@z2_ _ _ _ _ _ (pv 1)) (@q9_ _ _) (by exact z1_ rfl)) (by exact z1_ rfl)) (by exact z1_ rfl)) (by decide) (by exact z1_ rfl) (by exact z9_ rfl))))))))))
theorem b7p:FnScope ["table"] ["table"] (v5_ a6O):=y2_
def a7A:Mo Fl:=(q0_ (a1e (mCD 1 a0y (z5_ (z0_ 0) z8_))) (q8_ (mCD 1 a0R (z5_ (z0_ 0) z8_))))
def a2m:Fn:=fnM 1 a7A
theorem b7q{f:Addr}{fd:FuncData}(F:Fun K "net_of" "net_of" a6O f fd)(T:Txt K mg)(d_must_be_table:Def P w K mg base "must_be_table" 6 1 a0y)(d_spun:Def P w K mg base "spun" 4 1 a0R):FnOk P w K mg base CX0 7 f fd ["table"] (SpF K 1 a2m):=
 y1_ F b7p fun cdv A outer s H E hr=>(@v0_ _ _ _ _ _ _ (@a2O _ _ _ _ _ (@v1_ _ _ _ _ _ _ _ _ _ _ _ (by exact d_must_be_table) (by exact(hr.mono (show 6≤6 by decide))) (by exact rfl) (@q2_ _ _ _ _ _ _ (@z2_ _ _ _ _ _ (pv 0)) (@q9_ _ _) (by exact z1_ rfl)) (by decide) (by exact z1_ rfl) (by exact z9_ rfl)) (by rfl)) (@q3_ _ _ _ _ (@v6_ _ _ _ _ _ (@v1_ _ _ _ _ _ _ _ _ _ _ _ (by exact d_spun) (by exact(hr.mono (show 4≤6 by decide))) (by exact rfl) (@q2_ _ _ _ _ _ _ (@z2_ _ _ _ _ _ (pv 0)) (@q9_ _ _) (by exact z1_ rfl)) (by decide) (by exact z1_ rfl) (by exact z9_ rfl)))))
theorem b0u:FnScope ["thing","table"] ["thing"] (v5_ a6P):=y2_
def a3P:Mo Fl:=(q0_ (v9_ (x5_ (mT (mCD 1 a2T (z5_ (z0_ 0) z8_)))) (q8_ (mC (.bl false))) mNx) (q0_ (v7_ 1 (mCD 1 a2j (z5_ (z4_ dIx (z0_ 0) (mC (.int 0))) z8_))) (q8_ (u0_ (mCD 1 a1h (z5_ (z0_ 1) z8_)) (z4_ (dEq false) (mCD 1 a0R (z5_ (z0_ 1) z8_)) (z0_ 0))))))
def a1i:Fn:=fnM 2 a3P
theorem b7r{f:Addr}{fd:FuncData}(F:Fun K "is_net" "is_net" a6P f fd)(T:Txt K mg)(d_rises_across:Def P w K mg base "rises_across" 2 1 a2j)(d_has_net_shape:Def P w K mg base "has_net_shape" 4 1 a2T)(d_is_table:Def P w K mg base "is_table" 5 1 a1h)(d_spun:Def P w K mg base "spun" 4 1 a0R):FnOk P w K mg base CX0 6 f fd ["thing"] (SpF K 1 a1i):=
 y1_ F b0u fun cdv A outer s H E hr=>(@v0_ _ _ _ _ _ _ (@k3_ _ _ _ _ _ _ _ _ _ (@a0h _ _ _ _ _ (@a0o _ _ _ _ (@v1_ _ _ _ _ _ _ _ _ _ _ _ (by exact d_has_net_shape) (by exact(hr.mono (show 4≤5 by decide))) (by exact rfl) (@q2_ _ _ _ _ _ _ (@z2_ _ _ _ _ _ (pv 0)) (@q9_ _ _) (by exact z1_ rfl)) (by decide) (by exact z1_ rfl) (by exact z9_ rfl)) (by intro _;rfl))) (@q3_ _ _ _ _ (@v6_ _ _ _ _ _ (@w7_ _ _ _ _ _))) (@k2_ _ _)) (@v0_ _ _ _ _ _ _ (@k4_ _ _ _ _ _ 1 _ _ (by exact b0u.nd) (by exact rfl) (by first|exact Or.inl rfl|exact Or.inr rfl) (@v1_ _ _ _ _ _ _ _ _ _ _ _ (by exact d_rises_across) (by exact(hr.mono (show 2≤5 by decide))) (by exact rfl) (@q2_ _ _ _ _ _ _ (@k9_ _ _ _ _ _ _ _ (@z2_ _ _ _ _ _ (pv 0)) (@q4_ _ _ _ _ _) (fun _ _=>rfl)) (@q9_ _ _) (by exact z1_ rfl)) (by decide) (by exact z1_ rfl) (by exact z9_ rfl)) (by rfl) (by first|exact .inl rfl|exact .inr rfl|assumption)) (@q3_ _ _ _ _ (@v6_ _ _ _ _ _ (@a3q _ _ _ _ _ _ _ _ (@v1_ _ _ _ _ _ _ _ _ _ _ _ (by exact d_is_table) (by exact(hr.mono (show 5≤5 by decide))) (by exact rfl) (@q2_ _ _ _ _ _ _ (@z2_ _ _ _ _ _ (pv 1)) (@q9_ _ _) (by exact z1_ rfl)) (by decide) (by exact z1_ rfl) (by exact z9_ rfl)) (@a3p _ _ _ _ _ _ (@a8V _ _ _ _ _ _ _ _ _ _ (by exact(op_eqD hr.units)) (by exact opd_eq) (@v1_ _ _ _ _ _ _ _ _ _ _ _ (by exact d_spun) (by exact(hr.mono (show 4≤5 by decide))) (by exact rfl) (@q2_ _ _ _ _ _ _ (@z2_ _ _ _ _ _ (pv 1)) (@q9_ _ _) (by exact z1_ rfl)) (by decide) (by exact z1_ rfl) (by exact z9_ rfl)) (@z2_ _ _ _ _ _ (pv 0)) (by exact(nomark _)))))))))
theorem b7s:FnScope ["net"] ["net"] (v5_ a6Q):=y2_
def a7B:Mo Fl:=(q0_ (v9_ (x5_ (mT (mCD 1 a1i (z5_ (z0_ 0) z8_)))) a2A mNx) (q8_ (mCD 1 a2j (z5_ (z4_ dIx (z0_ 0) (mC (.int 0))) z8_))))
def a3Q:Fn:=fnM 1 a7B
theorem b7t{f:Addr}{fd:FuncData}(F:Fun K "table_of_net" "table_of_net" a6Q f fd)(T:Txt K mg)(d_rises_across:Def P w K mg base "rises_across" 2 1 a2j)(d_is_net:Def P w K mg base "is_net" 6 1 a1i):FnOk P w K mg base CX0 7 f fd ["net"] (SpF K 1 a3Q):=
 y1_ F b7s fun cdv A outer s H E hr=>(@v0_ _ _ _ _ _ _ (@k3_ _ _ _ _ _ _ _ _ _ (@a0h _ _ _ _ _ (@a0o _ _ _ _ (@v1_ _ _ _ _ _ _ _ _ _ _ _ (by exact d_is_net) (by exact(hr.mono (show 6≤6 by decide))) (by exact rfl) (@q2_ _ _ _ _ _ _ (@z2_ _ _ _ _ _ (pv 0)) (@q9_ _ _) (by exact z1_ rfl)) (by decide) (by exact z1_ rfl) (by exact z9_ rfl)) (by intro _;rfl))) (@q3_ _ _ _ _ (@a3s _ _ _)) (@k2_ _ _)) (@q3_ _ _ _ _ (@v6_ _ _ _ _ _ (@v1_ _ _ _ _ _ _ _ _ _ _ _ (by exact d_rises_across) (by exact(hr.mono (show 2≤6 by decide))) (by exact rfl) (@q2_ _ _ _ _ _ _ (@k9_ _ _ _ _ _ _ _ (@z2_ _ _ _ _ _ (pv 0)) (@q4_ _ _ _ _ _) (fun _ _=>rfl)) (@q9_ _ _) (by exact z1_ rfl)) (by decide) (by exact z1_ rfl) (by exact z9_ rfl)))))
theorem b7u:FnScope ["thing","side"] ["thing","side"] (v5_ a6R):=y2_
def a7C:Mo Fl:=(q8_ (mCD 3 a4O (z5_ (z0_ 0) (z5_ (mC (.int 0)) (z5_ (z4_ w8_ (z0_ 1) (mC (.int 1))) z8_)))))
def a3R:Fn:=fnM 2 a7C
theorem b7v{f:Addr}{fd:FuncData}(F:Fun K "is_place" "is_place" a6R f fd)(T:Txt K mg)(d_is_within:Def P w K mg base "is_within" 2 3 a4O):FnOk P w K mg base CX0 3 f fd ["thing","side"] (SpF K 2 a3R):=
 y1_ F b7u fun cdv A outer s H E hr=>(@q3_ _ _ _ _ (@v6_ _ _ _ _ _ (@v1_ _ _ _ _ _ _ _ _ _ _ _ (by exact d_is_within) (by exact(hr.mono (show 2≤2 by decide))) (by exact rfl) (@q2_ _ _ _ _ _ _ (@z2_ _ _ _ _ _ (pv 0)) (@q2_ _ _ _ _ _ _ (@q4_ _ _ _ _ _) (@q2_ _ _ _ _ _ _ (@y5_ _ _ _ _ _ _ _ _ _ _ (by exact a1L) (by exact a1S) (@z2_ _ _ _ _ _ (pv 1)) (@q4_ _ _ _ _ _)) (@q9_ _ _) (by exact z1_ rfl)) (by exact z1_ rfl)) (by exact z1_ rfl)) (by decide) (by exact z1_ rfl) (by exact z9_ rfl))))
theorem a7D:FnScope ["net","row","column","across","down"] ["net","row","column"] (v5_ a6S):=y2_
def a7E:Mo Fl:=(q0_ (w2_ (z0_ 0) (gT 2 (gCn (gN 3) (gCn (gN 4) gNl)))) (q8_ (x6_ (z3_ (z4_ dIx (z4_ dIx (z0_ 3) (z0_ 1)) (z0_ 2)) (z3_ (z4_ dIx (z4_ dIx (z0_ 3) (z0_ 1)) (z4_ y8_ (z0_ 2) (mC (.int 1)))) (z3_ (z4_ dIx (z4_ dIx (z0_ 4) (z0_ 1)) (z0_ 2)) (z3_ (z4_ dIx (z4_ dIx (z0_ 4) (z4_ y8_ (z0_ 1) (mC (.int 1)))) (z0_ 2)) z6_)))))))
def a1F:Fn:=fnM 5 a7E
theorem b7w{f:Addr}{fd:FuncData}(F:Fun K "kind_in" "kind_in" a6S f fd)(T:Txt K mg):FnOk P w K mg base CX0 1 f fd ["net","row","column"] (SpF K 3 a1F):=
 y1_ F a7D fun cdv A outer s H E hr=>(@v0_ _ _ _ _ _ _ (@a2B _ _ _ _ _ _ _ (@z2_ _ _ _ _ _ (pv 0)) (@a1p _ _ _ _ _ _ _ _ (by exact rfl) (@j7_ _ _ _ _ _ _ _ (@y6_ _ _ _ _ 3 _ (by exact(show 0≤3 by decide)) (by exact a7D.nd) (by exact rfl) (by first|exact Or.inl rfl|exact Or.inr rfl) (by first|exact .inl rfl|exact .inr rfl|assumption)) (@j7_ _ _ _ _ _ _ _ (@y6_ _ _ _ _ 4 _ (by exact(show 0≤4 by decide)) (by exact a7D.nd) (by exact rfl) (by first|exact Or.inl rfl|exact Or.inr rfl) (by first|exact .inl rfl|exact .inr rfl|assumption)) (@a1o _ _ _) (by rfl)) (by rfl)) (by rfl) (by rfl)) (by rfl) (by rfl) (by rfl)) (@q3_ _ _ _ _ (@v6_ _ _ _ _ _ (@g4_ _ _ _ _ _ _ (@q1_ _ _ _ _ _ _ (@k9_ _ _ _ _ _ _ _ (@k9_ _ _ _ _ _ _ _ (@z2_ _ _ _ _ _ (pv 3)) (@z2_ _ _ _ _ _ (pv 1)) (fun _ _=>rfl)) (@z2_ _ _ _ _ _ (pv 2)) (fun _ _=>rfl)) (@q1_ _ _ _ _ _ _ (@k9_ _ _ _ _ _ _ _ (@k9_ _ _ _ _ _ _ _ (@z2_ _ _ _ _ _ (pv 3)) (@z2_ _ _ _ _ _ (pv 1)) (fun _ _=>rfl)) (@y5_ _ _ _ _ _ _ _ _ _ _ (by exact g0_) (by exact g1_) (@z2_ _ _ _ _ _ (pv 2)) (@q4_ _ _ _ _ _)) (fun _ _=>rfl)) (@q1_ _ _ _ _ _ _ (@k9_ _ _ _ _ _ _ _ (@k9_ _ _ _ _ _ _ _ (@z2_ _ _ _ _ _ (pv 4)) (@z2_ _ _ _ _ _ (pv 1)) (fun _ _=>rfl)) (@z2_ _ _ _ _ _ (pv 2)) (fun _ _=>rfl)) (@q1_ _ _ _ _ _ _ (@k9_ _ _ _ _ _ _ _ (@k9_ _ _ _ _ _ _ _ (@z2_ _ _ _ _ _ (pv 4)) (@y5_ _ _ _ _ _ _ _ _ _ _ (by exact g0_) (by exact g1_) (@z2_ _ _ _ _ _ (pv 1)) (@q4_ _ _ _ _ _)) (fun _ _=>rfl)) (@z2_ _ _ _ _ _ (pv 2)) (fun _ _=>rfl)) (@q6_ _ _) (by exact z1_ rfl)) (by exact z1_ rfl)) (by exact z1_ rfl)) (by exact z1_ rfl))))))
theorem b7x:FnScope ["table","row","column"] ["table","row","column"] (v5_ a6T):=y2_
def a7F:Mo Fl:=(q0_ (a1e (mCD 1 a0y (z5_ (z0_ 0) z8_))) (q0_ (v9_ (x5_ (mT (mCD 2 a3R (z5_ (z0_ 1) (z5_ (mCB y0_ (z3_ (z0_ 0) z6_)) z8_))))) a2A mNx) (q0_ (v9_ (x5_ (mT (mCD 2 a3R (z5_ (z0_ 2) (z5_ (mCB y0_ (z3_ (z0_ 0) z6_)) z8_))))) a2A mNx) (q8_ (mCD 3 a1F (z5_ (mCD 1 a0R (z5_ (z0_ 0) z8_)) (z5_ (z0_ 1) (z5_ (z0_ 2) z8_))))))))
def a1G:Fn:=fnM 3 a7F
theorem b7y{f:Addr}{fd:FuncData}(F:Fun K "kind_at" "kind_at" a6T f fd)(T:Txt K mg)(d_must_be_table:Def P w K mg base "must_be_table" 6 1 a0y)(d_kind_in:Def P w K mg base "kind_in" 1 3 a1F)(d_is_place:Def P w K mg base "is_place" 3 2 a3R)(d_spun:Def P w K mg base "spun" 4 1 a0R):FnOk P w K mg base CX0 7 f fd ["table","row","column"] (SpF K 3 a1G):=
 y1_ F b7x fun cdv A outer s H E hr=>(@v0_ _ _ _ _ _ _ (@a2O _ _ _ _ _ (@v1_ _ _ _ _ _ _ _ _ _ _ _ (by exact d_must_be_table) (by exact(hr.mono (show 6≤6 by decide))) (by exact rfl) (@q2_ _ _ _ _ _ _ (@z2_ _ _ _ _ _ (pv 0)) (@q9_ _ _) (by exact z1_ rfl)) (by decide) (by exact z1_ rfl) (by exact z9_ rfl)) (by rfl)) (@v0_ _ _ _ _ _ _ (@k3_ _ _ _ _ _ _ _ _ _ (@a0h _ _ _ _ _ (@a0o _ _ _ _ (@v1_ _ _ _ _ _ _ _ _ _ _ _ (by exact d_is_place) (by exact(hr.mono (show 3≤6 by decide))) (by exact rfl) (@q2_ _ _ _ _ _ _ (@z2_ _ _ _ _ _ (pv 1)) (@q2_ _ _ _ _ _ _ (@k1_ _ _ _ _ _ _ _ _ _ _ _ (by exact j4_) (by exact j5_) (by exact rfl) (by exact T.g_len) (by exact Zq) (@q1_ _ _ _ _ _ _ (@z2_ _ _ _ _ _ (pv 0)) (@q6_ _ _) (by exact z1_ rfl)) (by decide) (by decide) (by exact z1_ rfl) (by exact z9_ rfl)) (@q9_ _ _) (by exact z1_ rfl)) (by exact z1_ rfl)) (by decide) (by exact z1_ rfl) (by exact z9_ rfl)) (by intro _;rfl))) (@q3_ _ _ _ _ (@a3s _ _ _)) (@k2_ _ _)) (@v0_ _ _ _ _ _ _ (@k3_ _ _ _ _ _ _ _ _ _ (@a0h _ _ _ _ _ (@a0o _ _ _ _ (@v1_ _ _ _ _ _ _ _ _ _ _ _ (by exact d_is_place) (by exact(hr.mono (show 3≤6 by decide))) (by exact rfl) (@q2_ _ _ _ _ _ _ (@z2_ _ _ _ _ _ (pv 2)) (@q2_ _ _ _ _ _ _ (@k1_ _ _ _ _ _ _ _ _ _ _ _ (by exact j4_) (by exact j5_) (by exact rfl) (by exact T.g_len) (by exact Zq) (@q1_ _ _ _ _ _ _ (@z2_ _ _ _ _ _ (pv 0)) (@q6_ _ _) (by exact z1_ rfl)) (by decide) (by decide) (by exact z1_ rfl) (by exact z9_ rfl)) (@q9_ _ _) (by exact z1_ rfl)) (by exact z1_ rfl)) (by decide) (by exact z1_ rfl) (by exact z9_ rfl)) (by intro _;rfl))) (@q3_ _ _ _ _ (@a3s _ _ _)) (@k2_ _ _)) (@q3_ _ _ _ _ (@v6_ _ _ _ _ _ (@v1_ _ _ _ _ _ _ _ _ _ _ _ (by exact d_kind_in) (by exact(hr.mono (show 1≤6 by decide))) (by exact rfl) (@q2_ _ _ _ _ _ _ (@v1_ _ _ _ _ _ _ _ _ _ _ _ (by exact d_spun) (by exact(hr.mono (show 4≤6 by decide))) (by exact rfl) (@q2_ _ _ _ _ _ _ (@z2_ _ _ _ _ _ (pv 0)) (@q9_ _ _) (by exact z1_ rfl)) (by decide) (by exact z1_ rfl) (by exact z9_ rfl)) (@q2_ _ _ _ _ _ _ (@z2_ _ _ _ _ _ (pv 1)) (@q2_ _ _ _ _ _ _ (@z2_ _ _ _ _ _ (pv 2)) (@q9_ _ _) (by exact z1_ rfl)) (by exact z1_ rfl)) (by exact z1_ rfl)) (by decide) (by exact z1_ rfl) (by exact z9_ rfl)))))))
theorem a2U:FnScope ["table","net","counts","row","column","kind"] ["table"] (v5_ a6U):=y2_
def a7G:Mo Fl:=(q0_ (a1e (mCD 1 a0y (z5_ (z0_ 0) z8_))) (q0_ (v7_ 1 (mCD 1 a0R (z5_ (z0_ 0) z8_))) (q0_ (b0a 2) (q0_ (w4_ (j0_ (z3_ (mCB y0_ (z3_ (z0_ 0) z6_)) z6_)) (gN 3) (w4_ (j0_ (z3_ (mCB y0_ (z3_ (z0_ 0) z6_)) z6_)) (gN 4) (q0_ (v7_ 5 (mCD 3 a1F (z5_ (z0_ 1) (z5_ (z0_ 3) (z5_ (z0_ 4) z8_))))) (w2_ (z4_ y8_ (a2Q 2 (z0_ 5) (mC (.int 0))) (mC (.int 1))) (gSD 2 (z0_ 5)))))) (q8_ (z0_ 2))))))
def a3S:Fn:=fnM 6 a7G
theorem b7z{f:Addr}{fd:FuncData}(F:Fun K "kinds_of" "kinds_of" a6U f fd)(T:Txt K mg)(d_must_be_table:Def P w K mg base "must_be_table" 6 1 a0y)(d_spun:Def P w K mg base "spun" 4 1 a0R)(d_kind_in:Def P w K mg base "kind_in" 1 3 a1F):FnOk P w K mg base CX0 7 f fd ["table"] (SpF K 1 a3S):=
 y1_ F a2U fun cdv A outer s H E hr=>(@v0_ _ _ _ _ _ _ (@a2O _ _ _ _ _ (@v1_ _ _ _ _ _ _ _ _ _ _ _ (by exact d_must_be_table) (by exact(hr.mono (show 6≤6 by decide))) (by exact rfl) (@q2_ _ _ _ _ _ _ (@z2_ _ _ _ _ _ (pv 0)) (@q9_ _ _) (by exact z1_ rfl)) (by decide) (by exact z1_ rfl) (by exact z9_ rfl)) (by rfl)) (@v0_ _ _ _ _ _ _ (@k4_ _ _ _ _ _ 1 _ _ (by exact a2U.nd) (by exact rfl) (by first|exact Or.inl rfl|exact Or.inr rfl) (@v1_ _ _ _ _ _ _ _ _ _ _ _ (by exact d_spun) (by exact(hr.mono (show 4≤6 by decide))) (by exact rfl) (@q2_ _ _ _ _ _ _ (@z2_ _ _ _ _ _ (pv 0)) (@q9_ _ _) (by exact z1_ rfl)) (by decide) (by exact z1_ rfl) (by exact z9_ rfl)) (by rfl) (by first|exact .inl rfl|exact .inr rfl|assumption)) (@v0_ _ _ _ _ _ _ (@b5R _ _ _ 2 _ _ _ (by exact a2U.nd) (by exact rfl) (by first|exact Or.inl rfl|exact Or.inr rfl) (by rfl) (by first|exact .inl rfl|exact .inr rfl|assumption)) (@v0_ _ _ _ _ _ _ (@a0E _ _ _ _ _ _ _ _ _ (by exact Ze) (by exact rfl) (@a1q _ _ _ _ _ _ _ (by exact rfl) (by exact T.g_range) (@q1_ _ _ _ _ _ _ (@k1_ _ _ _ _ _ _ _ _ _ _ _ (by exact j4_) (by exact j5_) (by exact rfl) (by exact T.g_len) (by exact Zq) (@q1_ _ _ _ _ _ _ (@z2_ _ _ _ _ _ (pv 0)) (@q6_ _ _) (by exact z1_ rfl)) (by decide) (by decide) (by exact z1_ rfl) (by exact z9_ rfl)) (@q6_ _ _) (by exact z1_ rfl)) (by exact se1 rfl)) (@y6_ _ _ _ _ 3 _ (by exact(show 0≤3 by decide)) (by exact a2U.nd) (by exact rfl) (by first|exact Or.inl rfl|exact Or.inr rfl) (by first|exact .inl rfl|exact .inr rfl|assumption)) (@q3_ _ _ _ _ (@a0E _ _ _ _ _ _ _ _ _ (by exact Ze) (by exact rfl) (@a1q _ _ _ _ _ _ _ (by exact rfl) (by exact T.g_range) (@q1_ _ _ _ _ _ _ (@k1_ _ _ _ _ _ _ _ _ _ _ _ (by exact j4_) (by exact j5_) (by exact rfl) (by exact T.g_len) (by exact Zq) (@q1_ _ _ _ _ _ _ (@z2_ _ _ _ _ _ (pv 0)) (@q6_ _ _) (by exact z1_ rfl)) (by decide) (by decide) (by exact z1_ rfl) (by exact z9_ rfl)) (@q6_ _ _) (by exact z1_ rfl)) (by exact se1 rfl)) (@y6_ _ _ _ _ 4 _ (by exact(show 0≤4 by decide)) (by exact a2U.nd) (by exact rfl) (by first|exact Or.inl rfl|exact Or.inr rfl) (by first|exact .inl rfl|exact .inr rfl|assumption)) (@v0_ _ _ _ _ _ _ (@k4_ _ _ _ _ _ 5 _ _ (by exact a2U.nd) (by exact rfl) (by first|exact Or.inl rfl|exact Or.inr rfl) (@v1_ _ _ _ _ _ _ _ _ _ _ _ (by exact d_kind_in) (by exact(hr.mono (show 1≤6 by decide))) (by exact rfl) (@q2_ _ _ _ _ _ _ (@z2_ _ _ _ _ _ (pv 1)) (@q2_ _ _ _ _ _ _ (@z2_ _ _ _ _ _ (pv 3)) (@q2_ _ _ _ _ _ _ (@z2_ _ _ _ _ _ (pv 4)) (@q9_ _ _) (by exact z1_ rfl)) (by exact z1_ rfl)) (by exact z1_ rfl)) (by decide) (by exact z1_ rfl) (by exact z9_ rfl)) (by rfl) (by first|exact .inl rfl|exact .inr rfl|assumption)) (@q3_ _ _ _ _ (@a2B _ _ _ _ _ _ _ (@y5_ _ _ _ _ _ _ _ _ _ _ (by exact g0_) (by exact g1_) (@b6h _ _ _ _ _ _ _ _ _ _ _ (by exact hr.units) (pv 2) (@q1_ _ _ _ _ _ _ (@z2_ _ _ _ _ _ (pv 5)) (@q1_ _ _ _ _ _ _ (@q4_ _ _ _ _ _) (@q6_ _ _) (by exact z1_ rfl)) (by exact z1_ rfl)) (by rfl) (by rfl) (by rfl) (by exact z1_ rfl) (by exact z9_ rfl)) (@q4_ _ _ _ _ _)) (@b5U _ _ _ _ _ _ _ _ _ (by exact hr.units) (pv 2) (@z2_ _ _ _ _ _ (pv 5)) (by intro _;rfl)) (by rfl) (by rfl) (by rfl)))) (by intro _;rfl))) (by intro _;rfl)) (@q3_ _ _ _ _ (@v6_ _ _ _ _ _ (@z2_ _ _ _ _ _ (pv 2))))))))
theorem b7A:FnScope ["table"] ["table"] (v5_ a6V):=y2_
def b7B:Mo Fl:=(q8_ (z0_ 0))
def a2V:Fn:=fnM 1 b7B
theorem b7C{f:Addr}{fd:FuncData}(F:Fun K "stayed" "stayed" a6V f fd)(T:Txt K mg):FnOk P w K mg base CX0 1 f fd ["table"] (SpF K 1 a2V):=
 y1_ F b7A fun cdv A outer s H E hr=>(@q3_ _ _ _ _ (@v6_ _ _ _ _ _ (@z2_ _ _ _ _ _ (pv 0))))
theorem b7D:FnScope ["table"] ["table"] (v5_ a6W):=y2_
def a7H:Mo Fl:=(q8_ (a2d (mCD 1 g7_ (z5_ (z0_ 0) z8_))))
def a0H:Fn:=fnM 1 a7H
theorem b7E{f:Addr}{fd:FuncData}(F:Fun K "turned_left" "turned_left" a6W f fd)(T:Txt K mg)(d_flipped:Def P w K mg base "flipped" 1 1 g7_):FnOk P w K mg base CX0 2 f fd ["table"] (SpF K 1 a0H):=
 y1_ F b7D fun cdv A outer s H E hr=>(@q3_ _ _ _ _ (@v6_ _ _ _ _ _ (@a6b _ _ _ _ _ _ _ (@v1_ _ _ _ _ _ _ _ _ _ _ _ (by exact d_flipped) (by exact(hr.mono (show 1≤1 by decide))) (by exact rfl) (@q2_ _ _ _ _ _ _ (@z2_ _ _ _ _ _ (pv 0)) (@q9_ _ _) (by exact z1_ rfl)) (by decide) (by exact z1_ rfl) (by exact z9_ rfl)) (by exact a6c))))
theorem b7F:FnScope ["table"] ["table"] (v5_ a6X):=y2_
def a7I:Mo Fl:=(q8_ (mCD 1 a0H (z5_ (mCD 1 a0H (z5_ (z0_ 0) z8_)) z8_)))
def a0S:Fn:=fnM 1 a7I
theorem b7G{f:Addr}{fd:FuncData}(F:Fun K "turned_half" "turned_half" a6X f fd)(T:Txt K mg)(d_turned_left:Def P w K mg base "turned_left" 2 1 a0H):FnOk P w K mg base CX0 3 f fd ["table"] (SpF K 1 a0S):=
 y1_ F b7F fun cdv A outer s H E hr=>(@q3_ _ _ _ _ (@v6_ _ _ _ _ _ (@v1_ _ _ _ _ _ _ _ _ _ _ _ (by exact d_turned_left) (by exact(hr.mono (show 2≤2 by decide))) (by exact rfl) (@q2_ _ _ _ _ _ _ (@v1_ _ _ _ _ _ _ _ _ _ _ _ (by exact d_turned_left) (by exact(hr.mono (show 2≤2 by decide))) (by exact rfl) (@q2_ _ _ _ _ _ _ (@z2_ _ _ _ _ _ (pv 0)) (@q9_ _ _) (by exact z1_ rfl)) (by decide) (by exact z1_ rfl) (by exact z9_ rfl)) (@q9_ _ _) (by exact z1_ rfl)) (by decide) (by exact z1_ rfl) (by exact z9_ rfl))))
theorem b7H:FnScope ["table"] ["table"] (v5_ a6Y):=y2_
def a7J:Mo Fl:=(q8_ (mCD 1 a0H (z5_ (mCD 1 a0S (z5_ (z0_ 0) z8_)) z8_)))
def a2W:Fn:=fnM 1 a7J
theorem b7I{f:Addr}{fd:FuncData}(F:Fun K "turned_right" "turned_right" a6Y f fd)(T:Txt K mg)(d_turned_left:Def P w K mg base "turned_left" 2 1 a0H)(d_turned_half:Def P w K mg base "turned_half" 3 1 a0S):FnOk P w K mg base CX0 4 f fd ["table"] (SpF K 1 a2W):=
 y1_ F b7H fun cdv A outer s H E hr=>(@q3_ _ _ _ _ (@v6_ _ _ _ _ _ (@v1_ _ _ _ _ _ _ _ _ _ _ _ (by exact d_turned_left) (by exact(hr.mono (show 2≤3 by decide))) (by exact rfl) (@q2_ _ _ _ _ _ _ (@v1_ _ _ _ _ _ _ _ _ _ _ _ (by exact d_turned_half) (by exact(hr.mono (show 3≤3 by decide))) (by exact rfl) (@q2_ _ _ _ _ _ _ (@z2_ _ _ _ _ _ (pv 0)) (@q9_ _ _) (by exact z1_ rfl)) (by decide) (by exact z1_ rfl) (by exact z9_ rfl)) (@q9_ _ _) (by exact z1_ rfl)) (by decide) (by exact z1_ rfl) (by exact z9_ rfl))))
theorem b7J:FnScope ["table"] ["table"] (v5_ a6Z):=y2_
theorem nd9:(["-0","row"]:List Str).Nodup:=by decide+kernel
def a7K:Mo Fl:=(q8_ (mCB j6_ (z3_ (mF (y3_ (x1_ (z0_ 0)) [false] 1 (gN 1) y9_ (a2d (z0_ 1)))) z6_)))
def a2X:Fn:=fnM 1 a7K
theorem b7K{f:Addr}{fd:FuncData}(F:Fun K "told_upright" "told_upright" a6Z f fd)(T:Txt K mg):FnOk P w K mg base CX0 1 f fd ["table"] (SpF K 1 a2X):=
 y1_ F b7J fun cdv A outer s H E hr=>(@q3_ _ _ _ _ (@v6_ _ _ _ _ _ (@a0C _ _ _ _ _ _ _ _ _ _ _ (by exact a0A) (by exact a0D) (by exact rfl) (by exact T.g_tuple) (by exact u5_) (@q1_ _ _ _ _ _ _ (@u1_ _ _ _ _ (@a0c _ _ ["-0","row"] _ [false] 1 _ _ _ _ _ _ _ _ _ (by exact(u4_ rfl rfl)) (by exact rfl) (@u8_ _ _ _ _ _ (@z2_ _ _ _ _ _ (pv 0))) (fun s H fp=>(@y6_ _ _ _ _ 1 _ (by exact(show 1≤1 by decide)) (by exact nd9) (by exact rfl) (by first|exact Or.inl rfl|exact Or.inr rfl) (by first|exact .inl rfl|exact .inr rfl|assumption))) (fun s H fp=>(@a0j _ _)) (fun s H fp=>(@a6b _ _ _ _ _ _ _ (@z2_ _ _ _ _ _ (pv 1)) (by exact a6c))) (by intro _;rfl))) (@q6_ _ _) (by exact z1_ rfl)) (by decide) (by decide) (by exact z1_ rfl) (by exact z9_ rfl))))
theorem b7L:FnScope ["table"] ["table"] (v5_ a7a):=y2_
def a7L:Mo Fl:=(q8_ (a2d (z0_ 0)))
def a2Y:Fn:=fnM 1 a7L
theorem b7M{f:Addr}{fd:FuncData}(F:Fun K "told_flat" "told_flat" a7a f fd)(T:Txt K mg):FnOk P w K mg base CX0 1 f fd ["table"] (SpF K 1 a2Y):=
 y1_ F b7L fun cdv A outer s H E hr=>(@q3_ _ _ _ _ (@v6_ _ _ _ _ _ (@a6b _ _ _ _ _ _ _ (@z2_ _ _ _ _ _ (pv 0)) (by exact a6c))))
theorem b7N:FnScope ["table"] ["table"] (v5_ a7b):=y2_
def a7M:Mo Fl:=(q8_ (mCD 1 g7_ (z5_ (z0_ 0) z8_)))
def a1H:Fn:=fnM 1 a7M
theorem b7O{f:Addr}{fd:FuncData}(F:Fun K "told_slant" "told_slant" a7b f fd)(T:Txt K mg)(d_flipped:Def P w K mg base "flipped" 1 1 g7_):FnOk P w K mg base CX0 2 f fd ["table"] (SpF K 1 a1H):=
 y1_ F b7N fun cdv A outer s H E hr=>(@q3_ _ _ _ _ (@v6_ _ _ _ _ _ (@v1_ _ _ _ _ _ _ _ _ _ _ _ (by exact d_flipped) (by exact(hr.mono (show 1≤1 by decide))) (by exact rfl) (@q2_ _ _ _ _ _ _ (@z2_ _ _ _ _ _ (pv 0)) (@q9_ _ _) (by exact z1_ rfl)) (by decide) (by exact z1_ rfl) (by exact z9_ rfl))))
theorem b7P:FnScope ["table"] ["table"] (v5_ a7c):=y2_
def a7N:Mo Fl:=(q8_ (mCD 1 a0S (z5_ (mCD 1 a1H (z5_ (z0_ 0) z8_)) z8_)))
def a2Z:Fn:=fnM 1 a7N
theorem b7Q{f:Addr}{fd:FuncData}(F:Fun K "told_other" "told_other" a7c f fd)(T:Txt K mg)(d_turned_half:Def P w K mg base "turned_half" 3 1 a0S)(d_told_slant:Def P w K mg base "told_slant" 2 1 a1H):FnOk P w K mg base CX0 4 f fd ["table"] (SpF K 1 a2Z):=
 y1_ F b7P fun cdv A outer s H E hr=>(@q3_ _ _ _ _ (@v6_ _ _ _ _ _ (@v1_ _ _ _ _ _ _ _ _ _ _ _ (by exact d_turned_half) (by exact(hr.mono (show 3≤3 by decide))) (by exact rfl) (@q2_ _ _ _ _ _ _ (@v1_ _ _ _ _ _ _ _ _ _ _ _ (by exact d_told_slant) (by exact(hr.mono (show 2≤3 by decide))) (by exact rfl) (@q2_ _ _ _ _ _ _ (@z2_ _ _ _ _ _ (pv 0)) (@q9_ _ _) (by exact z1_ rfl)) (by decide) (by exact z1_ rfl) (by exact z9_ rfl)) (@q9_ _ _) (by exact z1_ rfl)) (by decide) (by exact z1_ rfl) (by exact z9_ rfl))))
theorem b7R:FnScope ["thing"] ["thing"] (v5_ a7d):=y2_
def a7O:Mo Fl:=(q8_ (u0_ (mIs "str" (z0_ 0)) (a6r [("stay","stayed"),("left","turned_left"),("half","turned_half"),("right","turned_right"),("upright","told_upright"),("flat","told_flat"),("slant","told_slant"),("other","told_other")] (z0_ 0))))
def a4S:Fn:=fnM 1 a7O
theorem b7S{f:Addr}{fd:FuncData}(F:Fun K "is_turn" "is_turn" a7d f fd)(T:Txt K mg)(k_TURNS:DfG P w K mg "TURNS" [("stay","stayed"),("left","turned_left"),("half","turned_half"),("right","turned_right"),("upright","told_upright"),("flat","told_flat"),("slant","told_slant"),("other","told_other")]):FnOk P w K mg base CX0 1 f fd ["thing"] (SpF K 1 a4S):=
 y1_ F b7R fun cdv A outer s H E hr=>(@q3_ _ _ _ _ (@v6_ _ _ _ _ _ (@a3q _ _ _ _ _ _ _ _ (@a1t _ _ _ _ _ _ _ _ _ (by exact b4K) (@z2_ _ _ _ _ _ (pv 0)) (by exact rfl) (by exact T.g_isinstance) (by exact rfl) (by exact T.g_str) (by exact b5z) (by decide) (by decide) (by exact se2 rfl rfl)) (@a3p _ _ _ _ _ _ (@b6l _ _ _ _ _ _ _ _ (by exact k_TURNS) (by exact rfl) (@z2_ _ _ _ _ _ (pv 0)) (by with_unfolding_all rfl) (by decide))))))
theorem b7T:FnScope ["thing"] ["thing"] (v5_ a7e):=y2_
def a7P:Mo Fl:=(v9_ (x5_ (mT (mCD 1 a4S (z5_ (z0_ 0) z8_)))) a2A mNx)
def a4T:Fn:=fnM 1 a7P
theorem b7U{f:Addr}{fd:FuncData}(F:Fun K "must_be_turn" "must_be_turn" a7e f fd)(T:Txt K mg)(d_is_turn:Def P w K mg base "is_turn" 1 1 a4S):FnOk P w K mg base CX0 2 f fd ["thing"] (SpF K 1 a4T):=
 y1_ F b7T fun cdv A outer s H E hr=>(@q3_ _ _ _ _ (@k3_ _ _ _ _ _ _ _ _ _ (@a0h _ _ _ _ _ (@a0o _ _ _ _ (@v1_ _ _ _ _ _ _ _ _ _ _ _ (by exact d_is_turn) (by exact(hr.mono (show 1≤1 by decide))) (by exact rfl) (@q2_ _ _ _ _ _ _ (@z2_ _ _ _ _ _ (pv 0)) (@q9_ _ _) (by exact z1_ rfl)) (by decide) (by exact z1_ rfl) (by exact z9_ rfl)) (by intro _;rfl))) (@q3_ _ _ _ _ (@a3s _ _ _)) (@k2_ _ _)))
theorem b0v:FnScope ["table","turn","deed"] ["table","turn"] (v5_ a7f):=y2_
def a7Q:Mo Fl:=(q0_ (v7_ 2 (b0h [("stay","stayed"),("left","turned_left"),("half","turned_half"),("right","turned_right"),("upright","told_upright"),("flat","told_flat"),("slant","told_slant"),("other","told_other")] (z0_ 1))) (q8_ (mCV 1 2 [("stayed",a2V),("turned_left",a0H),("turned_half",a0S),("turned_right",a2W),("told_upright",a2X),("told_flat",a2Y),("told_slant",a1H),("told_other",a2Z)] (z5_ (z0_ 0) z8_))))
def a4U:Fn:=fnM 3 a7Q
theorem b7V{f:Addr}{fd:FuncData}(F:Fun K "brought" "brought" a7f f fd)(T:Txt K mg)(d_stayed:Def P w K mg base "stayed" 1 1 a2V)(d_turned_left:Def P w K mg base "turned_left" 2 1 a0H)(d_turned_half:Def P w K mg base "turned_half" 3 1 a0S)(d_turned_right:Def P w K mg base "turned_right" 4 1 a2W)(d_told_upright:Def P w K mg base "told_upright" 1 1 a2X)(d_told_flat:Def P w K mg base "told_flat" 1 1 a2Y)(d_told_slant:Def P w K mg base "told_slant" 2 1 a1H)(d_told_other:Def P w K mg base "told_other" 4 1 a2Z)(k_TURNS:DfG P w K mg "TURNS" [("stay","stayed"),("left","turned_left"),("half","turned_half"),("right","turned_right"),("upright","told_upright"),("flat","told_flat"),("slant","told_slant"),("other","told_other")]):FnOk P w K mg base CX0 5 f fd ["table","turn"] (SpF K 2 a4U):=
 y1_ F b0v fun cdv A outer s H E hr=>(@v0_ _ _ _ _ _ _ (@k4_ _ _ _ _ _ 2 _ _ (by exact b0v.nd) (by exact rfl) (by first|exact Or.inl rfl|exact Or.inr rfl) (@b6j _ _ _ _ _ _ _ _ (by exact k_TURNS) (by exact(a1C T.n_stayed (a1C T.n_turned_left (a1C T.n_turned_half (a1C T.n_turned_right (a1C T.n_told_upright (a1C T.n_told_flat (a1C T.n_told_slant (a1C T.n_told_other b6i))))))))) (by exact rfl) (@z2_ _ _ _ _ _ (pv 1)) (fun _ _=>rfl) (by decide)) (by rfl) (by first|exact .inl rfl|exact .inr rfl|assumption)) (@q3_ _ _ _ _ (@v6_ _ _ _ _ _ (@b6f _ _ _ _ _ _ _ _ _ _ _ (@a1B _ _ _ _ _ _ (by exact(hr.mono (show 1≤4 by decide))) (by exact d_stayed) (by exact T.n_stayed) (@a1B _ _ _ _ _ _ (by exact(hr.mono (show 2≤4 by decide))) (by exact d_turned_left) (by exact T.n_turned_left) (@a1B _ _ _ _ _ _ (by exact(hr.mono (show 3≤4 by decide))) (by exact d_turned_half) (by exact T.n_turned_half) (@a1B _ _ _ _ _ _ (by exact(hr.mono (show 4≤4 by decide))) (by exact d_turned_right) (by exact T.n_turned_right) (@a1B _ _ _ _ _ _ (by exact(hr.mono (show 1≤4 by decide))) (by exact d_told_upright) (by exact T.n_told_upright) (@a1B _ _ _ _ _ _ (by exact(hr.mono (show 1≤4 by decide))) (by exact d_told_flat) (by exact T.n_told_flat) (@a1B _ _ _ _ _ _ (by exact(hr.mono (show 2≤4 by decide))) (by exact d_told_slant) (by exact T.n_told_slant) (@a1B _ _ _ _ _ _ (by exact(hr.mono (show 4≤4 by decide))) (by exact d_told_other) (by exact T.n_told_other) (@b6d _ _))))))))) (pv 2) (@q2_ _ _ _ _ _ _ (@z2_ _ _ _ _ _ (pv 0)) (@q9_ _ _) (by exact z1_ rfl)) (by exact z1_ rfl) (by exact z9_ rfl)))))
theorem b7W:FnScope ["table","turn"] ["table","turn"] (v5_ a7g):=y2_
def a7R:Mo Fl:=(q0_ (a1e (mCD 1 a0y (z5_ (z0_ 0) z8_))) (q0_ (a1e (mCD 1 a4T (z5_ (z0_ 1) z8_))) (q8_ (mCD 2 a4U (z5_ (z0_ 0) (z5_ (z0_ 1) z8_))))))
def a3a:Fn:=fnM 2 a7R
theorem b7X{f:Addr}{fd:FuncData}(F:Fun K "turned" "turned" a7g f fd)(T:Txt K mg)(d_must_be_table:Def P w K mg base "must_be_table" 6 1 a0y)(d_must_be_turn:Def P w K mg base "must_be_turn" 2 1 a4T)(d_brought:Def P w K mg base "brought" 5 2 a4U):FnOk P w K mg base CX0 7 f fd ["table","turn"] (SpF K 2 a3a):=
 y1_ F b7W fun cdv A outer s H E hr=>(@v0_ _ _ _ _ _ _ (@a2O _ _ _ _ _ (@v1_ _ _ _ _ _ _ _ _ _ _ _ (by exact d_must_be_table) (by exact(hr.mono (show 6≤6 by decide))) (by exact rfl) (@q2_ _ _ _ _ _ _ (@z2_ _ _ _ _ _ (pv 0)) (@q9_ _ _) (by exact z1_ rfl)) (by decide) (by exact z1_ rfl) (by exact z9_ rfl)) (by rfl)) (@v0_ _ _ _ _ _ _ (@a2O _ _ _ _ _ (@v1_ _ _ _ _ _ _ _ _ _ _ _ (by exact d_must_be_turn) (by exact(hr.mono (show 2≤6 by decide))) (by exact rfl) (@q2_ _ _ _ _ _ _ (@z2_ _ _ _ _ _ (pv 1)) (@q9_ _ _) (by exact z1_ rfl)) (by decide) (by exact z1_ rfl) (by exact z9_ rfl)) (by rfl)) (@q3_ _ _ _ _ (@v6_ _ _ _ _ _ (@v1_ _ _ _ _ _ _ _ _ _ _ _ (by exact d_brought) (by exact(hr.mono (show 5≤6 by decide))) (by exact rfl) (@q2_ _ _ _ _ _ _ (@z2_ _ _ _ _ _ (pv 0)) (@q2_ _ _ _ _ _ _ (@z2_ _ _ _ _ _ (pv 1)) (@q9_ _ _) (by exact z1_ rfl)) (by exact z1_ rfl)) (by decide) (by exact z1_ rfl) (by exact z9_ rfl))))))
theorem b7Y:FnScope ["_law_script","_law_k"] ["_law_script","_law_k"] (v5_ a7h):=y2_
def a3T:Mo Fl:=(q0_ (v9_ (mT (z4_ dLt (z0_ 1) (mCB y0_ (z3_ (z0_ 0) z6_)))) (q8_ (z4_ dIx (z0_ 0) (z0_ 1))) mNx) (q8_ (mC (.int 0))))
def a3U:Fn:=fnM 2 a3T
theorem b7Z{f:Addr}{fd:FuncData}(F:Fun K "_law_cell_at" "_law_cell_at" a7h f fd)(T:Txt K mg):FnOk P w K mg base CX0 1 f fd ["_law_script","_law_k"] (SpF K 2 a3U):=
 y1_ F b7Y fun cdv A outer s H E hr=>(@v0_ _ _ _ _ _ _ (@k3_ _ _ _ _ _ _ _ _ _ (@w1_ _ _ _ _ _ _ _ _ _ _ (by exact b3d) (by exact b4c) (@z2_ _ _ _ _ _ (pv 1)) (@k1_ _ _ _ _ _ _ _ _ _ _ _ (by exact j4_) (by exact j5_) (by exact rfl) (by exact T.g_len) (by exact Zq) (@q1_ _ _ _ _ _ _ (@z2_ _ _ _ _ _ (pv 0)) (@q6_ _ _) (by exact z1_ rfl)) (by decide) (by decide) (by exact z1_ rfl) (by exact z9_ rfl)) (by exact(nomark _))) (@q3_ _ _ _ _ (@v6_ _ _ _ _ _ (@k9_ _ _ _ _ _ _ _ (@z2_ _ _ _ _ _ (pv 0)) (@z2_ _ _ _ _ _ (pv 1)) (fun _ _=>rfl)))) (@k2_ _ _)) (@q3_ _ _ _ _ (@v6_ _ _ _ _ _ (@q4_ _ _ _ _ _))))
theorem b0w:FnScope ["_law_script","_law_k","_law_cell"] ["_law_script","_law_k"] (v5_ a7i):=y2_
def a3V:Mo Fl:=(q0_ (v7_ 2 (mCD 2 a3U (z5_ (z0_ 0) (z5_ (z0_ 1) z8_)))) (q0_ (v9_ (mT (z4_ dGe (z0_ 2) (z4_ a1j (mC (.int 10)) (mC (.int 18))))) (a1V (a1l (z3_ (z4_ w8_ (z0_ 2) (z4_ a1j (mC (.int 10)) (mC (.int 18)))) (z3_ (mC (.bl true)) z6_)))) mNx) (a1V (a1l (z3_ (z4_ a0n (z0_ 2) (mC (.int 2147483647))) (z3_ (mC (.bl false)) z6_))))))
def a3W:Fn:=fnM 3 a3V
theorem b8a{f:Addr}{fd:FuncData}(F:Fun K "_law_state" "_law_state" a7i f fd)(T:Txt K mg)(d__law_cell_at:Def P w K mg base "_law_cell_at" 1 2 a3U):FnOk P w K mg base CX0 2 f fd ["_law_script","_law_k"] (SpF K 2 a3W):=
 y1_ F b0w fun cdv A outer s H E hr=>(@v0_ _ _ _ _ _ _ (@k4_ _ _ _ _ _ 2 _ _ (by exact b0w.nd) (by exact rfl) (by first|exact Or.inl rfl|exact Or.inr rfl) (@v1_ _ _ _ _ _ _ _ _ _ _ _ (by exact d__law_cell_at) (by exact(hr.mono (show 1≤1 by decide))) (by exact rfl) (@q2_ _ _ _ _ _ _ (@z2_ _ _ _ _ _ (pv 0)) (@q2_ _ _ _ _ _ _ (@z2_ _ _ _ _ _ (pv 1)) (@q9_ _ _) (by exact z1_ rfl)) (by exact z1_ rfl)) (by decide) (by exact z1_ rfl) (by exact z9_ rfl)) (by rfl) (by first|exact .inl rfl|exact .inr rfl|assumption)) (@v0_ _ _ _ _ _ _ (@k3_ _ _ _ _ _ _ _ _ _ (@w1_ _ _ _ _ _ _ _ _ _ _ (by exact b3e) (by exact b4d) (@z2_ _ _ _ _ _ (pv 2)) (@y5_ _ _ _ _ _ _ _ _ _ _ (by exact a8v) (by exact a8Y) (@q4_ _ _ _ _ _) (@q4_ _ _ _ _ _)) (by exact(nomark _))) (@q3_ _ _ _ _ (@a5L _ _ _ _ _ (@a3r _ _ _ _ _ (@q1_ _ _ _ _ _ _ (@y5_ _ _ _ _ _ _ _ _ _ _ (by exact a1L) (by exact a1S) (@z2_ _ _ _ _ _ (pv 2)) (@y5_ _ _ _ _ _ _ _ _ _ _ (by exact a8v) (by exact a8Y) (@q4_ _ _ _ _ _) (@q4_ _ _ _ _ _))) (@q1_ _ _ _ _ _ _ (@w7_ _ _ _ _ _) (@q6_ _ _) (by exact z1_ rfl)) (by exact z1_ rfl))))) (@k2_ _ _)) (@q3_ _ _ _ _ (@a5L _ _ _ _ _ (@a3r _ _ _ _ _ (@q1_ _ _ _ _ _ _ (@y5_ _ _ _ _ _ _ _ _ _ _ (by exact a2s) (by exact a2x) (@z2_ _ _ _ _ _ (pv 2)) (@q4_ _ _ _ _ _)) (@q1_ _ _ _ _ _ _ (@w7_ _ _ _ _ _) (@q6_ _ _) (by exact z1_ rfl)) (by exact z1_ rfl)))))))
theorem a4V:FnScope ["_law_state_here","_law_many","_law_mixed","_law_found"] ["_law_state_here","_law_many"] (v5_ a7j):=y2_
def a3X:Mo Fl:=(q0_ (v9_ (mT (w9_ 0 (mC (.int 1)))) (q0_ (v7_ 3 (z4_ a0n (w9_ 0 (mC (.int 0))) (z0_ 1))) (q0_ (w2_ (z4_ a3n (w9_ 0 (mC (.int 0))) (z0_ 1)) (gS 0 (mC (.int 0)))) (q8_ (z0_ 3)))) mNx) (q0_ (w2_ (z4_ a0n (z4_ y8_ (z4_ j9_ (w9_ 0 (mC (.int 0))) (mC (.int 48271))) (mC (.int 29))) (mC (.int 2147483647))) (gS 0 (mC (.int 0)))) (q0_ (v7_ 2 (z4_ a0n (z4_ y8_ (z4_ y8_ (z4_ j9_ (w9_ 0 (mC (.int 0))) (w9_ 0 (mC (.int 0)))) (z4_ j9_ (mC (.int 39373)) (w9_ 0 (mC (.int 0))))) (mC (.int 7))) (mC (.int 2147483629)))) (q0_ (v7_ 2 (z4_ a0n (z4_ y8_ (z4_ j9_ (z0_ 2) (z0_ 2)) (z4_ j9_ (mC (.int 16807)) (z0_ 2))) (mC (.int 2147483587)))) (q8_ (z4_ a0n (z4_ a3n (z0_ 2) (mC (.int 8))) (z0_ 1)))))))
def a0s:Fn:=fnM 4 a3X
theorem b8b{f:Addr}{fd:FuncData}(F:Fun K "_law_take" "_law_take" a7j f fd)(T:Txt K mg):FnOk P w K mg base CX0 1 f fd ["_law_state_here","_law_many"] (SpF K 2 a0s):=
 y1_ F a4V fun cdv A outer s H E hr=>(@v0_ _ _ _ _ _ _ (@k3_ _ _ _ _ _ _ _ _ _ (@a0o _ _ _ _ (@a1m _ _ _ _ _ _ _ _ (pv 0) (@q4_ _ _ _ _ _) (fun _ _=>rfl) (by exact a1v)) (by intro _;rfl)) (@v0_ _ _ _ _ _ _ (@k4_ _ _ _ _ _ 3 _ _ (by exact a4V.nd) (by exact rfl) (by first|exact Or.inl rfl|exact Or.inr rfl) (@y5_ _ _ _ _ _ _ _ _ _ _ (by exact a2s) (by exact a2x) (@a1m _ _ _ _ _ _ _ _ (pv 0) (@q4_ _ _ _ _ _) (fun _ _=>rfl) (by exact a1v)) (@z2_ _ _ _ _ _ (pv 1))) (by rfl) (by first|exact .inl rfl|exact .inr rfl|assumption)) (@v0_ _ _ _ _ _ _ (@a2B _ _ _ _ _ _ _ (@y5_ _ _ _ _ _ _ _ _ _ _ (by exact a8u) (by exact a8X) (@a1m _ _ _ _ _ _ _ _ (pv 0) (@q4_ _ _ _ _ _) (fun _ _=>rfl) (by exact a1v)) (@z2_ _ _ _ _ _ (pv 1))) (@a9h _ _ _ _ _ _ _ _ _ (pv 0) (@q4_ _ _ _ _ _) (by intro _;rfl)) (by rfl) (by rfl) (by rfl)) (@q3_ _ _ _ _ (@v6_ _ _ _ _ _ (@z2_ _ _ _ _ _ (pv 3)))))) (@k2_ _ _)) (@v0_ _ _ _ _ _ _ (@a2B _ _ _ _ _ _ _ (@y5_ _ _ _ _ _ _ _ _ _ _ (by exact a2s) (by exact a2x) (@y5_ _ _ _ _ _ _ _ _ _ _ (by exact g0_) (by exact g1_) (@y5_ _ _ _ _ _ _ _ _ _ _ (by exact a2b) (by exact a2c) (@a1m _ _ _ _ _ _ _ _ (pv 0) (@q4_ _ _ _ _ _) (fun _ _=>rfl) (by exact a1v)) (@q4_ _ _ _ _ _)) (@q4_ _ _ _ _ _)) (@q4_ _ _ _ _ _)) (@a9h _ _ _ _ _ _ _ _ _ (pv 0) (@q4_ _ _ _ _ _) (by intro _;rfl)) (by rfl) (by rfl) (by rfl)) (@v0_ _ _ _ _ _ _ (@k4_ _ _ _ _ _ 2 _ _ (by exact a4V.nd) (by exact rfl) (by first|exact Or.inl rfl|exact Or.inr rfl) (@y5_ _ _ _ _ _ _ _ _ _ _ (by exact a2s) (by exact a2x) (@y5_ _ _ _ _ _ _ _ _ _ _ (by exact g0_) (by exact g1_) (@y5_ _ _ _ _ _ _ _ _ _ _ (by exact g0_) (by exact g1_) (@y5_ _ _ _ _ _ _ _ _ _ _ (by exact a2b) (by exact a2c) (@a1m _ _ _ _ _ _ _ _ (pv 0) (@q4_ _ _ _ _ _) (fun _ _=>rfl) (by exact a1v)) (@a1m _ _ _ _ _ _ _ _ (pv 0) (@q4_ _ _ _ _ _) (fun _ _=>rfl) (by exact a1v))) (@y5_ _ _ _ _ _ _ _ _ _ _ (by exact a2b) (by exact a2c) (@q4_ _ _ _ _ _) (@a1m _ _ _ _ _ _ _ _ (pv 0) (@q4_ _ _ _ _ _) (fun _ _=>rfl) (by exact a1v)))) (@q4_ _ _ _ _ _)) (@q4_ _ _ _ _ _)) (by rfl) (by first|exact .inl rfl|exact .inr rfl|assumption)) (@v0_ _ _ _ _ _ _ (@k4_ _ _ _ _ _ 2 _ _ (by exact a4V.nd) (by exact rfl) (by first|exact Or.inl rfl|exact Or.inr rfl) (@y5_ _ _ _ _ _ _ _ _ _ _ (by exact a2s) (by exact a2x) (@y5_ _ _ _ _ _ _ _ _ _ _ (by exact g0_) (by exact g1_) (@y5_ _ _ _ _ _ _ _ _ _ _ (by exact a2b) (by exact a2c) (@z2_ _ _ _ _ _ (pv 2)) (@z2_ _ _ _ _ _ (pv 2))) (@y5_ _ _ _ _ _ _ _ _ _ _ (by exact a2b) (by exact a2c) (@q4_ _ _ _ _ _) (@z2_ _ _ _ _ _ (pv 2)))) (@q4_ _ _ _ _ _)) (by rfl) (by first|exact .inl rfl|exact .inr rfl|assumption)) (@q3_ _ _ _ _ (@v6_ _ _ _ _ _ (@y5_ _ _ _ _ _ _ _ _ _ _ (by exact a2s) (by exact a2x) (@y5_ _ _ _ _ _ _ _ _ _ _ (by exact a8u) (by exact a8X) (@z2_ _ _ _ _ _ (pv 2)) (@q4_ _ _ _ _ _)) (@z2_ _ _ _ _ _ (pv 1)))))))))
theorem a2n:FnScope ["_law_held_here","_law_found","_law_bit","_law_longer","_law_row","_law_here"] ["_law_held_here"] (v5_ a7k):=y2_
theorem b0x:(["-0","-1","-2","-3","-4","-5","_law_row","_law_here"]:List Str).Nodup:=by decide+kernel
def b8c:Mo Fl:=(q0_ (v7_ 1 (mF (a1l (z3_ (x6_ (z3_ (x6_ z6_) (z3_ (mC (.int 0)) z6_))) z6_)))) (q0_ (w4_ (x1_ (z0_ 0)) (gN 2) (q0_ (a0p 3 (a1l z6_)) (q0_ (w4_ (x1_ (z0_ 1)) (gT 2 (gCn (gN 4) (gCn (gN 5) gNl))) (q0_ (v9_ (a3o (mT (z4_ (dEq false) (z0_ 5) (mC (.int 1)))) (mT (z4_ (dEq false) (z0_ 2) (mC (.int 1))))) (a1W 3 (x6_ (z3_ (z4_ y8_ (z0_ 4) (x6_ (z3_ (a1k (mC (.int 1))) z6_))) (z3_ (mC (.int 0)) z6_)))) mNx) (q0_ (a1W 3 (x6_ (z3_ (z4_ y8_ (z0_ 4) (x6_ (z3_ (mC (.int 0)) z6_))) (z3_ (z0_ 5) z6_)))) (v9_ (a3o (mT (z4_ (dEq false) (z0_ 5) (mC (.int 0)))) (mT (z4_ (dEq false) (z0_ 2) (mC (.int 0))))) (a1W 3 (x6_ (z3_ (z4_ y8_ (z0_ 4) (x6_ (z3_ (mC (.int 1)) z6_))) (z3_ (mC (.int 1)) z6_)))) mNx)))) (v7_ 1 (z0_ 3))))) (a1V (y3_ (x1_ (z0_ 1)) [false,false,false,false,false,false] 2 (gT 2 (gCn (gN 6) (gCn (gN 7) gNl))) (mT (z4_ (dEq false) (z0_ 7) (mC (.int 1)))) (z0_ 6)))))
def a2o:Fn:=fnM 6 b8c
theorem b8d{f:Addr}{fd:FuncData}(F:Fun K "_law_rows" "_law_rows" a7k f fd)(T:Txt K mg):FnOk P w K mg base CX0 1 f fd ["_law_held_here"] (SpF K 1 a2o):=
 y1_ F a2n fun cdv A outer s H E hr=>(@v0_ _ _ _ _ _ _ (@k4_ _ _ _ _ _ 1 _ _ (by exact a2n.nd) (by exact rfl) (by first|exact Or.inl rfl|exact Or.inr rfl) (@u1_ _ _ _ _ (@a3r _ _ _ _ _ (@q1_ _ _ _ _ _ _ (@g4_ _ _ _ _ _ _ (@q1_ _ _ _ _ _ _ (@g4_ _ _ _ _ _ _ (@q6_ _ _)) (@q1_ _ _ _ _ _ _ (@q4_ _ _ _ _ _) (@q6_ _ _) (by exact z1_ rfl)) (by exact z1_ rfl))) (@q6_ _ _) (by exact z1_ rfl)))) (by rfl) (by first|exact .inl rfl|exact .inr rfl|assumption)) (@v0_ _ _ _ _ _ _ (@a0E _ _ _ _ _ _ _ _ _ (by exact Ze) (by exact rfl) (@u8_ _ _ _ _ _ (@z2_ _ _ _ _ _ (pv 0))) (@y6_ _ _ _ _ 2 _ (by exact(show 0≤2 by decide)) (by exact a2n.nd) (by exact rfl) (by first|exact Or.inl rfl|exact Or.inr rfl) (by first|exact .inl rfl|exact .inr rfl|assumption)) (@v0_ _ _ _ _ _ _ (@a5M _ _ _ _ _ 3 _ _ (by exact a2n.nd) (by exact rfl) (by first|exact Or.inl rfl|exact Or.inr rfl) (@a3r _ _ _ _ _ (@q6_ _ _)) (by rfl) (by first|exact .inl rfl|exact .inr rfl|assumption)) (@v0_ _ _ _ _ _ _ (@a0E _ _ _ _ _ _ _ _ _ (by exact Ze) (by exact rfl) (@u8_ _ _ _ _ _ (@z2_ _ _ _ _ _ (pv 1))) (@a1p _ _ _ _ _ _ _ _ (by exact rfl) (@j7_ _ _ _ _ _ _ _ (@y6_ _ _ _ _ 4 _ (by exact(show 0≤4 by decide)) (by exact a2n.nd) (by exact rfl) (by first|exact Or.inl rfl|exact Or.inr rfl) (by first|exact .inl rfl|exact .inr rfl|assumption)) (@j7_ _ _ _ _ _ _ _ (@y6_ _ _ _ _ 5 _ (by exact(show 0≤5 by decide)) (by exact a2n.nd) (by exact rfl) (by first|exact Or.inl rfl|exact Or.inr rfl) (by first|exact .inl rfl|exact .inr rfl|assumption)) (@a1o _ _ _) (by rfl)) (by rfl)) (by rfl) (by rfl)) (@v0_ _ _ _ _ _ _ (@k3_ _ _ _ _ _ _ _ _ _ (@a0X _ _ _ _ (@a9a _ _ _ _ _ _ _ _ (@w1_ _ _ _ _ _ _ _ _ _ _ (by exact(op_eqD hr.units)) (by exact opd_eq) (@z2_ _ _ _ _ _ (pv 5)) (@q4_ _ _ _ _ _) (by exact(nomark _))) (@a8Z _ _ _ _ _ (@w1_ _ _ _ _ _ _ _ _ _ _ (by exact(op_eqD hr.units)) (by exact opd_eq) (@z2_ _ _ _ _ _ (pv 2)) (@q4_ _ _ _ _ _) (by exact(nomark _)))))) (@q3_ _ _ _ _ (@a4w _ _ _ _ _ _ _ _ _ _ (pv 3) (@q1_ _ _ _ _ _ _ (@g4_ _ _ _ _ _ _ (@q1_ _ _ _ _ _ _ (@y5_ _ _ _ _ _ _ _ _ _ _ (by exact g0_) (by exact g1_) (@z2_ _ _ _ _ _ (pv 4)) (@g4_ _ _ _ _ _ _ (@q1_ _ _ _ _ _ _ (@a9b _ _ _ _ _ (@q4_ _ _ _ _ _)) (@q6_ _ _) (by exact z1_ rfl)))) (@q1_ _ _ _ _ _ _ (@q4_ _ _ _ _ _) (@q6_ _ _) (by exact z1_ rfl)) (by exact z1_ rfl))) (@q6_ _ _) (by exact z1_ rfl)) (by rfl) (by rfl) (by rfl) (by exact z1_ rfl) (by exact z9_ rfl) (by rfl))) (@k2_ _ _)) (@v0_ _ _ _ _ _ _ (@a4w _ _ _ _ _ _ _ _ _ _ (pv 3) (@q1_ _ _ _ _ _ _ (@g4_ _ _ _ _ _ _ (@q1_ _ _ _ _ _ _ (@y5_ _ _ _ _ _ _ _ _ _ _ (by exact g0_) (by exact g1_) (@z2_ _ _ _ _ _ (pv 4)) (@g4_ _ _ _ _ _ _ (@q1_ _ _ _ _ _ _ (@q4_ _ _ _ _ _) (@q6_ _ _) (by exact z1_ rfl)))) (@q1_ _ _ _ _ _ _ (@z2_ _ _ _ _ _ (pv 5)) (@q6_ _ _) (by exact z1_ rfl)) (by exact z1_ rfl))) (@q6_ _ _) (by exact z1_ rfl)) (by rfl) (by rfl) (by rfl) (by exact z1_ rfl) (by exact z9_ rfl) (by rfl)) (@q3_ _ _ _ _ (@k3_ _ _ _ _ _ _ _ _ _ (@a0X _ _ _ _ (@a9a _ _ _ _ _ _ _ _ (@w1_ _ _ _ _ _ _ _ _ _ _ (by exact(op_eqD hr.units)) (by exact opd_eq) (@z2_ _ _ _ _ _ (pv 5)) (@q4_ _ _ _ _ _) (by exact(nomark _))) (@a8Z _ _ _ _ _ (@w1_ _ _ _ _ _ _ _ _ _ _ (by exact(op_eqD hr.units)) (by exact opd_eq) (@z2_ _ _ _ _ _ (pv 2)) (@q4_ _ _ _ _ _) (by exact(nomark _)))))) (@q3_ _ _ _ _ (@a4w _ _ _ _ _ _ _ _ _ _ (pv 3) (@q1_ _ _ _ _ _ _ (@g4_ _ _ _ _ _ _ (@q1_ _ _ _ _ _ _ (@y5_ _ _ _ _ _ _ _ _ _ _ (by exact g0_) (by exact g1_) (@z2_ _ _ _ _ _ (pv 4)) (@g4_ _ _ _ _ _ _ (@q1_ _ _ _ _ _ _ (@q4_ _ _ _ _ _) (@q6_ _ _) (by exact z1_ rfl)))) (@q1_ _ _ _ _ _ _ (@q4_ _ _ _ _ _) (@q6_ _ _) (by exact z1_ rfl)) (by exact z1_ rfl))) (@q6_ _ _) (by exact z1_ rfl)) (by rfl) (by rfl) (by rfl) (by exact z1_ rfl) (by exact z9_ rfl) (by rfl))) (@k2_ _ _))))) (by intro _;rfl)) (@q3_ _ _ _ _ (@k4_ _ _ _ _ _ 1 _ _ (by exact a2n.nd) (by exact rfl) (by first|exact Or.inl rfl|exact Or.inr rfl) (@z2_ _ _ _ _ _ (pv 3)) (by rfl) (by first|exact .inl rfl|exact .inr rfl|assumption))))) (by intro _;rfl)) (@q3_ _ _ _ _ (@a5L _ _ _ _ _ (@a0c _ _ ["-0","-1","-2","-3","-4","-5","_law_row","_law_here"] _ [false,false,false,false,false,false] 2 _ _ _ _ _ _ _ _ _ (by exact(u4_ rfl rfl)) (by exact rfl) (@u8_ _ _ _ _ _ (@z2_ _ _ _ _ _ (pv 1))) (fun s H fp=>(@a1p _ _ _ _ _ _ _ _ (by exact rfl) (@j7_ _ _ _ _ _ _ _ (@y6_ _ _ _ _ 6 _ (by exact(show 6≤6 by decide)) (by exact b0x) (by exact rfl) (by first|exact Or.inl rfl|exact Or.inr rfl) (by first|exact .inl rfl|exact .inr rfl|assumption)) (@j7_ _ _ _ _ _ _ _ (@y6_ _ _ _ _ 7 _ (by exact(show 6≤7 by decide)) (by exact b0x) (by exact rfl) (by first|exact Or.inl rfl|exact Or.inr rfl) (by first|exact .inl rfl|exact .inr rfl|assumption)) (@a1o _ _ _) (by rfl)) (by rfl)) (by rfl) (by rfl))) (fun s H fp=>(@a9x _ _ _ _ (@w1_ _ _ _ _ _ _ _ _ _ _ (by exact(op_eqD hr.units)) (by exact opd_eq) (@z2_ _ _ _ _ _ (pv 7)) (@q4_ _ _ _ _ _) (by exact(nomark _))))) (fun s H fp=>(@z2_ _ _ _ _ _ (pv 6))) (by intro _;rfl))))))
theorem b8e:FnScope ["_law_held_here","_law_row"] ["_law_held_here","_law_row"] (v5_ a7l):=y2_
theorem b0y:(["-0","-1","_law_first","_law_second"]:List Str).Nodup:=by decide+kernel
def a7S:Mo Fl:=(q8_ (mCB j6_ (z3_ (mF (y3_ (a0q (z3_ (z0_ 0) (z3_ (z0_ 1) z6_))) [false,false] 2 (gT 2 (gCn (gN 2) (gCn (gN 3) gNl))) y9_ (z4_ y8_ (z0_ 2) (z0_ 3)))) z6_)))
def a3b:Fn:=fnM 2 a7S
theorem b8f{f:Addr}{fd:FuncData}(F:Fun K "_law_held" "_law_held" a7l f fd)(T:Txt K mg):FnOk P w K mg base CX0 1 f fd ["_law_held_here","_law_row"] (SpF K 2 a3b):=
 y1_ F b8e fun cdv A outer s H E hr=>(@q3_ _ _ _ _ (@v6_ _ _ _ _ _ (@a0C _ _ _ _ _ _ _ _ _ _ _ (by exact a0A) (by exact a0D) (by exact rfl) (by exact T.g_tuple) (by exact u5_) (@q1_ _ _ _ _ _ _ (@u1_ _ _ _ _ (@a0c _ _ ["-0","-1","_law_first","_law_second"] _ [false,false] 2 _ _ _ _ _ _ _ _ _ (by exact(u4_ rfl rfl)) (by exact rfl) (@a6e _ _ _ _ _ _ _ _ _ _ (by exact rfl) (by exact T.g_zip) (@q1_ _ _ _ _ _ _ (@z2_ _ _ _ _ _ (pv 0)) (@q1_ _ _ _ _ _ _ (@z2_ _ _ _ _ _ (pv 1)) (@q6_ _ _) (by exact z1_ rfl)) (by exact z1_ rfl)) (by exact se2 rfl rfl) (by exact se1 rfl)) (fun s H fp=>(@a1p _ _ _ _ _ _ _ _ (by exact rfl) (@j7_ _ _ _ _ _ _ _ (@y6_ _ _ _ _ 2 _ (by exact(show 2≤2 by decide)) (by exact b0y) (by exact rfl) (by first|exact Or.inl rfl|exact Or.inr rfl) (by first|exact .inl rfl|exact .inr rfl|assumption)) (@j7_ _ _ _ _ _ _ _ (@y6_ _ _ _ _ 3 _ (by exact(show 2≤3 by decide)) (by exact b0y) (by exact rfl) (by first|exact Or.inl rfl|exact Or.inr rfl) (by first|exact .inl rfl|exact .inr rfl|assumption)) (@a1o _ _ _) (by rfl)) (by rfl)) (by rfl) (by rfl))) (fun s H fp=>(@a0j _ _)) (fun s H fp=>(@y5_ _ _ _ _ _ _ _ _ _ _ (by exact g0_) (by exact g1_) (@z2_ _ _ _ _ _ (pv 2)) (@z2_ _ _ _ _ _ (pv 3)))) (by intro _;rfl))) (@q6_ _ _) (by exact z1_ rfl)) (by decide) (by decide) (by exact z1_ rfl) (by exact z9_ rfl))))
theorem a0I:FnScope ["_law_state_here","_law_side","_law_held_here","_law_found","_law_few","_law_turn","_law_rows_here","_law_row","_law_most"] ["_law_state_here","_law_side"] (v5_ a7m):=y2_
theorem b8g:(["-0","-1","-2","-3","-4","-5","-6","-7","_law_most","_law_row"]:List Str).Nodup:=by decide+kernel
theorem b8h:(["-0","-1","-2","-3","-4","-5","-6","-7","-8","_law_row"]:List Str).Nodup:=by decide+kernel
def a7T:Mo Fl:=(q0_ (v7_ 2 (z4_ j9_ (x6_ (z3_ (mC (.int 0)) z6_)) (z0_ 1))) (q0_ (v7_ 3 (x6_ z6_)) (q0_ (v7_ 4 (mCD 2 a0s (a0i 0 (z5_ (mC (.int 3)) z8_)))) (q0_ (w4_ (j0_ (z3_ (z0_ 1) z6_)) (gN 5) (q0_ (v7_ 6 (mF (a1a 1 a2o (z5_ (z0_ 2) z8_)))) (q0_ (v9_ (mT (z4_ (dEq false) (z0_ 4) (mC (.int 0)))) (q0_ (v7_ 8 (mCB (g6_ false) (z3_ (mF (y3_ (x1_ (z0_ 6)) [false,false,false,false,false,false,false,false,false] 1 (gN 9) y9_ (mCB (g6_ false) (z3_ (z0_ 9) z6_)))) z6_))) (a0p 6 (y3_ (x1_ (z0_ 6)) [false,false,false,false,false,false,false,false,true] 1 (gN 9) (mT (z4_ (dEq false) (mCB (g6_ false) (z3_ (z0_ 9) z6_)) (z0_ 8))) (z0_ 9)))) mNx) (q0_ (v7_ 7 (z4_ dIx (z0_ 6) (mCD 2 a0s (a0i 0 (z5_ (mCB y0_ (z3_ (z0_ 6) z6_)) z8_))))) (q0_ (v7_ 3 (z4_ y8_ (z0_ 3) (x6_ (z3_ (z0_ 7) z6_)))) (v7_ 2 (mCD 2 a3b (z5_ (z0_ 2) (z5_ (z0_ 7) z8_))))))))) (q8_ (z0_ 3))))))
def a3Y:Fn:=fnM 9 a7T
theorem b8i{f:Addr}{fd:FuncData}(F:Fun K "_law_table" "_law_table" a7m f fd)(T:Txt K mg)(d__law_take:Def P w K mg base "_law_take" 1 2 a0s)(d__law_rows:Def P w K mg base "_law_rows" 1 1 a2o)(d__law_held:Def P w K mg base "_law_held" 1 2 a3b):FnOk P w K mg base CX0 2 f fd ["_law_state_here","_law_side"] (SpF K 2 a3Y):=
 y1_ F a0I fun cdv A outer s H E hr=>(@v0_ _ _ _ _ _ _ (@k4_ _ _ _ _ _ 2 _ _ (by exact a0I.nd) (by exact rfl) (by first|exact Or.inl rfl|exact Or.inr rfl) (@y5_ _ _ _ _ _ _ _ _ _ _ (by exact a2b) (by exact a2c) (@g4_ _ _ _ _ _ _ (@q1_ _ _ _ _ _ _ (@q4_ _ _ _ _ _) (@q6_ _ _) (by exact z1_ rfl))) (@z2_ _ _ _ _ _ (pv 1))) (by rfl) (by first|exact .inl rfl|exact .inr rfl|assumption)) (@v0_ _ _ _ _ _ _ (@k4_ _ _ _ _ _ 3 _ _ (by exact a0I.nd) (by exact rfl) (by first|exact Or.inl rfl|exact Or.inr rfl) (@g4_ _ _ _ _ _ _ (@q6_ _ _)) (by rfl) (by first|exact .inl rfl|exact .inr rfl|assumption)) (@v0_ _ _ _ _ _ _ (@k4_ _ _ _ _ _ 4 _ _ (by exact a0I.nd) (by exact rfl) (by first|exact Or.inl rfl|exact Or.inr rfl) (@v1_ _ _ _ _ _ _ _ _ _ _ _ (by exact d__law_take) (by exact(hr.mono (show 1≤1 by decide))) (by exact rfl) (@a4t _ _ _ _ _ _ _ (pv 0) (@q2_ _ _ _ _ _ _ (@q4_ _ _ _ _ _) (@q9_ _ _) (by exact z1_ rfl)) (by exact z1_ rfl)) (by decide) (by exact z1_ rfl) (by exact z9_ rfl)) (by rfl) (by first|exact .inl rfl|exact .inr rfl|assumption)) (@v0_ _ _ _ _ _ _ (@a0E _ _ _ _ _ _ _ _ _ (by exact Ze) (by exact rfl) (@a1q _ _ _ _ _ _ _ (by exact rfl) (by exact T.g_range) (@q1_ _ _ _ _ _ _ (@z2_ _ _ _ _ _ (pv 1)) (@q6_ _ _) (by exact z1_ rfl)) (by exact se1 rfl)) (@y6_ _ _ _ _ 5 _ (by exact(show 0≤5 by decide)) (by exact a0I.nd) (by exact rfl) (by first|exact Or.inl rfl|exact Or.inr rfl) (by first|exact .inl rfl|exact .inr rfl|assumption)) (@v0_ _ _ _ _ _ _ (@k4_ _ _ _ _ _ 6 _ _ (by exact a0I.nd) (by exact rfl) (by first|exact Or.inl rfl|exact Or.inr rfl) (@u1_ _ _ _ _ (@a9M _ _ _ _ _ _ _ _ _ _ _ (by exact d__law_rows) (by exact(hr.mono (show 1≤1 by decide))) (by exact rfl) (@q2_ _ _ _ _ _ _ (@z2_ _ _ _ _ _ (pv 2)) (@q9_ _ _) (by exact z1_ rfl)) (by decide) (by exact z1_ rfl) (by exact z9_ rfl))) (by rfl) (by first|exact .inl rfl|exact .inr rfl|assumption)) (@v0_ _ _ _ _ _ _ (@k3_ _ _ _ _ _ _ _ _ _ (@w1_ _ _ _ _ _ _ _ _ _ _ (by exact(op_eqD hr.units)) (by exact opd_eq) (@z2_ _ _ _ _ _ (pv 4)) (@q4_ _ _ _ _ _) (by exact(nomark _))) (@v0_ _ _ _ _ _ _ (@k4_ _ _ _ _ _ 8 _ _ (by exact a0I.nd) (by exact rfl) (by first|exact Or.inl rfl|exact Or.inr rfl) (@k1_ _ _ _ _ _ _ _ _ _ _ _ (by exact(a6j rfl)) (by exact a6k) (by exact rfl) (by exact T.g_min) (by exact a4H) (@q1_ _ _ _ _ _ _ (@u1_ _ _ _ _ (@a0c _ _ ["-0","-1","-2","-3","-4","-5","-6","-7","-8","_law_row"] _ [false,false,false,false,false,false,false,false,false] 1 _ _ _ _ _ _ _ _ _ (by exact(u4_ rfl rfl)) (by exact rfl) (@u8_ _ _ _ _ _ (@z2_ _ _ _ _ _ (pv 6))) (fun s H fp=>(@y6_ _ _ _ _ 9 _ (by exact(show 9≤9 by decide)) (by exact b8h) (by exact rfl) (by first|exact Or.inl rfl|exact Or.inr rfl) (by first|exact .inl rfl|exact .inr rfl|assumption))) (fun s H fp=>(@a0j _ _)) (fun s H fp=>(@k1_ _ _ _ _ _ _ _ _ _ _ _ (by exact(a6j rfl)) (by exact a6k) (by exact rfl) (by exact T.g_min) (by exact a4H) (@q1_ _ _ _ _ _ _ (@z2_ _ _ _ _ _ (pv 9)) (@q6_ _ _) (by exact z1_ rfl)) (by decide) (by decide) (by exact z1_ rfl) (by exact z9_ rfl))) (by intro _;rfl))) (@q6_ _ _) (by exact z1_ rfl)) (by decide) (by decide) (by exact z1_ rfl) (by exact z9_ rfl)) (by rfl) (by first|exact .inl rfl|exact .inr rfl|assumption)) (@q3_ _ _ _ _ (@b4F _ _ ["-0","-1","-2","-3","-4","-5","-6","-7","_law_most","_law_row"] _ [false,false,false,false,false,false,false,false,true] 1 _ _ _ _ _ _ _ _ _ 6 _ _ _ (by exact(u4_ rfl rfl)) (by exact rfl) (by exact a0I.nd) (by exact rfl) (by exact rfl) (by exact rfl) (@u8_ _ _ _ _ _ (@z2_ _ _ _ _ _ (pv 6))) (fun s H fp=>(@y6_ _ _ _ _ 9 _ (by exact(show 9≤9 by decide)) (by exact b8g) (by exact rfl) (by first|exact Or.inl rfl|exact Or.inr rfl) (by first|exact .inl rfl|exact .inr rfl|assumption))) (fun s H fp=>(@a9x _ _ _ _ (@w1_ _ _ _ _ _ _ _ _ _ _ (by exact(op_eqD hr.units)) (by exact opd_eq) (@k1_ _ _ _ _ _ _ _ _ _ _ _ (by exact(a6j rfl)) (by exact a6k) (by exact rfl) (by exact T.g_min) (by exact a4H) (@q1_ _ _ _ _ _ _ (@z2_ _ _ _ _ _ (pv 9)) (@q6_ _ _) (by exact z1_ rfl)) (by decide) (by decide) (by exact z1_ rfl) (by exact z9_ rfl)) (@z2_ _ _ _ _ _ (pv 8)) (by exact(nomark _))))) (fun s H fp=>(@z2_ _ _ _ _ _ (pv 9))) (by intro _;rfl)))) (@k2_ _ _)) (@v0_ _ _ _ _ _ _ (@k4_ _ _ _ _ _ 7 _ _ (by exact a0I.nd) (by exact rfl) (by first|exact Or.inl rfl|exact Or.inr rfl) (@k9_ _ _ _ _ _ _ _ (@z2_ _ _ _ _ _ (pv 6)) (@v1_ _ _ _ _ _ _ _ _ _ _ _ (by exact d__law_take) (by exact(hr.mono (show 1≤1 by decide))) (by exact rfl) (@a4t _ _ _ _ _ _ _ (pv 0) (@q2_ _ _ _ _ _ _ (@k1_ _ _ _ _ _ _ _ _ _ _ _ (by exact j4_) (by exact j5_) (by exact rfl) (by exact T.g_len) (by exact Zq) (@q1_ _ _ _ _ _ _ (@z2_ _ _ _ _ _ (pv 6)) (@q6_ _ _) (by exact z1_ rfl)) (by decide) (by decide) (by exact z1_ rfl) (by exact z9_ rfl)) (@q9_ _ _) (by exact z1_ rfl)) (by exact z1_ rfl)) (by decide) (by exact z1_ rfl) (by exact z9_ rfl)) (fun _ _=>rfl)) (by rfl) (by first|exact .inl rfl|exact .inr rfl|assumption)) (@v0_ _ _ _ _ _ _ (@k4_ _ _ _ _ _ 3 _ _ (by exact a0I.nd) (by exact rfl) (by first|exact Or.inl rfl|exact Or.inr rfl) (@y5_ _ _ _ _ _ _ _ _ _ _ (by exact g0_) (by exact g1_) (@z2_ _ _ _ _ _ (pv 3)) (@g4_ _ _ _ _ _ _ (@q1_ _ _ _ _ _ _ (@z2_ _ _ _ _ _ (pv 7)) (@q6_ _ _) (by exact z1_ rfl)))) (by rfl) (by first|exact .inl rfl|exact .inr rfl|assumption)) (@q3_ _ _ _ _ (@k4_ _ _ _ _ _ 2 _ _ (by exact a0I.nd) (by exact rfl) (by first|exact Or.inl rfl|exact Or.inr rfl) (@v1_ _ _ _ _ _ _ _ _ _ _ _ (by exact d__law_held) (by exact(hr.mono (show 1≤1 by decide))) (by exact rfl) (@q2_ _ _ _ _ _ _ (@z2_ _ _ _ _ _ (pv 2)) (@q2_ _ _ _ _ _ _ (@z2_ _ _ _ _ _ (pv 7)) (@q9_ _ _) (by exact z1_ rfl)) (by exact z1_ rfl)) (by decide) (by exact z1_ rfl) (by exact z9_ rfl)) (by rfl) (by first|exact .inl rfl|exact .inr rfl|assumption))))))) (by intro _;rfl)) (@q3_ _ _ _ _ (@v6_ _ _ _ _ _ (@z2_ _ _ _ _ _ (pv 3))))))))
theorem b8j:FnScope ["_law_rows_here"] ["_law_rows_here"] (v5_ a7n):=y2_
theorem b8k:(["_law_rows_here","_law_at"]:List Str).Nodup:=by decide+kernel
theorem b8l:(["-0","_law_at","_law_row"]:List Str).Nodup:=by decide+kernel
def b8m:Mo Fl:=(q8_ (mCB j6_ (z3_ (mF (y3_ (j0_ (z3_ (mCB y0_ (z3_ (z4_ dIx (z0_ 0) (mC (.int 0))) z6_)) z6_)) [true] 1 (gN 1) y9_ (mCB j6_ (z3_ (mF (y3_ (x1_ (z0_ 0)) [false,true] 1 (gN 2) y9_ (z4_ dIx (z0_ 2) (z0_ 1)))) z6_)))) z6_)))
def a2p:Fn:=fnM 1 b8m
theorem b8n{f:Addr}{fd:FuncData}(F:Fun K "_law_slant" "_law_slant" a7n f fd)(T:Txt K mg):FnOk P w K mg base CX0 1 f fd ["_law_rows_here"] (SpF K 1 a2p):=
 y1_ F b8j fun cdv A outer s H E hr=>(@q3_ _ _ _ _ (@v6_ _ _ _ _ _ (@a0C _ _ _ _ _ _ _ _ _ _ _ (by exact a0A) (by exact a0D) (by exact rfl) (by exact T.g_tuple) (by exact u5_) (@q1_ _ _ _ _ _ _ (@u1_ _ _ _ _ (@a0c _ _ ["_law_rows_here","_law_at"] _ [true] 1 _ _ _ _ _ _ _ _ _ (by exact(u4_ rfl rfl)) (by exact rfl) (@a1q _ _ _ _ _ _ _ (by exact rfl) (by exact T.g_range) (@q1_ _ _ _ _ _ _ (@k1_ _ _ _ _ _ _ _ _ _ _ _ (by exact j4_) (by exact j5_) (by exact rfl) (by exact T.g_len) (by exact Zq) (@q1_ _ _ _ _ _ _ (@k9_ _ _ _ _ _ _ _ (@z2_ _ _ _ _ _ (pv 0)) (@q4_ _ _ _ _ _) (fun _ _=>rfl)) (@q6_ _ _) (by exact z1_ rfl)) (by decide) (by decide) (by exact z1_ rfl) (by exact z9_ rfl)) (@q6_ _ _) (by exact z1_ rfl)) (by exact se1 rfl)) (fun s H fp=>(@y6_ _ _ _ _ 1 _ (by exact(show 1≤1 by decide)) (by exact b8k) (by exact rfl) (by first|exact Or.inl rfl|exact Or.inr rfl) (by first|exact .inl rfl|exact .inr rfl|assumption))) (fun s H fp=>(@a0j _ _)) (fun s H fp=>(@a0C _ _ _ _ _ _ _ _ _ _ _ (by exact a0A) (by exact a0D) (by exact rfl) (by exact T.g_tuple) (by exact u5_) (@q1_ _ _ _ _ _ _ (@u1_ _ _ _ _ (@a0c _ _ ["-0","_law_at","_law_row"] _ [false,true] 1 _ _ _ _ _ _ _ _ _ (by exact(u4_ rfl rfl)) (by exact rfl) (@u8_ _ _ _ _ _ (@z2_ _ _ _ _ _ (pv 0))) (fun s H fp=>(@y6_ _ _ _ _ 2 _ (by exact(show 2≤2 by decide)) (by exact b8l) (by exact rfl) (by first|exact Or.inl rfl|exact Or.inr rfl) (by first|exact .inl rfl|exact .inr rfl|assumption))) (fun s H fp=>(@a0j _ _)) (fun s H fp=>(@k9_ _ _ _ _ _ _ _ (@z2_ _ _ _ _ _ (pv 2)) (@z2_ _ _ _ _ _ (pv 1)) (fun _ _=>rfl))) (by intro _;rfl))) (@q6_ _ _) (by exact z1_ rfl)) (by decide) (by decide) (by exact z1_ rfl) (by exact z9_ rfl))) (by intro _;rfl))) (@q6_ _ _) (by exact z1_ rfl)) (by decide) (by decide) (by exact z1_ rfl) (by exact z9_ rfl))))
theorem g8_:FnScope ["_law_script","_law_k","_law_state_here","_law_side","_law_table_here","_law_net","_law_kinds","_law_row","_law_heights","_law_column","_law_line","_law_arrows","_law_one","_law_left","_law_right","_law_above","_law_below"] ["_law_script"] (v5_ a2R):=y2_
theorem b0z:(["-0","-1","-2","-3","-4","-5","-6","-7","-8","-9","-10","-11","-12","-13","-14","-15","-16","_law_here","_law_after"]:List Str).Nodup:=by decide+kernel
def b8o:Mo Fl:=(q0_ (w4_ (j0_ (z3_ (mCB a2I (z3_ (mC (.int 1)) (z3_ (mCB a2J (z3_ (mCB y0_ (z3_ (z0_ 0) z6_)) (z3_ (mC (.int 6)) z6_))) z6_))) z6_)) (gN 1) (q0_ (a0p 2 (a1a 2 a3W (z5_ (z0_ 0) (z5_ (z0_ 1) z8_)))) (q0_ (v7_ 3 (z4_ y8_ (mC (.int 1)) (mCD 2 a0s (a0i 2 (z5_ (mC (.int 6)) z8_))))) (q0_ (v7_ 4 (mCD 2 a3Y (a0i 2 (z5_ (z0_ 3) z8_)))) (q0_ (v7_ 5 (mCD 1 a2m (z5_ (z0_ 4) z8_))) (q0_ (v9_ (k6_ (mT (z4_ a3z (mCD 1 a1i (z5_ (z0_ 5) z8_)) (mC (.bl true)))) (mT (z4_ (dEq true) (mCD 1 a3Q (z5_ (z0_ 5) z8_)) (z0_ 4)))) (q8_ (mC (.bl false))) mNx) (q0_ (v9_ (mT (z4_ a3z (mCD 1 a1h (z5_ (z0_ 4) z8_)) (mC (.bl true)))) (q8_ (mC (.bl false))) mNx) (q0_ (v7_ 6 (mCD 1 a3S (z5_ (z0_ 4) z8_))) (q0_ (v9_ (mT (z4_ (dEq true) (a6t 6) (z4_ j9_ (z0_ 3) (z0_ 3)))) (q8_ (mC (.bl false))) mNx) (q0_ (v9_ (mT (z4_ (dEq true) (a3G 6 (x6_ (z3_ (mC (.int 0)) (z3_ (mC (.int 1)) (z3_ (mC (.int 0)) (z3_ (mC (.int 1)) z6_))))) (mC (.int 0))) (z4_ y8_ (a3G 6 (x6_ (z3_ (mC (.int 1)) (z3_ (mC (.int 0)) (z3_ (mC (.int 1)) (z3_ (mC (.int 0)) z6_))))) (mC (.int 0))) (z0_ 3)))) (q8_ (mC (.bl false))) mNx) (q0_ (w4_ (j0_ (z3_ (z0_ 3) z6_)) (gN 7) (w4_ (j0_ (z3_ (z0_ 3) z6_)) (gN 9) (q0_ (w2_ (mCD 3 a1G (z5_ (z0_ 4) (z5_ (z0_ 7) (z5_ (z0_ 9) z8_)))) (gT 4 (gCn (gN 13) (gCn (gN 14) (gCn (gN 15) (gCn (gN 16) gNl)))))) (q0_ (v7_ 12 (z4_ dIx (z4_ dIx (z0_ 4) (z0_ 7)) (z0_ 9))) (v9_ (k6_ (mT (z4_ (dEq true) (z4_ w8_ (z0_ 14) (z0_ 13)) (z0_ 12))) (mT (z4_ (dEq true) (z4_ w8_ (z0_ 16) (z0_ 15)) (z0_ 12)))) (q8_ (mC (.bl false))) mNx))))) (q0_ (v9_ (mT (z4_ (dEq true) (mCD 1 a2m (z5_ (mCD 2 a3a (z5_ (z0_ 4) (z5_ (mC (.str "slant")) z8_))) z8_)) (x6_ (z3_ (mCD 1 a2p (z5_ (z4_ dIx (z0_ 5) (mC (.int 1))) z8_)) (z3_ (mCD 1 a2p (z5_ (z4_ dIx (z0_ 5) (mC (.int 0))) z8_)) z6_))))) (q8_ (mC (.bl false))) mNx) (q0_ (v7_ 8 (mCD 1 a3O (z5_ (z0_ 4) z8_))) (w4_ (a0q (z3_ (z0_ 8) (z3_ (z4_ dIx (z0_ 5) (mC (.int 1))) z6_))) (gT 2 (gCn (gN 10) (gCn (gN 11) gNl))) (v9_ (mT (z4_ (dEq true) (mCB j6_ (z3_ (mF (y3_ (a0q (z3_ (z0_ 10) (z3_ (mSl (z0_ 10) (a2M (mC (.int 1))) a2L) z6_))) [false,false,false,false,false,false,false,false,false,false,false,false,false,false,false,false,false] 2 (gT 2 (gCn (gN 17) (gCn (gN 18) gNl))) y9_ (z4_ w8_ (z0_ 18) (z0_ 17)))) z6_)) (z0_ 11))) (q8_ (mC (.bl false))) mNx))))))))))))))) (q8_ (mC (.bl true))))
def a4W:Fn:=fnM 17 b8o
theorem b8p{f:Addr}{fd:FuncData}(F:Fun K "law" "law" a2R f fd)(T:Txt K mg)(d__law_state:Def P w K mg base "_law_state" 2 2 a3W)(d__law_table:Def P w K mg base "_law_table" 2 2 a3Y)(d_net_of:Def P w K mg base "net_of" 7 1 a2m)(d_kinds_of:Def P w K mg base "kinds_of" 7 1 a3S)(d_heights_of:Def P w K mg base "heights_of" 7 1 a3O)(d__law_take:Def P w K mg base "_law_take" 1 2 a0s)(d_is_table:Def P w K mg base "is_table" 5 1 a1h)(d_is_net:Def P w K mg base "is_net" 6 1 a1i)(d_table_of_net:Def P w K mg base "table_of_net" 7 1 a3Q)(d_kind_at:Def P w K mg base "kind_at" 7 3 a1G)(d_turned:Def P w K mg base "turned" 7 2 a3a)(d__law_slant:Def P w K mg base "_law_slant" 1 1 a2p):FnOk P w K mg base CX0 8 f fd ["_law_script"] (SpF K 1 a4W):=
 y1_ F g8_ fun cdv A outer s H E hr=>(@v0_ _ _ _ _ _ _ (@a0E _ _ _ _ _ _ _ _ _ (by exact Ze) (by exact rfl) (@a1q _ _ _ _ _ _ _ (by exact rfl) (by exact T.g_range) (@q1_ _ _ _ _ _ _ (@k1_ _ _ _ _ _ _ _ _ _ _ _ (by exact(b3j rfl)) (by exact b4L) (by exact rfl) (by exact T.g_max) (by exact b5A) (@q1_ _ _ _ _ _ _ (@q4_ _ _ _ _ _) (@q1_ _ _ _ _ _ _ (@k1_ _ _ _ _ _ _ _ _ _ _ _ (by exact(b3k rfl)) (by exact b4M) (by exact rfl) (by exact T.g_min) (by exact a4H) (@q1_ _ _ _ _ _ _ (@k1_ _ _ _ _ _ _ _ _ _ _ _ (by exact j4_) (by exact j5_) (by exact rfl) (by exact T.g_len) (by exact Zq) (@q1_ _ _ _ _ _ _ (@z2_ _ _ _ _ _ (pv 0)) (@q6_ _ _) (by exact z1_ rfl)) (by decide) (by decide) (by exact z1_ rfl) (by exact z9_ rfl)) (@q1_ _ _ _ _ _ _ (@q4_ _ _ _ _ _) (@q6_ _ _) (by exact z1_ rfl)) (by exact z1_ rfl)) (by decide) (by decide) (by exact z1_ rfl) (by exact z9_ rfl)) (@q6_ _ _) (by exact z1_ rfl)) (by exact z1_ rfl)) (by decide) (by decide) (by exact z1_ rfl) (by exact z9_ rfl)) (@q6_ _ _) (by exact z1_ rfl)) (by exact se1 rfl)) (@y6_ _ _ _ _ 1 _ (by exact(show 0≤1 by decide)) (by exact g8_.nd) (by exact rfl) (by first|exact Or.inl rfl|exact Or.inr rfl) (by first|exact .inl rfl|exact .inr rfl|assumption)) (@v0_ _ _ _ _ _ _ (@a5M _ _ _ _ _ 2 _ _ (by exact g8_.nd) (by exact rfl) (by first|exact Or.inl rfl|exact Or.inr rfl) (@a9M _ _ _ _ _ _ _ _ _ _ _ (by exact d__law_state) (by exact(hr.mono (show 2≤7 by decide))) (by exact rfl) (@q2_ _ _ _ _ _ _ (@z2_ _ _ _ _ _ (pv 0)) (@q2_ _ _ _ _ _ _ (@z2_ _ _ _ _ _ (pv 1)) (@q9_ _ _) (by exact z1_ rfl)) (by exact z1_ rfl)) (by decide) (by exact z1_ rfl) (by exact z9_ rfl)) (by rfl) (by first|exact .inl rfl|exact .inr rfl|assumption)) (@v0_ _ _ _ _ _ _ (@k4_ _ _ _ _ _ 3 _ _ (by exact g8_.nd) (by exact rfl) (by first|exact Or.inl rfl|exact Or.inr rfl) (@y5_ _ _ _ _ _ _ _ _ _ _ (by exact g0_) (by exact g1_) (@q4_ _ _ _ _ _) (@v1_ _ _ _ _ _ _ _ _ _ _ _ (by exact d__law_take) (by exact(hr.mono (show 1≤7 by decide))) (by exact rfl) (@a4t _ _ _ _ _ _ _ (pv 2) (@q2_ _ _ _ _ _ _ (@q4_ _ _ _ _ _) (@q9_ _ _) (by exact z1_ rfl)) (by exact z1_ rfl)) (by decide) (by exact z1_ rfl) (by exact z9_ rfl))) (by rfl) (by first|exact .inl rfl|exact .inr rfl|assumption)) (@v0_ _ _ _ _ _ _ (@k4_ _ _ _ _ _ 4 _ _ (by exact g8_.nd) (by exact rfl) (by first|exact Or.inl rfl|exact Or.inr rfl) (@v1_ _ _ _ _ _ _ _ _ _ _ _ (by exact d__law_table) (by exact(hr.mono (show 2≤7 by decide))) (by exact rfl) (@a4t _ _ _ _ _ _ _ (pv 2) (@q2_ _ _ _ _ _ _ (@z2_ _ _ _ _ _ (pv 3)) (@q9_ _ _) (by exact z1_ rfl)) (by exact z1_ rfl)) (by decide) (by exact z1_ rfl) (by exact z9_ rfl)) (by rfl) (by first|exact .inl rfl|exact .inr rfl|assumption)) (@v0_ _ _ _ _ _ _ (@k4_ _ _ _ _ _ 5 _ _ (by exact g8_.nd) (by exact rfl) (by first|exact Or.inl rfl|exact Or.inr rfl) (@v1_ _ _ _ _ _ _ _ _ _ _ _ (by exact d_net_of) (by exact(hr.mono (show 7≤7 by decide))) (by exact rfl) (@q2_ _ _ _ _ _ _ (@z2_ _ _ _ _ _ (pv 4)) (@q9_ _ _) (by exact z1_ rfl)) (by decide) (by exact z1_ rfl) (by exact z9_ rfl)) (by rfl) (by first|exact .inl rfl|exact .inr rfl|assumption)) (@v0_ _ _ _ _ _ _ (@k3_ _ _ _ _ _ _ _ _ _ (@a0X _ _ _ _ (@a1U _ _ _ _ _ _ _ _ (@w1_ _ _ _ _ _ _ _ _ _ _ (by exact a9B) (by exact a9C) (@v1_ _ _ _ _ _ _ _ _ _ _ _ (by exact d_is_net) (by exact(hr.mono (show 6≤7 by decide))) (by exact rfl) (@q2_ _ _ _ _ _ _ (@z2_ _ _ _ _ _ (pv 5)) (@q9_ _ _) (by exact z1_ rfl)) (by decide) (by exact z1_ rfl) (by exact z9_ rfl)) (@w7_ _ _ _ _ _) (by exact(nomark _))) (@a1T _ _ _ _ _ (@w1_ _ _ _ _ _ _ _ _ _ _ (by exact(op_neD hr.units)) (by exact opd_eq) (@v1_ _ _ _ _ _ _ _ _ _ _ _ (by exact d_table_of_net) (by exact(hr.mono (show 7≤7 by decide))) (by exact rfl) (@q2_ _ _ _ _ _ _ (@z2_ _ _ _ _ _ (pv 5)) (@q9_ _ _) (by exact z1_ rfl)) (by decide) (by exact z1_ rfl) (by exact z9_ rfl)) (@z2_ _ _ _ _ _ (pv 4)) (by exact(nomark _)))))) (@q3_ _ _ _ _ (@v6_ _ _ _ _ _ (@w7_ _ _ _ _ _))) (@k2_ _ _)) (@v0_ _ _ _ _ _ _ (@k3_ _ _ _ _ _ _ _ _ _ (@w1_ _ _ _ _ _ _ _ _ _ _ (by exact a9B) (by exact a9C) (@v1_ _ _ _ _ _ _ _ _ _ _ _ (by exact d_is_table) (by exact(hr.mono (show 5≤7 by decide))) (by exact rfl) (@q2_ _ _ _ _ _ _ (@z2_ _ _ _ _ _ (pv 4)) (@q9_ _ _) (by exact z1_ rfl)) (by decide) (by exact z1_ rfl) (by exact z9_ rfl)) (@w7_ _ _ _ _ _) (by exact(nomark _))) (@q3_ _ _ _ _ (@v6_ _ _ _ _ _ (@w7_ _ _ _ _ _))) (@k2_ _ _)) (@v0_ _ _ _ _ _ _ (@k4_ _ _ _ _ _ 6 _ _ (by exact g8_.nd) (by exact rfl) (by first|exact Or.inl rfl|exact Or.inr rfl) (@v1_ _ _ _ _ _ _ _ _ _ _ _ (by exact d_kinds_of) (by exact(hr.mono (show 7≤7 by decide))) (by exact rfl) (@q2_ _ _ _ _ _ _ (@z2_ _ _ _ _ _ (pv 4)) (@q9_ _ _) (by exact z1_ rfl)) (by decide) (by exact z1_ rfl) (by exact z9_ rfl)) (by rfl) (by first|exact .inl rfl|exact .inr rfl|assumption)) (@v0_ _ _ _ _ _ _ (@k3_ _ _ _ _ _ _ _ _ _ (@w1_ _ _ _ _ _ _ _ _ _ _ (by exact(op_neD hr.units)) (by exact opd_eq) (@b6w _ _ _ _ _ _ _ _ _ (by exact rfl) (pv 6) (by exact rfl) (by exact T.g_sum) (by rfl) (by rfl) (by exact se1 rfl)) (@y5_ _ _ _ _ _ _ _ _ _ _ (by exact a2b) (by exact a2c) (@z2_ _ _ _ _ _ (pv 3)) (@z2_ _ _ _ _ _ (pv 3))) (by exact(nomark _))) (@q3_ _ _ _ _ (@v6_ _ _ _ _ _ (@w7_ _ _ _ _ _))) (@k2_ _ _)) (@v0_ _ _ _ _ _ _ (@k3_ _ _ _ _ _ _ _ _ _ (@w1_ _ _ _ _ _ _ _ _ _ _ (by exact(op_neD hr.units)) (by exact opd_eq) (@b0j _ _ _ _ _ _ _ _ _ _ _ (by exact hr.units) (pv 6) (@q1_ _ _ _ _ _ _ (@g4_ _ _ _ _ _ _ (@q1_ _ _ _ _ _ _ (@q4_ _ _ _ _ _) (@q1_ _ _ _ _ _ _ (@q4_ _ _ _ _ _) (@q1_ _ _ _ _ _ _ (@q4_ _ _ _ _ _) (@q1_ _ _ _ _ _ _ (@q4_ _ _ _ _ _) (@q6_ _ _) (by exact z1_ rfl)) (by exact z1_ rfl)) (by exact z1_ rfl)) (by exact z1_ rfl))) (@q1_ _ _ _ _ _ _ (@q4_ _ _ _ _ _) (@q6_ _ _) (by exact z1_ rfl)) (by exact z1_ rfl)) (by rfl) (by rfl) (by rfl) (by exact z1_ rfl) (by exact z9_ rfl)) (@y5_ _ _ _ _ _ _ _ _ _ _ (by exact g0_) (by exact g1_) (@b0j _ _ _ _ _ _ _ _ _ _ _ (by exact hr.units) (pv 6) (@q1_ _ _ _ _ _ _ (@g4_ _ _ _ _ _ _ (@q1_ _ _ _ _ _ _ (@q4_ _ _ _ _ _) (@q1_ _ _ _ _ _ _ (@q4_ _ _ _ _ _) (@q1_ _ _ _ _ _ _ (@q4_ _ _ _ _ _) (@q1_ _ _ _ _ _ _ (@q4_ _ _ _ _ _) (@q6_ _ _) (by exact z1_ rfl)) (by exact z1_ rfl)) (by exact z1_ rfl)) (by exact z1_ rfl))) (@q1_ _ _ _ _ _ _ (@q4_ _ _ _ _ _) (@q6_ _ _) (by exact z1_ rfl)) (by exact z1_ rfl)) (by rfl) (by rfl) (by rfl) (by exact z1_ rfl) (by exact z9_ rfl)) (@z2_ _ _ _ _ _ (pv 3))) (by exact(nomark _))) (@q3_ _ _ _ _ (@v6_ _ _ _ _ _ (@w7_ _ _ _ _ _))) (@k2_ _ _)) (@v0_ _ _ _ _ _ _ (@a0E _ _ _ _ _ _ _ _ _ (by exact Ze) (by exact rfl) (@a1q _ _ _ _ _ _ _ (by exact rfl) (by exact T.g_range) (@q1_ _ _ _ _ _ _ (@z2_ _ _ _ _ _ (pv 3)) (@q6_ _ _) (by exact z1_ rfl)) (by exact se1 rfl)) (@y6_ _ _ _ _ 7 _ (by exact(show 0≤7 by decide)) (by exact g8_.nd) (by exact rfl) (by first|exact Or.inl rfl|exact Or.inr rfl) (by first|exact .inl rfl|exact .inr rfl|assumption)) (@q3_ _ _ _ _ (@a0E _ _ _ _ _ _ _ _ _ (by exact Ze) (by exact rfl) (@a1q _ _ _ _ _ _ _ (by exact rfl) (by exact T.g_range) (@q1_ _ _ _ _ _ _ (@z2_ _ _ _ _ _ (pv 3)) (@q6_ _ _) (by exact z1_ rfl)) (by exact se1 rfl)) (@y6_ _ _ _ _ 9 _ (by exact(show 0≤9 by decide)) (by exact g8_.nd) (by exact rfl) (by first|exact Or.inl rfl|exact Or.inr rfl) (by first|exact .inl rfl|exact .inr rfl|assumption)) (@v0_ _ _ _ _ _ _ (@a2B _ _ _ _ _ _ _ (@v1_ _ _ _ _ _ _ _ _ _ _ _ (by exact d_kind_at) (by exact(hr.mono (show 7≤7 by decide))) (by exact rfl) (@q2_ _ _ _ _ _ _ (@z2_ _ _ _ _ _ (pv 4)) (@q2_ _ _ _ _ _ _ (@z2_ _ _ _ _ _ (pv 7)) (@q2_ _ _ _ _ _ _ (@z2_ _ _ _ _ _ (pv 9)) (@q9_ _ _) (by exact z1_ rfl)) (by exact z1_ rfl)) (by exact z1_ rfl)) (by decide) (by exact z1_ rfl) (by exact z9_ rfl)) (@a1p _ _ _ _ _ _ _ _ (by exact rfl) (@j7_ _ _ _ _ _ _ _ (@y6_ _ _ _ _ 13 _ (by exact(show 0≤13 by decide)) (by exact g8_.nd) (by exact rfl) (by first|exact Or.inl rfl|exact Or.inr rfl) (by first|exact .inl rfl|exact .inr rfl|assumption)) (@j7_ _ _ _ _ _ _ _ (@y6_ _ _ _ _ 14 _ (by exact(show 0≤14 by decide)) (by exact g8_.nd) (by exact rfl) (by first|exact Or.inl rfl|exact Or.inr rfl) (by first|exact .inl rfl|exact .inr rfl|assumption)) (@j7_ _ _ _ _ _ _ _ (@y6_ _ _ _ _ 15 _ (by exact(show 0≤15 by decide)) (by exact g8_.nd) (by exact rfl) (by first|exact Or.inl rfl|exact Or.inr rfl) (by first|exact .inl rfl|exact .inr rfl|assumption)) (@j7_ _ _ _ _ _ _ _ (@y6_ _ _ _ _ 16 _ (by exact(show 0≤16 by decide)) (by exact g8_.nd) (by exact rfl) (by first|exact Or.inl rfl|exact Or.inr rfl) (by first|exact .inl rfl|exact .inr rfl|assumption)) (@a1o _ _ _) (by rfl)) (by rfl)) (by rfl)) (by rfl)) (by rfl) (by rfl)) (by rfl) (by rfl) (by rfl)) (@v0_ _ _ _ _ _ _ (@k4_ _ _ _ _ _ 12 _ _ (by exact g8_.nd) (by exact rfl) (by first|exact Or.inl rfl|exact Or.inr rfl) (@k9_ _ _ _ _ _ _ _ (@k9_ _ _ _ _ _ _ _ (@z2_ _ _ _ _ _ (pv 4)) (@z2_ _ _ _ _ _ (pv 7)) (fun _ _=>rfl)) (@z2_ _ _ _ _ _ (pv 9)) (fun _ _=>rfl)) (by rfl) (by first|exact .inl rfl|exact .inr rfl|assumption)) (@q3_ _ _ _ _ (@k3_ _ _ _ _ _ _ _ _ _ (@a0X _ _ _ _ (@a1U _ _ _ _ _ _ _ _ (@w1_ _ _ _ _ _ _ _ _ _ _ (by exact(op_neD hr.units)) (by exact opd_eq) (@y5_ _ _ _ _ _ _ _ _ _ _ (by exact a1L) (by exact a1S) (@z2_ _ _ _ _ _ (pv 14)) (@z2_ _ _ _ _ _ (pv 13))) (@z2_ _ _ _ _ _ (pv 12)) (by exact(nomark _))) (@a1T _ _ _ _ _ (@w1_ _ _ _ _ _ _ _ _ _ _ (by exact(op_neD hr.units)) (by exact opd_eq) (@y5_ _ _ _ _ _ _ _ _ _ _ (by exact a1L) (by exact a1S) (@z2_ _ _ _ _ _ (pv 16)) (@z2_ _ _ _ _ _ (pv 15))) (@z2_ _ _ _ _ _ (pv 12)) (by exact(nomark _)))))) (@q3_ _ _ _ _ (@v6_ _ _ _ _ _ (@w7_ _ _ _ _ _))) (@k2_ _ _))))) (by intro _;rfl))) (by intro _;rfl)) (@v0_ _ _ _ _ _ _ (@k3_ _ _ _ _ _ _ _ _ _ (@w1_ _ _ _ _ _ _ _ _ _ _ (by exact(op_neD hr.units)) (by exact opd_eq) (@v1_ _ _ _ _ _ _ _ _ _ _ _ (by exact d_net_of) (by exact(hr.mono (show 7≤7 by decide))) (by exact rfl) (@q2_ _ _ _ _ _ _ (@v1_ _ _ _ _ _ _ _ _ _ _ _ (by exact d_turned) (by exact(hr.mono (show 7≤7 by decide))) (by exact rfl) (@q2_ _ _ _ _ _ _ (@z2_ _ _ _ _ _ (pv 4)) (@q2_ _ _ _ _ _ _ (@b3Z _ _ _ _ _ (by decide)) (@q9_ _ _) (by exact z1_ rfl)) (by exact z1_ rfl)) (by decide) (by exact z1_ rfl) (by exact z9_ rfl)) (@q9_ _ _) (by exact z1_ rfl)) (by decide) (by exact z1_ rfl) (by exact z9_ rfl)) (@g4_ _ _ _ _ _ _ (@q1_ _ _ _ _ _ _ (@v1_ _ _ _ _ _ _ _ _ _ _ _ (by exact d__law_slant) (by exact(hr.mono (show 1≤7 by decide))) (by exact rfl) (@q2_ _ _ _ _ _ _ (@k9_ _ _ _ _ _ _ _ (@z2_ _ _ _ _ _ (pv 5)) (@q4_ _ _ _ _ _) (fun _ _=>rfl)) (@q9_ _ _) (by exact z1_ rfl)) (by decide) (by exact z1_ rfl) (by exact z9_ rfl)) (@q1_ _ _ _ _ _ _ (@v1_ _ _ _ _ _ _ _ _ _ _ _ (by exact d__law_slant) (by exact(hr.mono (show 1≤7 by decide))) (by exact rfl) (@q2_ _ _ _ _ _ _ (@k9_ _ _ _ _ _ _ _ (@z2_ _ _ _ _ _ (pv 5)) (@q4_ _ _ _ _ _) (fun _ _=>rfl)) (@q9_ _ _) (by exact z1_ rfl)) (by decide) (by exact z1_ rfl) (by exact z9_ rfl)) (@q6_ _ _) (by exact z1_ rfl)) (by exact z1_ rfl))) (by exact(nomark _))) (@q3_ _ _ _ _ (@v6_ _ _ _ _ _ (@w7_ _ _ _ _ _))) (@k2_ _ _)) (@v0_ _ _ _ _ _ _ (@k4_ _ _ _ _ _ 8 _ _ (by exact g8_.nd) (by exact rfl) (by first|exact Or.inl rfl|exact Or.inr rfl) (@v1_ _ _ _ _ _ _ _ _ _ _ _ (by exact d_heights_of) (by exact(hr.mono (show 7≤7 by decide))) (by exact rfl) (@q2_ _ _ _ _ _ _ (@z2_ _ _ _ _ _ (pv 4)) (@q9_ _ _) (by exact z1_ rfl)) (by decide) (by exact z1_ rfl) (by exact z9_ rfl)) (by rfl) (by first|exact .inl rfl|exact .inr rfl|assumption)) (@q3_ _ _ _ _ (@a0E _ _ _ _ _ _ _ _ _ (by exact Ze) (by exact rfl) (@a6e _ _ _ _ _ _ _ _ _ _ (by exact rfl) (by exact T.g_zip) (@q1_ _ _ _ _ _ _ (@z2_ _ _ _ _ _ (pv 8)) (@q1_ _ _ _ _ _ _ (@k9_ _ _ _ _ _ _ _ (@z2_ _ _ _ _ _ (pv 5)) (@q4_ _ _ _ _ _) (fun _ _=>rfl)) (@q6_ _ _) (by exact z1_ rfl)) (by exact z1_ rfl)) (by exact se2 rfl rfl) (by exact se1 rfl)) (@a1p _ _ _ _ _ _ _ _ (by exact rfl) (@j7_ _ _ _ _ _ _ _ (@y6_ _ _ _ _ 10 _ (by exact(show 0≤10 by decide)) (by exact g8_.nd) (by exact rfl) (by first|exact Or.inl rfl|exact Or.inr rfl) (by first|exact .inl rfl|exact .inr rfl|assumption)) (@j7_ _ _ _ _ _ _ _ (@y6_ _ _ _ _ 11 _ (by exact(show 0≤11 by decide)) (by exact g8_.nd) (by exact rfl) (by first|exact Or.inl rfl|exact Or.inr rfl) (by first|exact .inl rfl|exact .inr rfl|assumption)) (@a1o _ _ _) (by rfl)) (by rfl)) (by rfl) (by rfl)) (@q3_ _ _ _ _ (@k3_ _ _ _ _ _ _ _ _ _ (@w1_ _ _ _ _ _ _ _ _ _ _ (by exact(op_neD hr.units)) (by exact opd_eq) (@a0C _ _ _ _ _ _ _ _ _ _ _ (by exact a0A) (by exact a0D) (by exact rfl) (by exact T.g_tuple) (by exact u5_) (@q1_ _ _ _ _ _ _ (@u1_ _ _ _ _ (@a0c _ _ ["-0","-1","-2","-3","-4","-5","-6","-7","-8","-9","-10","-11","-12","-13","-14","-15","-16","_law_here","_law_after"] _ [false,false,false,false,false,false,false,false,false,false,false,false,false,false,false,false,false] 2 _ _ _ _ _ _ _ _ _ (by exact(u4_ rfl rfl)) (by exact rfl) (@a6e _ _ _ _ _ _ _ _ _ _ (by exact rfl) (by exact T.g_zip) (@q1_ _ _ _ _ _ _ (@z2_ _ _ _ _ _ (pv 10)) (@q1_ _ _ _ _ _ _ (@b5e _ _ _ _ _ _ _ _ _ _ (@z2_ _ _ _ _ _ (pv 10)) (@b5c _ _ _ _ (@q4_ _ _ _ _ _)) (@b5b _ _)) (@q6_ _ _) (by exact z1_ rfl)) (by exact z1_ rfl)) (by exact se2 rfl rfl) (by exact se1 rfl)) (fun s H fp=>(@a1p _ _ _ _ _ _ _ _ (by exact rfl) (@j7_ _ _ _ _ _ _ _ (@y6_ _ _ _ _ 17 _ (by exact(show 17≤17 by decide)) (by exact b0z) (by exact rfl) (by first|exact Or.inl rfl|exact Or.inr rfl) (by first|exact .inl rfl|exact .inr rfl|assumption)) (@j7_ _ _ _ _ _ _ _ (@y6_ _ _ _ _ 18 _ (by exact(show 17≤18 by decide)) (by exact b0z) (by exact rfl) (by first|exact Or.inl rfl|exact Or.inr rfl) (by first|exact .inl rfl|exact .inr rfl|assumption)) (@a1o _ _ _) (by rfl)) (by rfl)) (by rfl) (by rfl))) (fun s H fp=>(@a0j _ _)) (fun s H fp=>(@y5_ _ _ _ _ _ _ _ _ _ _ (by exact a1L) (by exact a1S) (@z2_ _ _ _ _ _ (pv 18)) (@z2_ _ _ _ _ _ (pv 17)))) (by intro _;rfl))) (@q6_ _ _) (by exact z1_ rfl)) (by decide) (by decide) (by exact z1_ rfl) (by exact z9_ rfl)) (@z2_ _ _ _ _ _ (pv 11)) (by exact(nomark _))) (@q3_ _ _ _ _ (@v6_ _ _ _ _ _ (@w7_ _ _ _ _ _))) (@k2_ _ _))) (by intro _;rfl))))))))))))))) (by intro _;rfl)) (@q3_ _ _ _ _ (@v6_ _ _ _ _ _ (@w7_ _ _ _ _ _))))
end
def isW:D->Bool
 |.int _=>true
 |_=>false
theorem b0A(d:D):a0P [.dat d]=some (.d (.bl (isW d)),[.dat d]):=by cases d<;>rfl
def isR(d:D)(n:Int):Bool:=match d with
 |.tup es=>(es.length:Int)==n&&es.all isW
 |_=>false
theorem b8q(d:D)(n:Int)(hn:n≤1000):a1g [.dat d,.dat (.int n)]=some (.d (.bl (isR d n)),[.dat d,.dat (.int n)]):=by
 cases d with
 |tup es=>
  by_cases h:(es.length:Int)=n
  ·have t:(k6_ (x5_ (mT (mIs "tuple" (z0_ 0)))) (mT (z4_ (dEq true) (mCB y0_ (z3_ (z0_ 0) z6_)) (z0_ 1)))) [.dat (.tup es),.dat (.int n)]=some (false,[.dat (.tup es),.dat (.int n)]):=by
    show some (!((es.length:Int)==n),_)=_;rw[h];simp
   obtain⟨e',h1,w,rfl⟩:=a6g (g:=gN 2) (m:=mCD 1 a0P (z5_ (z0_ 2) z8_)) (P:=fun e=>∃w,e=[.nil,.nil,w]) (f:=fun d=>.bl (isW d)) (ds:=es) (env:=[.nil,.nil,.nil])
    (fun d _ e ⟨w,he⟩=>by
     subst he;refine⟨[.nil,.nil,.dat d],[.nil,.nil,.dat d],rfl,?_,_,rfl⟩;show((a0P [.dat d]).map fun q=>(q.1,_)).bind asD=_
     rw[b0A];rfl) ⟨.nil,rfl⟩
   have hl:es.length≤100000:=by omega
   have c:(y3_ (x1_ (z0_ 0)) [false,false] 1 (gN 2) y9_ (mCD 1 a0P (z5_ (z0_ 2) z8_))) [.dat (.tup es),.dat (.int n)]=some (es.map fun d=>.bl (isW d),[.dat (.tup es),.dat (.int n)]):=by
    show(if es.length≤100000 then(j2_ _ _ _ es [.nil,.nil,.nil]).bind _ else none)=_
    rw[Qb hl,h1];rfl
   unfold a1g fnM a7p;show(match q0_ _ _ [.dat (.tup es),.dat (.int n)]with|some (.ret d,env)=>_|some (.retL ds,env)=>_|some (.nx,env)=>_|_=>none)=_
   rw[k8_ (by rw[a1c t];rfl)]
   have r:(q8_ (mCB a2H (z3_ (mF (y3_ (x1_ (z0_ 0)) [false,false] 1 (gN 2) y9_ (mCD 1 a0P (z5_ (z0_ 2) z8_)))) z6_))) [.dat (.tup es),.dat (.int n)]=some (.ret (.bl (es.all isW)),[.dat (.tup es),.dat (.int n)]):=by
    unfold q8_ mCB z3_ mF;rw[c];show(((a0F (es.map fun d=>.bl (isW d))).map fun k=>D.bl k).map _).map _=_
    rw[a4I];rfl
   rw[r];show some (Rr.d (.bl (es.all isW)),_)=_
   simp[isR,h];rfl
  ·have t:(k6_ (x5_ (mT (mIs "tuple" (z0_ 0)))) (mT (z4_ (dEq true) (mCB y0_ (z3_ (z0_ 0) z6_)) (z0_ 1)))) [.dat (.tup es),.dat (.int n)]=some (true,[.dat (.tup es),.dat (.int n)]):=by
    show some (!((es.length:Int)==n),_)=_
    simp[h]
   unfold a1g fnM a7p;show(match q0_ _ _ [.dat (.tup es),.dat (.int n)]with|some (.ret d,env)=>_|some (.retL ds,env)=>_|some (.nx,env)=>_|_=>none)=_
   rw[a0N (d:=.bl false) (by rw[a1w t];rfl)]
   simp[isR,h];rfl
 |_=>rfl
def isG(d:D)(m n:Int):Bool:=match d with
 |.tup es=>(es.length:Int)==m&&es.all fun r=>isR r n
 |_=>false
theorem a7U(d:D)(k n:Int)(hk:k≤1000)(hn:n≤1000):a1E [.dat d,.dat (.int k),.dat (.int n)]=some (.d (.bl (isG d k n)),[.dat d,.dat (.int k),.dat (.int n)]):=by
 cases d with
 |tup es=>
  by_cases h:(es.length:Int)=k
  ·have t:(k6_ (x5_ (mT (mIs "tuple" (z0_ 0)))) (mT (z4_ (dEq true) (mCB y0_ (z3_ (z0_ 0) z6_)) (z0_ 1)))) [.dat (.tup es),.dat (.int k),.dat (.int n)]=some (false,[.dat (.tup es),.dat (.int k),.dat (.int n)]):=by
    show some (!((es.length:Int)==k),_)=_;rw[h];simp
   obtain⟨e',h1,w,rfl⟩:=a6g (g:=gN 3) (m:=mCD 2 a1g (z5_ (z0_ 3) (z5_ (z0_ 2) z8_))) (P:=fun e=>∃w,e=[.nil,.nil,.dat (.int n),w]) (f:=fun d=>.bl (isR d n)) (ds:=es) (env:=[.nil,.nil,.dat (.int n),.nil])
    (fun d _ e ⟨w,he⟩=>by
     subst he;refine⟨[.nil,.nil,.dat (.int n),.dat d],[.nil,.nil,.dat (.int n),.dat d],rfl,?_,_,rfl⟩;show((a1g [.dat d,.dat (.int n)]).map fun q=>(q.1,_)).bind asD=_
     rw[b8q d n hn];rfl) ⟨.nil,rfl⟩
   have hl:es.length≤100000:=by omega
   have c:(y3_ (x1_ (z0_ 0)) [false,false,true] 1 (gN 3) y9_ (mCD 2 a1g (z5_ (z0_ 3) (z5_ (z0_ 2) z8_)))) [.dat (.tup es),.dat (.int k),.dat (.int n)]=some (es.map fun d=>.bl (isR d n),[.dat (.tup es),.dat (.int k),.dat (.int n)]):=by
    show(if es.length≤100000 then(j2_ _ _ _ es [.nil,.nil,.dat (.int n),.nil]).bind _ else none)=_
    rw[Qb hl,h1];rfl
   refine(x7_ (d:=.bl (isG (.tup es) k n)) (env:=[.dat (.tup es),.dat (.int k),.dat (.int n)]) ?_).trans rfl;show a3J [.dat (.tup es),.dat (.int k),.dat (.int n)]=_;unfold a3J;rw[k8_ (by rw[a1c t];rfl)]
   unfold q8_ mCB z3_ mF;rw[c];show(((a0F (es.map fun d=>.bl (isR d n))).map fun k=>D.bl k).map _).map _=_
   rw[a4I]
   simp[isG,h]
  ·have t:(k6_ (x5_ (mT (mIs "tuple" (z0_ 0)))) (mT (z4_ (dEq true) (mCB y0_ (z3_ (z0_ 0) z6_)) (z0_ 1)))) [.dat (.tup es),.dat (.int k),.dat (.int n)]=some (true,[.dat (.tup es),.dat (.int k),.dat (.int n)]):=by
    show some (!((es.length:Int)==k),_)=_
    simp[h]
   refine(x7_ (d:=.bl (isG (.tup es) k n)) (env:=[.dat (.tup es),.dat (.int k),.dat (.int n)]) ?_).trans rfl;show a3J [.dat (.tup es),.dat (.int k),.dat (.int n)]=_;unfold a3J;rw[a0N (d:=.bl false) (by rw[a1w t];rfl)]
   simp[isG,h]
 |_=>rfl
def isS(d:D)(a b:Int):Bool:=match d with
 |.tup es=>(decide (a≤(es.length:Int))&&decide ((es.length:Int)≤b))&&es.all fun r=>isR r es.length
 |_=>false
theorem b8r(d:D)(a b:Int)(hb:b≤1000):a2S [.dat d,.dat (.int a),.dat (.int b)]=some (.d (.bl (isS d a b)),[.dat d,.dat (.int a),.dat (.int b)]):=by
 cases d with
 |tup es=>
  have t:(k6_ (x5_ (mT (mIs "tuple" (z0_ 0)))) (x5_ (mT (a0B dLe dLe (z0_ 1) (mCB y0_ (z3_ (z0_ 0) z6_)) (z0_ 2))))) [.dat (.tup es),.dat (.int a),.dat (.int b)]=some (!(decide (a≤(es.length:Int))&&decide ((es.length:Int)≤b)),[.dat (.tup es),.dat (.int a),.dat (.int b)]):=by
   by_cases h1:a≤(es.length:Int)
   ·have e1:dLe (.int a) (.int es.length)=some (.bl true):=by show some (D.bl (decide _))=_;simp[h1]
    show(((match dLe (.int a) (.int es.length)with|some (.bl true)=>_|some (.bl false)=>_|_=>none:Option (D×Env')).bind asB).map _)=_
    rw[e1,Yr h1];rfl
   ·have e1:dLe (.int a) (.int es.length)=some (.bl false):=by show some (D.bl (decide _))=_;simp[h1]
    show(((match dLe (.int a) (.int es.length)with|some (.bl true)=>_|some (.bl false)=>_|_=>none:Option (D×Env')).bind asB).map _)=_
    rw[e1,Zz h1];rfl
  by_cases h:(decide (a≤(es.length:Int))&&decide ((es.length:Int)≤b))=true
  ·rw[h]at t
   refine(x7_ (d:=.bl (isS (.tup es) a b)) (env:=[.dat (.tup es),.dat (.int a),.dat (.int b)]) ?_).trans rfl;show a3K [.dat (.tup es),.dat (.int a),.dat (.int b)]=_;unfold a3K;rw[k8_ (by rw[a1c t];rfl)]
   have hl:(es.length:Int)≤1000:=by
    rw[Qp,Qs,Qs]at h
    omega
   show(((a1E [.dat (.tup es),.dat (.int es.length),.dat (.int es.length)]).map fun q=>(q.1,_)).bind asD).map _=_
   rw[a7U _ _ _ hl hl]
   simp[isS,isG,h,asD]
  ·have h':(decide (a≤(es.length:Int))&&decide ((es.length:Int)≤b))=false:=by simpa using h
   rw[h']at t;refine(x7_ (d:=.bl (isS (.tup es) a b)) (env:=[.dat (.tup es),.dat (.int a),.dat (.int b)]) ?_).trans rfl;show a3K [.dat (.tup es),.dat (.int a),.dat (.int b)]=_;unfold a3K;rw[a0N (d:=.bl false) (by rw[a1w t];rfl)]
   simp[isS,h']
 |_=>rfl
def dR(l:List Int):D:=.tup (l.map .int)
def dT(R:OI):D:=.tup (R.map dR)
def unI:D->Int
 |.int i=>i
 |_=>0
def unR:D->List Int
 |.tup es=>es.map unI
 |.lst es=>es.map unI
 |_=>[]
def unT:D->OI
 |.tup es=>es.map unR
 |_=>[]
theorem b8s{d:D}(h:isW d=true):d=.int (unI d):=by cases d<;>first|rfl|cases h
theorem b8t{es:List D}(h:es.all isW=true):es=(es.map unI).map .int:=by
 induction es with
 |nil=>rfl
 |cons d es ih=>
  rw[Vs,Qp]at h;rw[Qm,Qm,←b8s h.1,←ih h.2]
theorem a3Z{d:D}{n:Int}(h:isR d n=true):d=dR (unR d)/\((unR d).length:Int)=n:=by
 cases d<;>first|cases h|skip
 rename_i es;simp only[isR,Qp,Jm]at h;refine⟨?_,by simp[unR,h.1]⟩
 show D.tup es=.tup ((es.map unI).map .int);rw[←b8t h.2]
theorem b0B{d:D}{a b:Int}(h:isS d a b=true):d=dT (unT d)/\a≤((unT d).length:Int)/\((unT d).length:Int)≤b/\∀r∈unT d,r.length=(unT d).length:=by
 cases d<;>first|cases h|skip
 rename_i es;simp only[isS,Qp,Qs,Qi]at h;refine⟨?_,by simpa [unT]using h.1.1,by simpa [unT]using h.1.2,fun r hr=>?_⟩
 ·show D.tup es=.tup ((es.map unR).map dR)
  congr 1
  rw[Qa]
  conv=>lhs;rw[←Vd es]
  exact Zb fun x hx=>(a3Z (h.2 x hx)).1
 ·obtain⟨x,hx,rfl⟩:=Yq.mp hr
  have:=(a3Z (h.2 x hx)).2;simp only[unT,Qv]
  omega
theorem b8u(l:List Int):(l.map D.int).map unI=l:=by rw[Qa];exact Vd l
theorem b8v(l:List Int):unR (dR l)=l:=b8u l
theorem a3c(R:OI):unT (dT R)=R:=by
 show(R.map dR).map unR=R;rw[Qa]
 conv=>rhs;rw[←Vd R]
 exact Zb fun r _=>b8v r
theorem b0C(l:List Int):isR (dR l) l.length=true:=by
 simp[isR,dR,isW]
theorem b0D{R:OI}{a b:Int}(h1:a≤R.length)(h2:(R.length:Int)≤b)(h:∀r∈R,r.length=R.length):isS (dT R) a b=true:=by
 simp only[isS,dT,Qv,Qp,Qs,Qi];refine⟨⟨h1,h2⟩,fun x hx=>?_⟩
 obtain⟨r,hr,rfl⟩:=Yq.mp hx;have:=b0C r;rw[h r hr]at this;exact this
theorem a1N{α:Type}{xs:List α}{j:Nat}{x:α}(h:xs[j]? =some x):atI xs (j:Int)=some x:=by
 have hj:j<xs.length:=(Qy.mp h).1
 unfold atI ixN;rw[Qb (by omega),Qb (by omega)]
 simpa using h
theorem a4X(n:Nat):u9_ 0 n=(List.range n).map fun(i:Nat)=>D.int i:=by
 unfold u9_;exact Zb fun i _=>by simp
theorem a4a{α:Type}{g:OZ}{m:Mo D}{P:Env'->Prop}{q:α->D}{f:α->D}{l:List α}{env:Env'}(h:∀a∈l,∀e,P e->∃e1 e2,g (q a) e=some e1/\m e1=some (f a,e2)/\P e2)(p:P env):
  ∃env',j2_ g y9_ m (l.map q) env=some (l.map f,env')/\P env':=by
 induction l generalizing env with
 |nil=>exact⟨env,rfl,p⟩
 |cons a l ih=>
  obtain⟨e1,e2,h1,h2,h3⟩:=h a (by simp) env p
  obtain⟨e3,h4,h5⟩:=ih (fun x hx=>h x (by simp[hx])) h3
  refine⟨e3,?_,h5⟩;rw[Qm,Qm];unfold j2_;rw[h1];simp only[Qk,y9_,Zs];rw[h2];simp only[Qk];rw[h4];rfl
def flip(n:Nat)(R:OI):OI:=(List.range n).map fun j=>R.map fun r=>r.getD j 0
theorem b8w{R:OI}{n:Nat}(h:∀r∈R,r.length=n){j:Nat}(hj:j<n){r:List Int}(hr:r∈R):dIx (dR r) (.int (j:Int))=some (.int (r.getD j 0)):=by
 show atI (r.map D.int) (j:Int)=_
 apply a1N
 have:=h r hr
 simp[Yk (show j<r.length by omega)]
theorem a7V{R:OI}{n:Nat}(hR:R≠[])(h:∀r∈R,r.length=n)(hn:n≤1000)(hl:R.length≤1000):g7_ [.dat (dT R)]=some (.d (dT (flip n R)),[.dat (dT R)]):=by
 obtain⟨r0,R',rfl⟩:∃r0 R',R=r0::R':=by
  cases R with
  |nil=>exact absurd rfl hR
  |cons a b=>exact⟨a,b,rfl⟩
 have h0:r0.length=n:=h r0 (by simp)
 have inner:∀j,j<n->(mCB j6_ (z3_ (mF (y3_ (x1_ (z0_ 0)) [false,true] 1 (gN 2) y9_ (z4_ dIx (z0_ 2) (z0_ 1)))) z6_)) [.dat (dT (r0::R')),.dat (.int (j:Int))]=some (dR ((r0::R').map fun r=>r.getD j 0),[.dat (dT (r0::R')),.dat (.int (j:Int))]):=fun j hj=>by
  obtain⟨e',h1,w',rfl⟩:=a4a (g:=gN 2) (m:=z4_ dIx (z0_ 2) (z0_ 1)) (P:=fun e=>∃w,e=[.nil,.dat (.int (j:Int)),w]) (q:=dR) (f:=fun r=>.int (r.getD j 0)) (l:=r0::R') (env:=[.nil,.dat (.int (j:Int)),.nil])
   (fun r hr e ⟨w,he⟩=>by
    subst he;refine⟨[.nil,.dat (.int (j:Int)),.dat (dR r)],[.nil,.dat (.int (j:Int)),.dat (dR r)],rfl,?_,_,rfl⟩;show(dIx (dR r) (.int (j:Int))).map _=_;rw[b8w h hj hr];rfl) ⟨.nil,rfl⟩
  have hl':((r0::R').map dR).length≤100000:=by rw[Qv];omega
  have c:(y3_ (x1_ (z0_ 0)) [false,true] 1 (gN 2) y9_ (z4_ dIx (z0_ 2) (z0_ 1))) [.dat (dT (r0::R')),.dat (.int (j:Int))]=some ((r0::R').map fun r=>.int (r.getD j 0),[.dat (dT (r0::R')),.dat (.int (j:Int))]):=by
   show(if((r0::R').map dR).length≤100000 then(j2_ _ _ _ ((r0::R').map dR) [.nil,.dat (.int (j:Int)),.nil]).bind _ else none)=_
   rw[Qb hl',h1];rfl
  unfold mCB z3_ mF;rw[c];show some (D.tup _,_)=_;unfold dR;rw[Qa];rfl
 obtain⟨e',h1,w,rfl⟩:=a4a (g:=gN 1) (m:=mCB j6_ (z3_ (mF (y3_ (x1_ (z0_ 0)) [false,true] 1 (gN 2) y9_ (z4_ dIx (z0_ 2) (z0_ 1)))) z6_)) (P:=fun e=>∃w,e=[.dat (dT (r0::R')),w]) (q:=fun(j:Nat)=>D.int j) (f:=fun j=>dR ((r0::R').map fun r=>r.getD j 0)) (l:=List.range n) (env:=[.dat (dT (r0::R')),.nil])
  (fun j hj e ⟨w,he⟩=>by
   subst he;exact⟨_,_,rfl,inner j (Zt.mp hj),_,rfl⟩) ⟨.nil,rfl⟩
 refine(x7_ (d:=dT (flip n (r0::R'))) (env:=[.dat (dT (r0::R'))]) ?_).trans rfl;show a7q [.dat (dT (r0::R'))]=_;unfold a7q;have hrg:(j0_ (z3_ (mCB y0_ (z3_ (z4_ dIx (z0_ 0) (mC (.int 0))) z6_)) z6_)) [.dat (dT (r0::R'))]=some (u9_ 0 n,[.dat (dT (r0::R'))]):=by
  have e:(z3_ (mCB y0_ (z3_ (z4_ dIx (z0_ 0) (mC (.int 0))) z6_)) z6_) [.dat (dT (r0::R'))]=some ([.int (n:Int)],[.dat (dT (r0::R'))]):=by
   refine x2_ (g2_ (x2_ (v3_ rfl rfl (show dIx (dT (r0::R')) (.int 0)=some (dR r0)from a1N (xs:=(r0::R').map dR) (j:=0) rfl)) rfl) ?_) rfl
   show some (D.int ((r0.map D.int).length:Nat))=_;rw[Qv,h0]
  have:=a6h e (by omega) (by omega)
  rwa [Yj]at this
 have c:(y3_ (j0_ (z3_ (mCB y0_ (z3_ (z4_ dIx (z0_ 0) (mC (.int 0))) z6_)) z6_)) [true] 1 (gN 1) y9_ (mCB j6_ (z3_ (mF (y3_ (x1_ (z0_ 0)) [false,true] 1 (gN 2) y9_ (z4_ dIx (z0_ 2) (z0_ 1)))) z6_))) [.dat (dT (r0::R'))]=some ((List.range n).map fun j=>dR ((r0::R').map fun r=>r.getD j 0),[.dat (dT (r0::R'))]):=by
  refine a3C (e2:=[.dat (dT (r0::R')),w]) hrg (by rw[a4X];simp;omega) ?_ rfl
  rw[a4X];exact h1
 refine x8_ (g2_ (x2_ (a1x c) rfl) ?_);show some (D.tup _)=_;unfold dT flip;rw[Qa];rfl
def tt:Int->List Int->Bool
 |s,[]=>s==1
 |s,x::l=>(s+x==0||s+x==1)&&tt (s+x) l
abbrev a0z:Mo Fl:=(q0_ (a4v 1 a4s (z0_ 2)) (v9_ (mT (z4_ (dIn true) (z0_ 1) (x6_ (z3_ (mC (.int 0)) (z3_ (mC (.int 1)) z6_))))) (q8_ (mC (.bl false))) mNx))
theorem b8x(L:D)(s x:Int):a0z [.dat L,.dat (.int s),.dat (.int x)]=some (stop (s+x==0||s+x==1) (.bl false),[.dat L,.dat (.int (s+x)),.dat (.int x)]):=by
 have t:(mT (z4_ (dIn true) (z0_ 1) (x6_ (z3_ (mC (.int 0)) (z3_ (mC (.int 1)) z6_))))) [.dat L,.dat (.int (s+x)),.dat (.int x)]=some (!(s+x==0||s+x==1),[.dat L,.dat (.int (s+x)),.dat (.int x)]):=by
  show some (!(List.contains [(0:Int),1] (s+x)),_)=_;rw[Zd,Zd,List.contains_nil,Bool.or_false]
 unfold a0z;rw[k8_ (e1:=[.dat L,.dat (.int (s+x)),.dat (.int x)]) rfl];cases hb:(s+x==0||s+x==1)with
 |true=>rw[hb]at t;rw[a1c t];rfl
 |false=>rw[hb]at t;rw[a1w t];rfl
theorem b0E(L:D):∀(l:List Int) (s:Int) (w:W),(∃s' w',loop (gN 2) a0z (l.map .int) [.dat L,.dat (.int s),w]=some (.nx,[.dat L,.dat (.int s'),w'])/\tt s l=(s'==1))∨(tt s l=false/\∃e,loop (gN 2) a0z (l.map .int) [.dat L,.dat (.int s),w]=some (.ret (.bl false),e)/\e.length=3/\e[0]? =some (.dat L))
 |[],s,w=>.inl ⟨s,w,rfl,rfl⟩
 |x::l,s,w=>by
  have h:=b8x L s x
  cases hb:(s+x==0||s+x==1)with
  |true=>
   rw[hb]at h;have e:∀r,loop (gN 2) a0z ((x::l).map .int) [.dat L,.dat (.int s),w]=r↔loop (gN 2) a0z (l.map .int) [.dat L,.dat (.int (s+x)),.dat (.int x)]=r:=fun r=>by
    rw[Qm];have:loop (gN 2) a0z (D.int x::l.map .int) [.dat L,.dat (.int s),w]=loop (gN 2) a0z (l.map .int) [.dat L,.dat (.int (s+x)),.dat (.int x)]:=by
     show(a0z [.dat L,.dat (.int s),.dat (.int x)]).bind _=_;rw[h];rfl
    rw[this]
   have et:tt s (x::l)=tt (s+x) l:=by simp[tt,hb]
   rw[et]
   rcases b0E L l (s+x) (.dat (.int x))with⟨s',w',h1,h2⟩|⟨h1,e',h2,h3⟩
   ·exact .inl ⟨s',w',(e _).mpr h1,h2⟩
   ·exact .inr ⟨h1,e',(e _).mpr h2,h3⟩
  |false=>
   rw[hb]at h;refine .inr ⟨by simp[tt,hb],[.dat L,.dat (.int (s+x)),.dat (.int x)],?_,rfl,rfl⟩
   rw[Qm];show(a0z [.dat L,.dat (.int s),.dat (.int x)]).bind _=_;rw[h];rfl
theorem b8y(l:List Int):a2k [.dat (dR l)]=some (.d (.bl (tt 0 l)),[.dat (dR l)]):=by
 have hi:(w4_ (x1_ (z0_ 0)) (gN 2) a0z) [.dat (dR l),.dat (.int 0),.nil]=loop (gN 2) a0z (l.map .int) [.dat (dR l),.dat (.int 0),.nil]:=rfl
 rcases b0E (dR l) l 0 .nil with⟨s',w',h1,h2⟩|⟨h1,e',h2,h3,h4⟩
 ·refine(x7_ (d:=.bl (tt 0 l)) (env:=[.dat (dR l),.dat (.int s'),w']) ?_).trans rfl
  show a3N [.dat (dR l),.nil,.nil]=_;unfold a3N;rw[k8_ (e1:=[.dat (dR l),.dat (.int 0),.nil]) rfl,k8_ (hi.trans h1)];show some (Fl.ret (.bl (s'==1)),_)=_;rw[h2]
 ·refine(x7_ (d:=.bl (tt 0 l)) (env:=e') ?_).trans ?_
  ·show a3N [.dat (dR l),.nil,.nil]=_
   unfold a3N;rw[k8_ (e1:=[.dat (dR l),.dat (.int 0),.nil]) rfl,a0N (hi.trans h2),h1]
  ·match e',h3,h4 with
   |[a,b,c],_,h4=>cases h4;rfl
def isT(d:D):Bool:=isS d 1 6&&(unT d++flip (unT d).length (unT d)).all (tt 0)
theorem b0F{n:Nat}{R:OI}:(flip n R).length=n:=by simp[flip]
theorem a7W(d:D):a1h [.dat d]=some (.d (.bl (isT d)),[.dat d]):=by
 have t:(x5_ (mT (mCD 3 a2S (z5_ (z0_ 0) (z5_ (mC (.int 1)) (z5_ (mC (.int 6)) z8_)))))) [.dat d]=some (!isS d 1 6,[.dat d]):=by
  show((((a2S [.dat d,.dat (.int 1),.dat (.int 6)]).map fun q=>(q.1,_)).bind asD).bind asB).map _=_
  rw[b8r d 1 6 (by decide)];rfl
 refine(x7_ (d:=.bl (isT d)) (env:=[.dat d]) ?_).trans rfl;show a7v [.dat d]=_;unfold a7v;cases hs:isS d 1 6 with
 |false=>
  rw[hs]at t;rw[a0N (d:=.bl false) (by rw[a1w t];rfl)]
  simp[isT,hs]
 |true=>
  rw[hs]at t;rw[k8_ (by rw[a1c t];rfl)]
  obtain⟨h1,h2,h3,h4⟩:=b0B hs;generalize unT d=R at h1 h2 h3 h4;subst h1;have fl:g7_ [.dat (dT R)]=some (.d (dT (flip R.length R)),[.dat (dT R)]):=a7V (by intro z;subst z;simp at h2) h4 (by omega) (by omega)
  have it:(x1_ (z4_ y8_ (z0_ 0) (mCD 1 g7_ (z5_ (z0_ 0) z8_)))) [.dat (dT R)]=some ((R++flip R.length R).map dR,[.dat (dT R)]):=by
   show(((((g7_ [.dat (dT R)]).map fun q=>(q.1,_)).bind asD).bind fun q=>(y8_ (dT R) q.1).map fun d=>(d,q.2)).bind _)=_
   rw[fl];show((y8_ (dT R) (dT (flip R.length R))).map fun d=>(d,([.dat (dT R)]:Env'))).bind _=_
   have:y8_ (dT R) (dT (flip R.length R))=some (.tup ((R++flip R.length R).map dR)):=by
    show(if(R.map dR).length+((flip R.length R).map dR).length≤10000 then _ else none)=_
    rw[Qb (by rw[Qv,Qv,b0F];omega),Zm]
   rw[this];rfl
  obtain⟨e',h5,w,rfl⟩:=a4a (g:=gN 1) (m:=mCD 1 a2k (z5_ (z0_ 1) z8_)) (P:=fun e=>∃w,e=[.nil,w]) (q:=dR) (f:=fun r=>.bl (tt 0 r)) (l:=R++flip R.length R) (env:=[.nil,.nil])
   (fun r _ e ⟨w,he⟩=>by
    subst he;refine⟨[.nil,.dat (dR r)],[.nil,.dat (dR r)],rfl,?_,_,rfl⟩;show((a2k [.dat (dR r)]).map fun q=>(q.1,_)).bind asD=_
    rw[b8y];rfl) ⟨.nil,rfl⟩
  have c:(y3_ (x1_ (z4_ y8_ (z0_ 0) (mCD 1 g7_ (z5_ (z0_ 0) z8_)))) [false] 1 (gN 1) y9_ (mCD 1 a2k (z5_ (z0_ 1) z8_))) [.dat (dT R)]=some ((R++flip R.length R).map fun r=>.bl (tt 0 r),[.dat (dT R)]):=by
   unfold y3_;rw[it];show(if((R++flip R.length R).map dR).length≤100000 then(j2_ _ _ _ ((R++flip R.length R).map dR) [.nil,.nil]).bind _ else none)=_
   rw[Qb (by rw[Qv,Ql,b0F];omega),h5];rfl
  unfold q8_ mCB z3_ mF;rw[c];show(((a0F ((R++flip R.length R).map fun r=>.bl (tt 0 r))).map fun k=>D.bl k).map _).map _=_
  rw[a4I];simp only[isT,hs,a3c,Uq];rfl
theorem a3d{i j:Int}(h:a1R i j=true):j9_ (.int i) (.int j)=some (.int (i * j)):=by
 unfold j9_ fOr a5H fI;simp only[h,Zs]
theorem a4b{i j:Int}(h1: -18446744073709551616<i)(h2:i<18446744073709551616):a1R i j=true:=by
 unfold a1R;rw[show((2:Int)^64)=18446744073709551616 from rfl]
 simp[h1,h2]
theorem b8z{i j:Int}(h1: -18446744073709551616<j)(h2:j<18446744073709551616):a1R i j=true:=by
 unfold a1R;rw[show((2:Int)^64)=18446744073709551616 from rfl]
 simp[h1,h2]
theorem a3e:∀l:List Int,y7_ (l.map D.int)=l.map PyData.int
 |[]=>rfl
 |x::l=>by show PyData.int x::y7_ (l.map D.int)=_;rw[a3e l];rfl
theorem a3F:∀l:List Int,PyData.canLayAll0 (l.map PyData.int)=true
 |[]=>rfl
 |x::l=>by show(true&&PyData.canLayAll0 (l.map PyData.int))=true;rw[a3F l];rfl
theorem a7X:∀l:List Int,PyData.depthAll (l.map PyData.int)=0
 |[]=>rfl
 |x::l=>by show max 0 (PyData.depthAll (l.map PyData.int))=0;rw[a7X l];rfl
theorem b0G:∀l k:List Int,PyData.eqvAll (l.map PyData.int) (k.map PyData.int)=decide (l=k)
 |[],[]=>rfl
 |[],_::_=>rfl
 |_::_,[]=>rfl
 |x::l,y::k=>by
  show((x==y)&&PyData.eqvAll (l.map PyData.int) (k.map PyData.int))=_;rw[b0G l k]
  by_cases h:x=y
  ·subst h;simp
  ·simp[h]
theorem b0H{a i b:Int}{e:Env'}{ma mb mc:Mo D}(h1:ma e=some (.int a,e))(h2:mb e=some (.int i,e))(h3:mc e=some (.int b,e)):a0B dLe dLe ma mb mc e=some (.bl (decide (a≤i)&&decide (i≤b)),e):=by
 unfold a0B;rw[h1];show(mb e).bind _=_;rw[h2]
 by_cases h:a≤i
 ·have e1:dLe (.int a) (.int i)=some (.bl true):=by show some (D.bl (decide _))=_;simp[h]
  simp only[Qk,e1];rw[h3];show some (D.bl (decide (i≤b)),e)=_
  simp[h]
 ·have e1:dLe (.int a) (.int i)=some (.bl false):=by show some (D.bl (decide _))=_;simp[h]
  simp only[Qk,e1]
  simp[h]
theorem b8A{i j k:Int}(h:a4r i j=true)(e:i^j.toNat=k):a1j (.int i) (.int j)=some (.int k):=by
 show(if a4r i j=true then some (D.int (i^j.toNat))else none)=_
 rw[Qb h,e]
theorem b0I:a1j (.int 10) (.int 18)=some (.int 1000000000000000000):=b8A (by decide+kernel) (by decide+kernel)
theorem a7Y{a m:Int}{b:Bool}(ha:0≤a)(h1:1≤m)(h2:m<1073741824):∃v a',a0s [.par [.int a,.bl b],.dat (.int m)]=some (.d (.int v),[.par [.int a',.bl b],.dat (.int m)])/\0≤v/\v<m/\0≤a':=by
 have dm:∀x:Int,a0n (.int x) (.int m)=some (.int (x%m)):=fun x=>by
  show(if decide (0<m)=true then _ else none)=_
  rw[Qb (by simp;omega)]
 have dd:∀x:Int,a3n (.int x) (.int m)=some (.int (x/m)):=fun x=>by
  show(if a4q x m=true then _ else none)=_
  rw[Qb (by unfold a4q;simp;omega)]
 cases b with
 |true=>
  refine⟨a%m,a/m,?_,Jn _ (by omega),Ul _ (by omega),Int.ediv_nonneg ha (by omega)⟩
  refine(x7_ (d:=.int (a%m)) (env:=[.par [.int (a/m),.bl true],.dat (.int m),.nil,.dat (.int (a%m))]) ?_).trans rfl;show a3X [.par [.int a,.bl true],.dat (.int m),.nil,.nil]=_;unfold a3X;have t:(mT (w9_ 0 (mC (.int 1)))) [.par [.int a,.bl true],.dat (.int m),.nil,.nil]=some (true,[.par [.int a,.bl true],.dat (.int m),.nil,.nil]):=rfl;have s1:(v7_ 3 (z4_ a0n (w9_ 0 (mC (.int 0))) (z0_ 1))) [.par [.int a,.bl true],.dat (.int m),.nil,.nil]=some (.nx,[.par [.int a,.bl true],.dat (.int m),.nil,.dat (.int (a%m))]):=a0r (e1:=[.par [.int a,.bl true],.dat (.int m),.nil,.nil]) (v3_ rfl rfl (dm a));have s2:(w2_ (z4_ a3n (w9_ 0 (mC (.int 0))) (z0_ 1)) (gS 0 (mC (.int 0)))) [.par [.int a,.bl true],.dat (.int m),.nil,.dat (.int (a%m))]=some (.nx,[.par [.int (a/m),.bl true],.dat (.int m),.nil,.dat (.int (a%m))]):=by
   unfold w2_;rw[v3_ (c:=.int (a/m)) rfl rfl (dd a)];rfl
  rw[a0N (d:=.int (a%m)) (by rw[a1w t,k8_ s1,k8_ s2];rfl)]
 |false=>
  have e1:∀x:Int,j9_ (.int x) (.int 48271)=some (.int (x * 48271)):=fun x=>a3d (b8z (by decide) (by decide))
  have md:∀(x k:Int),0<k->a0n (.int x) (.int k)=some (.int (x%k)):=fun x k hk=>by
   show(if decide (0<k)=true then _ else none)=_
   rw[Qb (by simp;omega)]
  let p:Int:=(a * 48271+29)%2147483647
  have hp:0≤p/\p<2147483647:=⟨Jn _ (by decide),Ul _ (by decide)⟩
  let q:Int:=(p * p+39373 * p+7)%2147483629
  have hq:0≤q/\q<2147483629:=⟨Jn _ (by decide),Ul _ (by decide)⟩
  let r:Int:=(q * q+16807 * q)%2147483587
  have hr:0≤r:=Jn _ (by decide)
  refine⟨r/8%m,p,?_,Jn _ (by omega),Ul _ (by omega),hp.1⟩
  refine(x7_ (d:=.int (r/8%m)) (env:=[.par [.int p,.bl false],.dat (.int m),.dat (.int r),.nil]) ?_).trans rfl;show a3X [.par [.int a,.bl false],.dat (.int m),.nil,.nil]=_;unfold a3X;have t:(mT (w9_ 0 (mC (.int 1)))) [.par [.int a,.bl false],.dat (.int m),.nil,.nil]=some (false,[.par [.int a,.bl false],.dat (.int m),.nil,.nil]):=rfl;have s1:(w2_ (z4_ a0n (z4_ y8_ (z4_ j9_ (w9_ 0 (mC (.int 0))) (mC (.int 48271))) (mC (.int 29))) (mC (.int 2147483647))) (gS 0 (mC (.int 0)))) [.par [.int a,.bl false],.dat (.int m),.nil,.nil]=some (.nx,[.par [.int p,.bl false],.dat (.int m),.nil,.nil]):=by
   unfold w2_;rw[v3_ (c:=.int p) (v3_ (c:=.int (a * 48271+29)) (v3_ rfl rfl (e1 a)) rfl rfl) rfl (md _ _ (by decide))];rfl
  have s2:(v7_ 2 (z4_ a0n (z4_ y8_ (z4_ y8_ (z4_ j9_ (w9_ 0 (mC (.int 0))) (w9_ 0 (mC (.int 0)))) (z4_ j9_ (mC (.int 39373)) (w9_ 0 (mC (.int 0))))) (mC (.int 7))) (mC (.int 2147483629)))) [.par [.int p,.bl false],.dat (.int m),.nil,.nil]=some (.nx,[.par [.int p,.bl false],.dat (.int m),.dat (.int q),.nil]):=
   a0r (e1:=[.par [.int p,.bl false],.dat (.int m),.nil,.nil]) (v3_ (c:=.int q) (v3_ (c:=.int (p * p+39373 * p+7)) (v3_ (c:=.int (p * p+39373 * p)) (v3_ rfl rfl (a3d (i:=p) (j:=p) (a4b (by omega) (by omega)))) (v3_ rfl rfl (a3d (i:=39373) (j:=p) (a4b (by decide) (by decide)))) rfl) rfl rfl) rfl (md _ _ (by decide)))
  have s3:(v7_ 2 (z4_ a0n (z4_ y8_ (z4_ j9_ (z0_ 2) (z0_ 2)) (z4_ j9_ (mC (.int 16807)) (z0_ 2))) (mC (.int 2147483587)))) [.par [.int p,.bl false],.dat (.int m),.dat (.int q),.nil]=some (.nx,[.par [.int p,.bl false],.dat (.int m),.dat (.int r),.nil]):=
   a0r (e1:=[.par [.int p,.bl false],.dat (.int m),.dat (.int q),.nil]) (v3_ (c:=.int r) (v3_ (c:=.int (q * q+16807 * q)) (v3_ rfl rfl (a3d (i:=q) (j:=q) (a4b (by omega) (by omega)))) (v3_ rfl rfl (a3d (i:=16807) (j:=q) (a4b (by decide) (by decide)))) rfl) rfl (md _ _ (by decide)))
  rw[k8_ (by rw[a1c t];rfl),k8_ s1,k8_ s2,k8_ s3]
  exact x8_ (v3_ (c:=.int (r/8%m)) (v3_ (c:=.int (r/8)) rfl rfl rfl) rfl (dm _))
theorem b8B(ns:List Int)(k:Nat)(hk:k<1000):∃c,a3U [.dat (.lst (ns.map .int)),.dat (.int k)]=some (.d (.int c),[.dat (.lst (ns.map .int)),.dat (.int k)]):=by
 have t:(mT (z4_ dLt (z0_ 1) (mCB y0_ (z3_ (z0_ 0) z6_)))) [.dat (.lst (ns.map .int)),.dat (.int k)]=some (decide ((k:Int)<(ns.length:Int)),[.dat (.lst (ns.map .int)),.dat (.int k)]):=by
  show some (decide ((k:Int)<((ns.map D.int).length:Nat)),_)=_;rw[Qv]
 by_cases h:k<ns.length
 ·have hd:decide ((k:Int)<(ns.length:Int))=true:=by simp;omega
  rw[hd]at t;refine⟨ns[k],(x7_ (d:=.int ns[k]) (env:=[.dat (.lst (ns.map .int)),.dat (.int k)]) ?_).trans rfl⟩;show a3T [.dat (.lst (ns.map .int)),.dat (.int k)]=_;unfold a3T;rw[a0N (d:=.int ns[k]) (by
   rw[a1w t];exact x8_ (v3_ rfl rfl (show atI (ns.map D.int) (k:Int)=_ from a1N (by simp[h]))))]
 ·have hd:decide ((k:Int)<(ns.length:Int))=false:=by simp;omega
  rw[hd]at t;refine⟨0,(x7_ (d:=.int 0) (env:=[.dat (.lst (ns.map .int)),.dat (.int k)]) ?_).trans rfl⟩;show a3T [.dat (.lst (ns.map .int)),.dat (.int k)]=_;unfold a3T;rw[k8_ (by rw[a1c t];rfl)];rfl
theorem b8C(ns:List Int)(k:Nat)(hk:k<1000):∃a b,0≤a/\a3W [.dat (.lst (ns.map .int)),.dat (.int k)]=some (.l [.int a,.bl b],[.dat (.lst (ns.map .int)),.dat (.int k)]):=by
 obtain⟨c,hc⟩:=b8B ns k hk;have s1:(v7_ 2 (mCD 2 a3U (z5_ (z0_ 0) (z5_ (z0_ 1) z8_)))) [.dat (.lst (ns.map .int)),.dat (.int k),.nil]=some (.nx,[.dat (.lst (ns.map .int)),.dat (.int k),.dat (.int c)]):=
  a0r (e1:=[.dat (.lst (ns.map .int)),.dat (.int k),.nil]) (a1d (a2f (av:=[.d (.lst (ns.map .int)),.d (.int k)]) rfl rfl rfl hc))
 have t:(mT (z4_ dGe (z0_ 2) (z4_ a1j (mC (.int 10)) (mC (.int 18))))) [.dat (.lst (ns.map .int)),.dat (.int k),.dat (.int c)]=some (decide (1000000000000000000≤c),[.dat (.lst (ns.map .int)),.dat (.int k),.dat (.int c)]):=by
  refine j3_ (v3_ (b:=.int 1000000000000000000) rfl ?_ rfl);exact v3_ rfl rfl b0I
 by_cases h:1000000000000000000≤c
 ·rw[Yr h]at t
  refine⟨c-1000000000000000000,true,by omega,(a9R (d:=[.int (c-1000000000000000000),.bl true]) (env:=[.dat (.lst (ns.map .int)),.dat (.int k),.dat (.int c)]) ?_).trans rfl⟩
  show a3V [.dat (.lst (ns.map .int)),.dat (.int k),.nil]=_;unfold a3V;rw[k8_ s1];have r:(a1V (a1l (z3_ (z4_ w8_ (z0_ 2) (z4_ a1j (mC (.int 10)) (mC (.int 18)))) (z3_ (mC (.bl true)) z6_)))) [.dat (.lst (ns.map .int)),.dat (.int k),.dat (.int c)]=some (.retL [.int (c-1000000000000000000),.bl true],[.dat (.lst (ns.map .int)),.dat (.int k),.dat (.int c)]):=by
   have b:=v3_ (f:=w8_) (ma:=z0_ 2) (mb:=z4_ a1j (mC (.int 10)) (mC (.int 18))) (env:=[.dat (.lst (ns.map .int)),.dat (.int k),.dat (.int c)]) (b:=.int 1000000000000000000) (c:=.int (c-1000000000000000000)) rfl (v3_ rfl rfl b0I) rfl
   refine b5D ?_
   unfold a1l;rw[x2_ b (x2_ rfl rfl)];rfl
  unfold q0_;rw[a1w t,r];rfl
 ·rw[Zz h]at t
  refine⟨c%2147483647,false,Jn _ (by decide),(a9R (d:=[.int (c%2147483647),.bl false]) (env:=[.dat (.lst (ns.map .int)),.dat (.int k),.dat (.int c)]) ?_).trans rfl⟩
  show a3V [.dat (.lst (ns.map .int)),.dat (.int k),.nil]=_;unfold a3V;rw[k8_ s1,k8_ (by rw[a1c t];rfl)];rfl
def bits:Nat->OI
 |0=>[[]]
 |n+1=>(bits n).map (fun l=>0::l)++(bits n).map (fun l=>1::l)
def g3_(h r:List Int):List Int:=List.zipWith (· + ·) h r
def b0J(h:List Int)(d:D):Bool:=isR d h.length&&(tt 0 (unR d)&&(g3_ h (unR d)).all fun x=>x==0||x==1)
def chk(h:List Int):Bool:=match a2o [.dat (dR h)]with
 |some (.l ds,_)=>ds.all (b0J h)&&((h.all fun x=>x==1)||(decide (1≤ds.length)&&decide (ds.length≤1000)))
 |_=>false
theorem b8D:(bits 1).all chk=true:=by decide+kernel
theorem b8E:(bits 2).all chk=true:=by decide+kernel
theorem b8F:(bits 3).all chk=true:=by decide+kernel
theorem b8G:(bits 4).all chk=true:=by decide+kernel
theorem b8H:(bits 5).all chk=true:=by decide+kernel
theorem b8I:(bits 6).all chk=true:=by decide+kernel
structure HB(h:List Int)(n:Nat):Prop where
 len:h.length=n
 bit:∀x∈h,x=0∨x=1
theorem HB.mem:∀{n:Nat}{h:List Int},HB h n->h∈bits n
 |0,h,H=>by
  have:=H.len;cases h with
  |nil=>simp[bits]
  |cons _ _=>simp at this
 |n+1,h,H=>by
  cases h with
  |nil=>have:=H.len;simp at this
  |cons x l=>
   have hl:HB l n:=⟨by have:=H.len;simpa using this,fun y hy=>H.bit y (by simp[hy])⟩
   have:=hl.mem;unfold bits;rw[List.mem_append,Yq,Yq]
   rcases H.bit x (by simp)with rfl|rfl
   ·exact .inl ⟨l,this,rfl⟩
   ·exact .inr ⟨l,this,rfl⟩
theorem b8J{n:Nat}{h:List Int}(h1:1≤n)(h6:n≤6)(H:HB h n):chk h=true:=by
 have hm:=H.mem
 match n,h1,h6 with
 |1,_,_=>exact Qi.mp b8D h hm
 |2,_,_=>exact Qi.mp b8E h hm
 |3,_,_=>exact Qi.mp b8F h hm
 |4,_,_=>exact Qi.mp b8G h hm
 |5,_,_=>exact Qi.mp b8H h hm
 |6,_,_=>exact Qi.mp b8I h hm
structure LineOk(h r:List Int):Prop where
 len:r.length=h.length
 tt:tt 0 r=true
 bit:∀x∈g3_ h r,x=0∨x=1
theorem b8K{n:Nat}{h:List Int}(h1:1≤n)(h6:n≤6)(H:HB h n)(hs:∃x∈h,x≠1):∃(rows:OI) (ws':List W),a2o [.dat (dR h)]=some (.l (rows.map dR),ws')/\1≤rows.length/\rows.length≤1000/\∀r∈rows,LineOk h r:=by
 have hc:=b8J h1 h6 H
 unfold chk at hc;split at hc
 ·rename_i ds ws' e
  rw[Qp]at hc;have hl:1≤ds.length/\ds.length≤1000:=by
   have h2:=hc.2
   rw[Up]at h2
   rcases h2 with h2|h2
   ·obtain⟨x,hx,hne⟩:=hs
    have:=Qi.mp h2 x hx
    simp at this
    exact absurd this hne
   ·rw[Qp,Qs,Qs]at h2
    exact h2
  have ok:∀d∈ds,d=dR (unR d)/\LineOk h (unR d):=fun d hd=>by
   have:=Qi.mp hc.1 d hd;unfold b0J at this;rw[Qp,Qp]at this;obtain⟨a1,a2⟩:=a3Z this.1;exact⟨a1,by omega,this.2.1,fun x hx=>by simpa using Qi.mp this.2.2 x hx⟩
  refine⟨ds.map unR,ws',?_,by rw[Qv];exact hl.1,by rw[Qv];exact hl.2,fun r hr=>?_⟩
  ·rw[e,Qa]
   have:ds.map (dR∘unR)=ds:=by
    conv=>rhs;rw[←Vd ds]
    exact Zb fun d hd=>(ok d hd).1.symm
   rw[this]
  ·obtain⟨d,hd,rfl⟩:=Yq.mp hr
   exact(ok d hd).2
 ·cases hc
theorem b8L(l:List Int):∀s,tt s l=true->s+l.sum=1:=by
 induction l with
 |nil=>intro s h;simpa [tt]using h
 |cons x l ih=>
  intro s h;simp only[tt,Qp]at h;have:=ih (s+x) h.2;simp only[Jz]
  omega
theorem b0K{h r:List Int}(e:r.length=h.length):(g3_ h r).length=h.length:=by simp[g3_,e]
theorem b0L:∀{h r:List Int},r.length=h.length->(g3_ h r).sum=h.sum+r.sum
 |[],[],_=>rfl
 |x::h,y::r,e=>by
  have:=b0L (h:=h) (r:=r) (by simpa using e)
  simp only[g3_,List.zipWith_cons_cons,Jz]at this ⊢
  omega
 |[],_::_,e=>by simp at e
 |_::_,[],e=>by simp at e
def run:Int->List Int->Option Int
 |s,[]=>some s
 |s,x::l=>if s+x=0∨s+x=1 then run (s+x) l else none
theorem b8M(l:List Int):∀s,tt s l=(run s l==some 1):=by
 induction l with
 |nil=>intro s;rfl
 |cons x l ih=>
  intro s;simp only[tt,run]
  by_cases h:s+x=0∨s+x=1
  ·rw[Qb h,←ih]
   have:(s+x==0||s+x==1)=true:=by simpa using h
   rw[this,Uq]
  ·rw[Qw h]
   have:(s+x==0||s+x==1)=false:=by simpa using h
   rw[this];rfl
theorem b8N(l:List Int)(x:Int):∀s t,run s l=some t->(t+x=0∨t+x=1)->run s (l++[x])=some (t+x):=by
 induction l with
 |nil=>intro s t h hx;cases h;simp[run,hx]
 |cons y l ih=>
  intro s t h hx;simp only[run,List.cons_append]at h ⊢;split at h
  ·rename_i hy
   rw[Qb hy];exact ih (s+y) t h hx
  ·cases h
theorem b0M:∀{h:List Int},(∀x∈h,x=0∨x=1)->h.sum≤h.length/\(h.sum=h.length->∀x∈h,x=1)
 |[],_=>⟨by simp,fun _ x hx=>by cases hx⟩
 |y::h,H=>by
  obtain⟨h1,h2⟩:=b0M (h:=h) fun x hx=>H x (by simp[hx])
  have hy:=H y (by simp)
  simp only[Jz,Ys];refine⟨by omega,fun e x hx=>?_⟩
  rcases Qr.mp hx with rfl|hx
  ·omega
  ·exact h2 (by omega) x hx
theorem a7Z{g:OZ}{b:Mo Fl}:∀{ds:List D}{P:Nat->Env'->Prop}{env:Env'},(∀i d e,ds[i]? =some d->P i e->∃e1 e2,g d e=some e1/\b e1=some (.nx,e2)/\P (i+1) e2)->P 0 env->∃env',loop g b ds env=some (.nx,env')/\P ds.length env'
 |[],P,env,_,p=>⟨env,rfl,p⟩
 |d::ds,P,env,h,p=>by
  obtain⟨e1,e2,h1,h2,h3⟩:=h 0 d env rfl p;obtain⟨e3,h4,h5⟩:=a7Z (ds:=ds) (P:=fun i e=>P (i+1) e) (fun i x e hi q=>h (i+1) x e (by simpa using hi) q) h3
  refine⟨e3,?_,h5⟩;unfold loop;rw[h1];simp only[Qk];rw[h2];exact h4
theorem b0N{h r:List Int}{j:Nat}(e:r.length=h.length)(hj:j<h.length):(g3_ h r).getD j 0=h.getD j 0+r.getD j 0:=by
 have hj2:j<r.length:=by omega
 simp[g3_,Yo,Yk hj,Yk hj2]
theorem b8O{h r:List Int}:a0d (h.map D.int) (r.map D.int)=(h.zip r).map fun p=>.tup [.int p.1,.int p.2]:=by
 unfold a0d;rw[List.zip_map,Qa];rfl
theorem b0O(f:Nat->Nat->Bool):∀k,argBest f k≤k
 |0=>Qu _
 |k+1=>by
  have:=b0O f k;unfold argBest;split<;>omega
theorem b8P{l:List Int}(h:1≤l.length):g5_ false l∈l:=by
 unfold g5_;have hl:=b0O (fun i j=>if false then decide (l.getD i 0>l.getD j 0)else decide (l.getD i 0<l.getD j 0)) (l.length-1)
 rw[List.getD_eq_getElem?_getD,Yk (by omega)]
 exact Jy _
theorem b0P{l:List Int}(h:1≤l.length):g6_ false [dR l]=some (.int (g5_ false l)):=by
 unfold dR;show(ints? (l.map D.int)).bind _=_;rw[a4L,Qk,Qw];cases l with
 |nil=>simp at h
 |cons _ _=>simp
theorem b8Q{l:List Int}(h:1≤l.length):g6_ false [.lst (l.map D.int)]=some (.int (g5_ false l)):=by
 show(ints? (l.map D.int)).bind _=_;rw[a4L,Qk,Qw];cases l with
 |nil=>simp at h
 |cons _ _=>simp
abbrev a8a:Mo Fl:=(q0_ (v7_ 6 (mF (a1a 1 a2o (z5_ (z0_ 2) z8_)))) (q0_ (v9_ (mT (z4_ (dEq false) (z0_ 4) (mC (.int 0)))) (q0_ (v7_ 8 (mCB (g6_ false) (z3_ (mF (y3_ (x1_ (z0_ 6)) [false,false,false,false,false,false,false,false,false] 1 (gN 9) y9_ (mCB (g6_ false) (z3_ (z0_ 9) z6_)))) z6_))) (a0p 6 (y3_ (x1_ (z0_ 6)) [false,false,false,false,false,false,false,false,true] 1 (gN 9) (mT (z4_ (dEq false) (mCB (g6_ false) (z3_ (z0_ 9) z6_)) (z0_ 8))) (z0_ 9)))) mNx) (q0_ (v7_ 7 (z4_ dIx (z0_ 6) (mCD 2 a0s (a0i 0 (z5_ (mCB y0_ (z3_ (z0_ 6) z6_)) z8_))))) (q0_ (v7_ 3 (z4_ y8_ (z0_ 3) (x6_ (z3_ (z0_ 7) z6_)))) (v7_ 2 (mCD 2 a3b (z5_ (z0_ 2) (z5_ (z0_ 7) z8_))))))))
abbrev b8R:Mo Fl:=(v9_ (mT (z4_ (dEq false) (z0_ 4) (mC (.int 0)))) (q0_ (v7_ 8 (mCB (g6_ false) (z3_ (mF (y3_ (x1_ (z0_ 6)) [false,false,false,false,false,false,false,false,false] 1 (gN 9) y9_ (mCB (g6_ false) (z3_ (z0_ 9) z6_)))) z6_))) (a0p 6 (y3_ (x1_ (z0_ 6)) [false,false,false,false,false,false,false,false,true] 1 (gN 9) (mT (z4_ (dEq false) (mCB (g6_ false) (z3_ (z0_ 9) z6_)) (z0_ 8))) (z0_ 9)))) mNx)
def LW(w:W)(ds:List D):Prop:=w=.dat (.lst ds)∨w=.own ds
theorem b8S{b:Bool}{a few:Int}{w1 w2 w3 w5 w7 w8:W}{rows:OI}(h1:1≤rows.length)(h2:rows.length≤1000)(hr:∀r∈rows,1≤r.length):
  ∃(rows':OI) (w6 x8:W),b8R [.par [.int a,.bl b],w1,w2,w3,.dat (.int few),w5,.dat (.lst (rows.map dR)),w7,w8]=some (.nx,[.par [.int a,.bl b],w1,w2,w3,.dat (.int few),w5,w6,w7,x8])/\LW w6 (rows'.map dR)/\1≤rows'.length/\rows'.length≤1000/\∀r∈rows',r∈rows:=by
 by_cases hf:few=0
 ·subst hf
  let most:Int:=g5_ false (rows.map (g5_ false))
  have hm:most∈rows.map (g5_ false):=b8P (by simpa using h1)
  obtain⟨r0,hr0,e0⟩:=Yq.mp hm;refine⟨rows.filter fun r=>(g5_ false r==most),.own ((rows.filter fun r=>(g5_ false r==most)).map dR),.dat (.int most),?_,.inr rfl,?_,?_,fun r hq=>(Vu.mp hq).1⟩
  ·refine a4M (e1:=[.par [.int a,.bl b],w1,w2,w3,.dat (.int 0),w5,.dat (.lst (rows.map dR)),w7,w8]) rfl ?_
   have c1:=b0m (mi:=x1_ (z0_ 6)) (keep:=[false,false,false,false,false,false,false,false,false]) (m:=mCB (g6_ false) (z3_ (z0_ 9) z6_)) (env:=[.par [.int a,.bl b],w1,w2,w3,.dat (.int 0),w5,.dat (.lst (rows.map dR)),w7,w8]) (base:=[.nil,.nil,.nil,.nil,.nil,.nil,.nil,.nil,.nil]) (l:=rows) (q:=dR) (f:=fun r=>.int (g5_ false r)) (k:=9) rfl (by omega) rfl rfl
    (fun r hq=>g2_ (x2_ (e1:=[.nil,.nil,.nil,.nil,.nil,.nil,.nil,.nil,.nil,.dat (dR r)]) rfl rfl) (b0P (hr r hq))) (fun w=>rfl)
   have s1:(v7_ 8 (mCB (g6_ false) (z3_ (mF (y3_ (x1_ (z0_ 6)) [false,false,false,false,false,false,false,false,false] 1 (gN 9) y9_ (mCB (g6_ false) (z3_ (z0_ 9) z6_)))) z6_))) [.par [.int a,.bl b],w1,w2,w3,.dat (.int 0),w5,.dat (.lst (rows.map dR)),w7,w8]=some (.nx,[.par [.int a,.bl b],w1,w2,w3,.dat (.int 0),w5,.dat (.lst (rows.map dR)),w7,.dat (.int most)]):=by
    refine a0r (e1:=[.par [.int a,.bl b],w1,w2,w3,.dat (.int 0),w5,.dat (.lst (rows.map dR)),w7,w8]) (g2_ (x2_ (a1x c1) rfl) ?_);have:=b8Q (l:=rows.map (g5_ false)) (by simpa using h1)
    rw[Qa]at this;exact this
   have c2:=b0l (mi:=x1_ (z0_ 6)) (keep:=[false,false,false,false,false,false,false,false,true]) (t:=mT (z4_ (dEq false) (mCB (g6_ false) (z3_ (z0_ 9) z6_)) (z0_ 8))) (m:=z0_ 9) (env:=[.par [.int a,.bl b],w1,w2,w3,.dat (.int 0),w5,.dat (.lst (rows.map dR)),w7,.dat (.int most)]) (base:=[.nil,.nil,.nil,.nil,.nil,.nil,.nil,.nil,.dat (.int most)]) (l:=rows) (q:=dR) (f:=dR) (p:=fun r=>(g5_ false r==most)) (k:=9) rfl (by omega) rfl rfl
    (fun r hq=>⟨j3_ (v3_ (a:=.int (g5_ false r)) (b:=.int most) (e1:=[.nil,.nil,.nil,.nil,.nil,.nil,.nil,.nil,.dat (.int most),.dat (dR r)]) (g2_ (x2_ (e1:=[.nil,.nil,.nil,.nil,.nil,.nil,.nil,.nil,.dat (.int most),.dat (dR r)]) rfl rfl) (b0P (hr r hq))) rfl rfl),fun _=>rfl⟩) (fun w=>rfl)
   refine y4_ s1 ?_
   unfold a0p;rw[c2];rfl
  ·have:r0∈rows.filter fun r=>(g5_ false r==most):=Vu.mpr ⟨hr0,by simp[e0]⟩
   exact List.length_pos_of_mem this
  ·exact Zn (List.length_filter_le _ _) h2
 ·refine⟨rows,.dat (.lst (rows.map dR)),w8,?_,.inl rfl,h1,h2,fun r hq=>hq⟩
  refine u6_ (e1:=[.par [.int a,.bl b],w1,w2,w3,.dat (.int few),w5,.dat (.lst (rows.map dR)),w7,w8]) ?_ rfl;refine j3_ (v3_ rfl rfl ?_);rw[a3B]
  simp[hf]
theorem b8T{w0 w1 w2 w3 w4 w5 w6 w7 w8:W}{ds:List D}(h:LW w6 ds):z0_ 6 [w0,w1,w2,w3,w4,w5,w6,w7,w8]=some (.lst ds,[w0,w1,w2,w3,w4,w5,.dat (.lst ds),w7,w8]):=by
 rcases h with rfl|rfl<;>rfl
theorem b8U{h r:List Int}(hl:r.length=h.length)(h6:h.length≤6):∃ws',a3b [.dat (dR h),.dat (dR r)]=some (.d (dR (g3_ h r)),ws'):=by
 have ez:(h.zip r).map (fun p=>D.int (p.1+p.2))=(g3_ h r).map D.int:=by
  unfold g3_;rw[List.map_zipWith,List.zip_eq_zipWith,List.map_zipWith]
 have c:=b0o (mi:=a0q (z3_ (z0_ 0) (z3_ (z0_ 1) z6_))) (keep:=[false,false]) (m:=z4_ y8_ (z0_ 2) (z0_ 3)) (env:=[.dat (dR h),.dat (dR r)]) (base:=[.nil,.nil]) (l:=h.zip r) (q:=fun p=>D.int p.1) (q2:=fun p=>D.int p.2) (f:=fun p=>.int (p.1+p.2)) (k:=2) (by
   show some (a0d (h.map D.int) (r.map D.int),_)=_;rw[b8O]) (by rw[List.length_zip];omega) rfl rfl (fun p _=>rfl) (fun w w2=>rfl)
 rw[ez]at c;refine⟨_,(x7_ (d:=dR (g3_ h r)) (env:=[.dat (dR h),.dat (dR r)]) ?_).trans rfl⟩;show a7S [.dat (dR h),.dat (dR r)]=_;unfold a7S;exact x8_ (g2_ (x2_ (a1x c) rfl) rfl)
structure TbI(b:Bool)(n i:Nat)(few:Int)(e:Env')(a:Int)(h:List Int)(rows:OI)(w5 w6 w7 w8:W):Prop where
 eq:e=[.par [.int a,.bl b],.dat (.int n),.dat (dR h),.dat (dT rows),.dat (.int few),w5,w6,w7,w8]
 a0:0≤a
 hb:HB h n
 len:rows.length=i
 row:∀r∈rows,r.length=n/\tt 0 r=true
 sum:h.sum=i
 col:∀j,j<n->run 0 (rows.map fun r=>r.getD j 0)=some (h.getD j 0)
theorem b8V{b:Bool}{n i:Nat}{few:Int}{e:Env'}{a:Int}{h:List Int}{rows:OI}{w5 w6 w7 w8:W}(h1:1≤n)(h6:n≤6)(hi:i<n)(I:TbI b n i few e a h rows w5 w6 w7 w8):
  ∃e2 a' h' rows' x5 x6 x7 x8,a8a e=some (.nx,e2)/\TbI b n (i+1) few e2 a' h' rows' x5 x6 x7 x8:=by
 obtain⟨rfl,a0,hb,hlen,hrow,hsum,hcol⟩:=I;have hs:∃x∈h,x≠1:=by
  refine Uu fun hn=>?_
  have hall:∀x∈h,x=1:=fun x hx=>Uu fun z=>hn ⟨x,hx,z⟩
  have:h.sum=h.length:=by
   clear hcol hsum hn hb
   induction h with
   |nil=>rfl
   |cons y h ih=>
    have h1:=hall y (by simp)
    have:=ih fun x hx=>hall x (by simp[hx])
    simp only[Jz,Ys]
    omega
  have:=hb.len
  omega
 obtain⟨lines0,ws',el,l10,l20,lok0⟩:=b8K h1 h6 hb hs;have hnl:h.length=n:=hb.len;obtain⟨lines,w6',x8,ef,lw,l1,l2,lsub⟩:=b8S (b:=b) (a:=a) (few:=few) (w1:=.dat (.int n)) (w2:=.dat (dR h)) (w3:=.dat (dT rows)) (w5:=w5) (w7:=w7) (w8:=w8) l10 l20 (fun r hq=>by rw[(lok0 r hq).len,hnl];exact h1)
 have lok:∀r∈lines,LineOk h r:=fun r hq=>lok0 r (lsub r hq)
 obtain⟨v,a',et,v0,v1,a0'⟩:=a7Y (a:=a) (m:=(lines.length:Int)) (b:=b) a0 (by omega) (by omega)
 have hv:v.toNat<lines.length:=by omega
 have hvv:((v.toNat:Nat):Int)=v:=by omega
 generalize hr:lines[v.toNat]=r;have rok:LineOk h r:=lok r (by rw[←hr];exact Jy hv)
 have rl:r.length=n:=by rw[rok.len,hb.len]
 obtain⟨wh,eh⟩:=b8U (h:=h) (r:=r) rok.len (by omega)
 refine⟨[.par [.int a',.bl b],.dat (.int n),.dat (dR (g3_ h r)),.dat (dT (rows++[r])),.dat (.int few),w5,.dat (.lst (lines.map dR)),.dat (dR r),x8],a',g3_ h r,rows++[r],w5,.dat (.lst (lines.map dR)),.dat (dR r),x8,?_,rfl,a0',⟨by rw[b0K rok.len];exact hnl,rok.bit⟩,by simp[hlen],?_,?_,?_⟩
 ·have s1:(v7_ 6 (mF (a1a 1 a2o (z5_ (z0_ 2) z8_)))) [.par [.int a,.bl b],.dat (.int n),.dat (dR h),.dat (dT rows),.dat (.int few),w5,w6,w7,w8]=some (.nx,[.par [.int a,.bl b],.dat (.int n),.dat (dR h),.dat (dT rows),.dat (.int few),w5,.dat (.lst (lines0.map dR)),w7,w8]):=
   a0r (e1:=[.par [.int a,.bl b],.dat (.int n),.dat (dR h),.dat (dT rows),.dat (.int few),w5,w6,w7,w8]) (a1x (a9S (a2f (av:=[.d (dR h)]) rfl rfl rfl el)))
  have tk:(mCD 2 a0s (a0i 0 (z5_ (mCB y0_ (z3_ (z0_ 6) z6_)) z8_))) [.par [.int a,.bl b],.dat (.int n),.dat (dR h),.dat (dT rows),.dat (.int few),w5,.dat (.lst (lines.map dR)),w7,x8]=some (.int v,[.par [.int a',.bl b],.dat (.int n),.dat (dR h),.dat (dT rows),.dat (.int few),w5,.dat (.lst (lines.map dR)),w7,x8]):=by
   refine a1d ((a4J (e1:=[.par [.int a,.bl b],.dat (.int n),.dat (dR h),.dat (dT rows),.dat (.int few),w5,.dat (.lst (lines.map dR)),w7,x8]) (w:=.par [.int a,.bl b]) (av:=[.sl 0,.d (.int (lines.length:Int))]) (i:=0) (c:=[.int a,.bl b]) (c':=[.int a',.bl b]) ?_ rfl rfl rfl rfl et rfl).trans rfl);show some ([Ar.sl 0,Ar.d (.int ((lines.map dR).length:Nat))],_)=_;rw[Qv]
  have s2:(v7_ 7 (z4_ dIx (z0_ 6) (mCD 2 a0s (a0i 0 (z5_ (mCB y0_ (z3_ (z0_ 6) z6_)) z8_))))) [.par [.int a,.bl b],.dat (.int n),.dat (dR h),.dat (dT rows),.dat (.int few),w5,w6',w7,x8]=some (.nx,[.par [.int a',.bl b],.dat (.int n),.dat (dR h),.dat (dT rows),.dat (.int few),w5,.dat (.lst (lines.map dR)),.dat (dR r),x8]):=by
   refine a0r (e1:=[.par [.int a',.bl b],.dat (.int n),.dat (dR h),.dat (dT rows),.dat (.int few),w5,.dat (.lst (lines.map dR)),w7,x8]) (v3_ (b8T lw) tk ?_);rw[←hvv];exact a1N (xs:=lines.map dR) (by rw[Zc,Yk hv,hr];rfl)
  have s4:(v7_ 3 (z4_ y8_ (z0_ 3) (x6_ (z3_ (z0_ 7) z6_)))) [.par [.int a',.bl b],.dat (.int n),.dat (dR h),.dat (dT rows),.dat (.int few),w5,.dat (.lst (lines.map dR)),.dat (dR r),x8]=some (.nx,[.par [.int a',.bl b],.dat (.int n),.dat (dR h),.dat (dT (rows++[r])),.dat (.int few),w5,.dat (.lst (lines.map dR)),.dat (dR r),x8]):=by
   refine a0r (e1:=[.par [.int a',.bl b],.dat (.int n),.dat (dR h),.dat (dT rows),.dat (.int few),w5,.dat (.lst (lines.map dR)),.dat (dR r),x8]) (v3_ rfl rfl ?_);show(if(rows.map dR).length+[dR r].length≤10000 then _ else none)=_
   rw[Qb (by rw[Qv];simp;omega)]
   unfold dT;rw[Zm];rfl
  have s3:(v7_ 2 (mCD 2 a3b (z5_ (z0_ 2) (z5_ (z0_ 7) z8_)))) [.par [.int a',.bl b],.dat (.int n),.dat (dR h),.dat (dT (rows++[r])),.dat (.int few),w5,.dat (.lst (lines.map dR)),.dat (dR r),x8]=some (.nx,[.par [.int a',.bl b],.dat (.int n),.dat (dR (g3_ h r)),.dat (dT (rows++[r])),.dat (.int few),w5,.dat (.lst (lines.map dR)),.dat (dR r),x8]):=
   a0r (e1:=[.par [.int a',.bl b],.dat (.int n),.dat (dR h),.dat (dT (rows++[r])),.dat (.int few),w5,.dat (.lst (lines.map dR)),.dat (dR r),x8]) (a1d (a2f (av:=[.d (dR h),.d (dR r)]) rfl rfl rfl eh))
  unfold a8a;exact y4_ s1 (y4_ ef (y4_ s2 (y4_ s4 s3)))
 ·intro r' hr'
  rcases Xk.mp hr' with z|z
  ·exact hrow r' z
  ·have:r'=r:=by simpa using z
   subst this;exact⟨rl,rok.tt⟩
 ·have:=b8L r 0 rok.tt
  rw[b0L rok.len]
  omega
 ·intro j hj
  rw[Zm,Qm,Jt,b0N rok.len (by omega)]
  refine b8N _ _ 0 _ (hcol j hj) ?_
  rw[←b0N rok.len (by omega)]
  have hjl:j<(g3_ h r).length:=by rw[b0K rok.len];omega
  have:(g3_ h r).getD j 0=(g3_ h r)[j]:=by simp[hjl]
  rw[this];exact rok.bit _ (Jy hjl)
structure Tab(T:OI):Prop where
 lo:1≤T.length
 hi:T.length≤6
 len:∀r∈T,r.length=T.length
 ok:isT (dT T)=true
theorem b8W{a:Int}{n:Nat}{b:Bool}(ha:0≤a)(n1:1≤n)(n6:n≤6):∃T a',a3Y [.par [.int a,.bl b],.dat (.int n)]=some (.d (dT T),[.par [.int a',.bl b],.dat (.int n)])/\0≤a'/\Tab T/\T.length=n:=by
 obtain⟨v,a1,et,v0,v1,a10⟩:=a7Y (a:=a) (m:=3) (b:=b) ha (by omega) (by omega)
 have s1:(v7_ 2 (z4_ j9_ (x6_ (z3_ (mC (.int 0)) z6_)) (z0_ 1))) [.par [.int a,.bl b],.dat (.int n),.nil,.nil,.nil,.nil,.nil,.nil,.nil]=some (.nx,[.par [.int a,.bl b],.dat (.int n),.dat (dR (List.replicate n 0)),.nil,.nil,.nil,.nil,.nil,.nil]):=by
  refine a0r (e1:=[.par [.int a,.bl b],.dat (.int n),.nil,.nil,.nil,.nil,.nil,.nil,.nil]) (v3_ rfl rfl ?_);show(if 1≤(n:Int)/\(n:Int)≤1000 then some (D.tup (List.replicate (n:Int).toNat (.int 0)))else none)=_
  rw[Qb (by omega),Yj]
  unfold dR;rw[List.map_replicate]
 have s2:(v7_ 3 (x6_ z6_)) [.par [.int a,.bl b],.dat (.int n),.dat (dR (List.replicate n 0)),.nil,.nil,.nil,.nil,.nil,.nil]=some (.nx,[.par [.int a,.bl b],.dat (.int n),.dat (dR (List.replicate n 0)),.dat (dT []),.nil,.nil,.nil,.nil,.nil]):=rfl
 have s3:(v7_ 4 (mCD 2 a0s (a0i 0 (z5_ (mC (.int 3)) z8_)))) [.par [.int a,.bl b],.dat (.int n),.dat (dR (List.replicate n 0)),.dat (dT []),.nil,.nil,.nil,.nil,.nil]=some (.nx,[.par [.int a1,.bl b],.dat (.int n),.dat (dR (List.replicate n 0)),.dat (dT []),.dat (.int v),.nil,.nil,.nil,.nil]):=
  a0r (e1:=[.par [.int a1,.bl b],.dat (.int n),.dat (dR (List.replicate n 0)),.dat (dT []),.nil,.nil,.nil,.nil,.nil]) (a1d ((a4J (e1:=[.par [.int a,.bl b],.dat (.int n),.dat (dR (List.replicate n 0)),.dat (dT []),.nil,.nil,.nil,.nil,.nil]) (w:=.par [.int a,.bl b]) (av:=[.sl 0,.d (.int 3)]) (i:=0) (c:=[.int a,.bl b]) (c':=[.int a1,.bl b]) rfl rfl rfl rfl rfl et rfl).trans rfl))
 have start:TbI b n 0 v [.par [.int a1,.bl b],.dat (.int n),.dat (dR (List.replicate n 0)),.dat (dT []),.dat (.int v),.nil,.nil,.nil,.nil] a1 (List.replicate n 0) [] .nil .nil .nil .nil:=by
  refine⟨rfl,a10,⟨by simp,fun x hx=>.inl (List.eq_of_mem_replicate hx)⟩,rfl,fun r hr=>(by cases hr),by simp,fun j hj=>?_⟩
  simp[run,Ur,hj]
 obtain⟨e',h1,a',h',rows',x5,x6,x7,x8,I⟩:=a7Z (g:=gN 5) (b:=a8a) (ds:=u9_ 0 n) (P:=fun i e=>∃a h rows w5 w6 w7 w8,TbI b n i v e a h rows w5 w6 w7 w8) (env:=[.par [.int a1,.bl b],.dat (.int n),.dat (dR (List.replicate n 0)),.dat (dT []),.dat (.int v),.nil,.nil,.nil,.nil])
  (fun i d e hi ⟨a,h,rows,w5,w6,w7,w8,I⟩=>by
   have hil:i<n:=by
    have:=(Qy.mp hi).1;rw[a4X]at this
    simpa using this
   obtain⟨rfl,r1,r2,r3,r4,r5,r6⟩:=I;obtain⟨e2,a',h',rows',x5,x6,x7,x8,t1,t2⟩:=b8V (b:=b) (few:=v) (w5:=.dat d) (w6:=w6) (w7:=w7) (w8:=w8) n1 n6 hil ⟨rfl,r1,r2,r3,r4,r5,r6⟩;exact⟨_,e2,rfl,t1,a',h',rows',x5,x6,x7,x8,t2⟩) ⟨_,_,_,_,_,_,_,start⟩
 have hlen:(u9_ 0 n).length=n:=by rw[a4X];simp
 rw[hlen]at I;obtain⟨rfl,r1,r2,r3,r4,r5,r6⟩:=I;have ones:=(b0M r2.bit).2 (by rw[r2.len];exact r5)
 have tab:Tab rows':=by
  refine⟨by omega,by omega,fun r hr=>by rw[r3];exact(r4 r hr).1,?_⟩
  unfold isT;rw[b0D (by omega) (by omega) (fun r hr=>by rw[r3];exact(r4 r hr).1),a3c,Uq,List.all_append,Qp,Qi,Qi]
  refine⟨fun r hr=>(r4 r hr).2,fun c hc=>?_⟩
  unfold flip at hc;obtain⟨j,hj,rfl⟩:=Yq.mp hc;have hj':j<n:=by rw[r3]at hj;exact Zt.mp hj
  rw[b8M,r6 j hj'];have hjl:j<h'.length:=by rw[r2.len];exact hj'
  have:h'.getD j 0=h'[j]:=by simp[hjl]
  rw[this,ones _ (Jy hjl)];rfl
 refine⟨rows',a',(x7_ (d:=dT rows') (env:=[.par [.int a',.bl b],.dat (.int n),.dat (dR h'),.dat (dT rows'),.dat (.int v),x5,x6,x7,x8]) ?_).trans rfl,r1,tab,r3⟩;show a7T [.par [.int a,.bl b],.dat (.int n),.nil,.nil,.nil,.nil,.nil,.nil,.nil]=_;unfold a7T;have rg:=a6h (ms:=z3_ (z0_ 1) z6_) (env:=[.par [.int a1,.bl b],.dat (.int n),.dat (dR (List.replicate n 0)),.dat (dT []),.dat (.int v),.nil,.nil,.nil,.nil]) (e1:=[.par [.int a1,.bl b],.dat (.int n),.dat (dR (List.replicate n 0)),.dat (dT []),.dat (.int v),.nil,.nil,.nil,.nil]) (j:=(n:Int)) rfl (by omega) (by omega)
 rw[Yj]at rg;rw[k8_ s1,k8_ s2,k8_ s3,k8_ ((a1z rg).trans h1)];rfl
def S(g:Nat->Int):Nat->Int
 |0=>0
 |k+1=>S g k+g k
def HH(f:OO)(i j:Nat):Int:=S (fun c=>S (fun r=>f r c) i) j
def U(h:OO)(i j:Nat):Int:=(h (i+1) (j+1)-h i (j+1))-(h (i+1) j-h i j)
theorem a8b{g g':Nat->Int}:∀{n:Nat},(∀k<n,g k=g' k)->S g n=S g' n
 |0,_=>rfl
 |n+1,h=>by
  show S g n+g n=S g' n+g' n;rw[a8b (n:=n) fun k hk=>h k (by omega),h n (by omega)]
theorem b8X(g:Nat->Int):∀n,S (fun k=>g (k+1)-g k) n=g n-g 0
 |0=>by show(0:Int)=_;omega
 |n+1=>by
  show S (fun k=>g (k+1)-g k) n+(g (n+1)-g n)=_
  rw[b8X g n];omega
theorem a4c(g:Nat->Int):∀n,S g (n+1)=g 0+S (fun k=>g (k+1)) n
 |0=>by show(0:Int)+g 0=g 0+0;omega
 |n+1=>by
  show S g (n+1)+g (n+1)=g 0+(S (fun k=>g (k+1)) n+g (n+1))
  rw[a4c g n];omega
theorem b8Y(f:OO)(i j:Nat):HH f i (j+1)=HH f i j+S (fun r=>f r j) i:=rfl
structure TabF(n:Nat)(f:OO):Prop where
 row:∀i<n,∀k≤n,S (f i) k=0∨S (f i) k=1
 rowN:∀i<n,S (f i) n=1
 col:∀j<n,∀k≤n,S (fun r=>f r j) k=0∨S (fun r=>f r j) k=1
 colN:∀j<n,S (fun r=>f r j) n=1
structure HtF(n:Nat)(h:OO):Prop where
 r0:∀i≤n,h i 0=0
 d0:∀j≤n,h 0 j=0
 rN:∀i≤n,h i n=i
 dN:∀j≤n,h n j=j
 dd:∀i<n,∀j≤n,h (i+1) j=h i j∨h (i+1) j=h i j+1
 rr:∀i≤n,∀j<n,h i (j+1)=h i j∨h i (j+1)=h i j+1
def tr(n:Nat)(h:OO)(i j:Nat):Int:=(i:Int)+j-n+h (n-i) (n-j)
theorem a8c:∀(n:Nat) (g:Nat->Int) (s:Int),tt s ((List.range n).map g)=true↔(∀k<n,s+S g (k+1)=0∨s+S g (k+1)=1)/\s+S g n=1
 |0,g,s=>by
  show(s==1)=true↔_;rw[Jm]
  constructor
  ·intro h;exact⟨fun k hk=>by omega,by show s+0=1;omega⟩
  ·rintro⟨_,h⟩;have:S g 0=0:=rfl;omega
 |n+1,g,s=>by
  rw[List.range_succ_eq_map,Qm,Qa];show((s+g 0==0||s+g 0==1)&&tt (s+g 0) ((List.range n).map fun k=>g (k+1)))=true↔_
  rw[Qp,Up,Jm,Jm,a8c n (fun k=>g (k+1)) (s+g 0),a4c g n]
  constructor
  ·rintro⟨h1,h2,h3⟩
   refine⟨fun k hk=>?_,by omega⟩
   rw[a4c g k];cases k with
   |zero=>show s+(g 0+0)=0∨s+(g 0+0)=1;omega
   |succ k=>have:=h2 k (by omega);omega
  ·rintro⟨h1,h2⟩
   refine⟨?_,fun k hk=>?_,by omega⟩
   ·have:=h1 0 (by omega)
    rw[a4c g 0]at this;have e:S (fun k=>g (k+1)) 0=0:=rfl
    omega
   ·have:=h1 (k+1) (by omega)
    rw[a4c g (k+1)]at this;omega
def gm(n m:Nat)(f:OO):OI:=(List.range n).map fun i=>(List.range m).map (f i)
theorem a0k{n m:Nat}{f:OO}:(gm n m f).length=n:=by simp[gm]
theorem a4Y{n m:Nat}{f:OO}:∀r∈gm n m f,r.length=m:=by
 intro r hr;obtain⟨i,_,rfl⟩:=Yq.mp hr
 simp
theorem a4d{n m:Nat}{f g:OO}(h:∀i<n,∀j<m,f i j=g i j):gm n m f=gm n m g:=by
 unfold gm
 apply Zb
 intro i hi
 apply Zb
 intro j hj;exact h i (Zt.mp hi) j (Zt.mp hj)
theorem b8Z{n m:Nat}{f g:OO}(h:gm n m f=gm n m g){i j:Nat}(hi:i<n)(hj:j<m):f i j=g i j:=by
 have h1:=Yh (fun R=>(R.getD i []).getD j 0) h
 simpa [gm,hi,hj]using h1
def at2(R:OI)(i j:Nat):Int:=(R.getD i []).getD j 0
theorem b9a{R:OI}{n:Nat}(h1:R.length=n)(h2:∀r∈R,r.length=n):R=gm n n (at2 R):=by
 subst h1;unfold gm
 apply Jo
 ·simp
 ·intro i hi hi'
  have hr:=h2 R[i] (Jy hi)
  rw[Vk,Ud]
  apply Jo
  ·simp[hr]
  ·intro j hj hj'
   rw[Vk,Ud]
   simp[at2,hi,hj]
theorem a8d(n m:Nat)(f:OO):flip m (gm n m f)=gm m n (fun i j=>f j i):=by
 unfold flip gm
 apply Zb
 intro j hj;have hj:=Zt.mp hj;rw[Qa]
 apply Zb
 intro i hi
 simp[hj]
theorem a3f{n:Nat}{f:OO}:isT (dT (gm n n f))=true↔(1≤n/\n≤6)/\TabF n f:=by
 unfold isT;rw[a3c,a0k,a8d,Qp,List.all_append,Qp,Qi,Qi];have row:∀g:OO,(∀x∈gm n n g,tt 0 x=true)↔ ∀i<n,(∀k≤n,S (g i) k=0∨S (g i) k=1)/\S (g i) n=1:=by
  intro g
  constructor
  ·intro h i hi
   have h1:=(a8c n (g i) 0).mp (h _ (List.mem_map.mpr ⟨i,Zt.mpr hi,rfl⟩))
   refine⟨fun k hk=>?_,by have:=h1.2;omega⟩
   cases k with
   |zero=>exact .inl rfl
   |succ k=>have:=h1.1 k (by omega);omega
  ·intro h x hx
   obtain⟨i,hi,rfl⟩:=Yq.mp hx;have h1:=h i (Zt.mp hi);refine(a8c n (g i) 0).mpr ⟨fun k hk=>?_,by have:=h1.2;omega⟩
   have:=h1.1 (k+1) (by omega);omega
 rw[row,row]
 constructor
 ·rintro⟨h1,h2,h3⟩
  have:=b0B h1;rw[a3c,a0k]at this;exact⟨⟨by omega,by omega⟩,⟨fun i hi=>(h2 i hi).1,fun i hi=>(h2 i hi).2,fun i hi=>(h3 i hi).1,fun i hi=>(h3 i hi).2⟩⟩
 ·rintro⟨⟨h1,h2⟩,T⟩
  refine⟨b0D (by rw[a0k];omega) (by rw[a0k];omega) (by rw[a0k];exact a4Y),fun i hi=>⟨T.row i hi,T.rowN i hi⟩,fun i hi=>⟨T.col i hi,T.colN i hi⟩⟩
theorem a8I{α:Type}(xs:List α)(x:α):atI (xs++[x]) (-1)=some x:=by
 unfold atI ixN;rw[Qw (by omega),Qb (by rw[Ql];simp;omega)]
 have:((-1:Int)+((xs++[x]).length:Nat)).toNat=xs.length:=by rw[Ql];simp;omega
 rw[this]
 simp
abbrev rw'(n:Nat)(g:Nat->Int):List Int:=(List.range n).map g
theorem a3g{n:Nat}{g:Nat->Int}{j:Nat}(h:j<n):dIx (dR (rw' n g)) (.int (j:Int))=some (.int (g j)):=by
 show atI ((rw' n g).map D.int) (j:Int)=_;exact a1N (by simp[h])
theorem a4Z{n m:Nat}{f:OO}{j:Nat}(h:j<n):dIx (dT (gm n m f)) (.int (j:Int))=some (dR (rw' m (f j))):=by
 show atI ((gm n m f).map dR) (j:Int)=_;exact a1N (by simp[gm,h])
theorem b9b(n:Nat)(g:Nat->Int)(hn:n≤1000):a3L [.dat (dR (rw' n g))]=some (.d (dR (rw' (n+1) (S g))),[.dat (dR (rw' n g))]):=by
 generalize hL:dR (rw' n g)=L;have hLi:L.items=some ((rw' n g).map D.int):=by rw[←hL];rfl
 obtain⟨e',h1,w,rfl⟩:=a7Z (g:=gN 2) (b:=a1W 1 (z4_ y8_ (w9_ 1 (a1k (mC (.int 1)))) (z0_ 2))) (ds:=(rw' n g).map D.int) (P:=fun i e=>∃w,e=[.dat L,.own ((rw' (i+1) (S g)).map D.int),w]) (env:=[.dat L,.own [.int 0],.nil])
  (fun i d e hi ⟨w,he⟩=>by
   subst he;have hil:i<n:=by
    have:=(Qy.mp hi).1
    simpa using this
   have hd:d=.int (g i):=by
    simp[hil]at hi
    exact hi.symm
   subst hd;have ea:(rw' (i+1) (S g)).map D.int=(rw' i (S g)).map D.int++[D.int (S g i)]:=by
    unfold rw';rw[Ub,Zm,Zm];rfl
   have eb:(rw' (i+1+1) (S g)).map D.int=(rw' (i+1) (S g)).map D.int++[D.int (S g i+g i)]:=by
    unfold rw';rw[Ub (n:=i+1),Zm,Zm];rfl
   have ix:(w9_ 1 (a1k (mC (.int 1)))) [.dat L,.own ((rw' (i+1) (S g)).map D.int),.dat (.int (g i))]=some (.int (S g i),[.dat L,.own ((rw' (i+1) (S g)).map D.int),.dat (.int (g i))]):=by
    show(atI ((rw' (i+1) (S g)).map D.int) (-1)).map _=_;rw[ea,a8I];rfl
   refine⟨[.dat L,.own ((rw' (i+1) (S g)).map D.int),.dat (.int (g i))],[.dat L,.own ((rw' (i+1+1) (S g)).map D.int),.dat (.int (g i))],rfl,?_,_,rfl⟩;unfold a1W;show((z4_ y8_ (w9_ 1 (a1k (mC (.int 1)))) (z0_ 2)) [.dat L,.own ((rw' (i+1) (S g)).map D.int),.dat (.int (g i))]).bind _=_;rw[v3_ ix (b:=.int (g i)) (e2:=[.dat L,.own ((rw' (i+1) (S g)).map D.int),.dat (.int (g i))]) rfl (c:=.int (S g i+g i)) rfl];show(if((rw' (i+1) (S g)).map D.int).length<100000 then some (Fl.nx,[W.dat L,.own ((rw' (i+1) (S g)).map D.int++[D.int (S g i+g i)]),.dat (.int (g i))])else none)=_
   rw[Qb (by simp;omega),eb]) ⟨.nil,rfl⟩
 have hlen:((rw' n g).map D.int).length=n:=by simp
 rw[hlen]at h1;refine(x7_ (d:=dR (rw' (n+1) (S g))) (env:=[.dat L,.dat (.lst ((rw' (n+1) (S g)).map D.int)),w]) ?_).trans rfl;show a7s [.dat L,.nil,.nil]=_;unfold a7s;rw[k8_ (e1:=[.dat L,.own [.int 0],.nil]) rfl,k8_ ((a1z (a6i rfl hLi)).trans h1)]
 rfl
theorem b9c(n:Nat)(g:Nat->Int)(hn:n≤1000):a3M [.dat (dR (rw' (n+1) g))]=some (.d (dR (rw' n fun k=>g (k+1)-g k)),[.dat (dR (rw' (n+1) g))]):=by
 have ix:∀j,j<n+1->dIx (dR (rw' (n+1) g)) (.int (j:Int))=some (.int (g j)):=fun j hj=>a3g hj
 have hlen:y0_ [dR (rw' (n+1) g)]=some (.int ((n+1:Nat):Int)):=by
  show some (D.int (((rw' (n+1) g).map D.int).length:Nat))=_
  simp
 generalize dR (rw' (n+1) g)=L at *;obtain⟨e',h1,w,rfl⟩:=a4a (g:=gN 1) (m:=z4_ w8_ (z4_ dIx (z0_ 0) (z0_ 1)) (z4_ dIx (z0_ 0) (z4_ w8_ (z0_ 1) (mC (.int 1))))) (P:=fun e=>∃w,e=[.dat L,w]) (q:=fun(k:Nat)=>D.int (1+k)) (f:=fun k=>.int (g (k+1)-g k)) (l:=List.range n) (env:=[.dat L,.nil])
  (fun k hk e ⟨w,he⟩=>by
   subst he;have hk:=Zt.mp hk;refine⟨[.dat L,.dat (.int (1+k))],[.dat L,.dat (.int (1+k))],rfl,v3_ (a:=.int (g (k+1))) (b:=.int (g k)) (e1:=[.dat L,.dat (.int (1+k))]) (v3_ (a:=L) (b:=.int (1+k)) (e1:=[.dat L,.dat (.int (1+k))]) rfl rfl ?_) (v3_ (a:=L) (b:=.int (1+k-1)) (e1:=[.dat L,.dat (.int (1+k))]) rfl (v3_ (a:=.int (1+k)) (b:=.int 1) (e1:=[.dat L,.dat (.int (1+k))]) rfl rfl rfl) ?_) rfl,_,rfl⟩
   ·have:=ix (k+1) (by omega)
    rw[show(((k+1:Nat):Int))=1+k by omega]at this
    exact this
   ·have:=ix k (by omega)
    rw[show((k:Nat):Int)=1+k-1 by omega]at this
    exact this) ⟨.nil,rfl⟩
 have hr:(a3t (z3_ (mC (.int 1)) (z3_ (mCB y0_ (z3_ (z0_ 0) z6_)) z6_))) [.dat L]=some ((List.range n).map fun(k:Nat)=>D.int (1+k),[.dat L]):=by
  have:=b5C (ms:=z3_ (mC (.int 1)) (z3_ (mCB y0_ (z3_ (z0_ 0) z6_)) z6_)) (env:=[.dat L]) (e1:=[.dat L]) (i:=1) (j:=((n+1:Nat):Int)) (x2_ rfl (x2_ (g2_ (x2_ rfl rfl) hlen) rfl)) (by decide) (by decide) (by omega) (by omega)
  rw[show(((n+1:Nat):Int)-1).toNat=n by omega]at this
  exact this
 refine(x7_ (d:=dR (rw' n fun k=>g (k+1)-g k)) (env:=[.dat L]) ?_).trans rfl
 show a7t [.dat L]=_;unfold a7t;refine x8_ (g2_ (x2_ (a1x (a3C (e2:=[.dat L,w]) hr (by simp;omega) h1 rfl)) rfl) ?_)
 show some (D.tup _)=_;unfold dR rw';rw[Qa];rfl
theorem b0Q{f:Fn}{n m m':Nat}{h k:OO}(hf:∀i,i<n->f [.dat (dR (rw' m (h i)))]=some (.d (dR (rw' m' (k i))),[.dat (dR (rw' m (h i)))]))(hn:n≤1000):fnM 1 (q8_ (mCB j6_ (z3_ (mF (y3_ (x1_ (z0_ 0)) [false] 1 (gN 1) y9_ (mCD 1 f (z5_ (z0_ 1) z8_)))) z6_))) [.dat (dT (gm n m h))]=some (.d (dT (gm n m' k)),[.dat (dT (gm n m h))]):=by
 obtain⟨e',h1,w,rfl⟩:=a4a (g:=gN 1) (m:=mCD 1 f (z5_ (z0_ 1) z8_)) (P:=fun e=>∃w,e=[.nil,w]) (q:=fun(i:Nat)=>dR (rw' m (h i))) (f:=fun i=>dR (rw' m' (k i))) (l:=List.range n) (env:=[.nil,.nil])
  (fun i hi e ⟨w,he⟩=>by
   subst he;refine⟨[.nil,.dat (dR (rw' m (h i)))],[.nil,.dat (dR (rw' m (h i)))],rfl,a1d (a2f (av:=[.d (dR (rw' m (h i)))]) rfl rfl rfl (hf i (Zt.mp hi))),_,rfl⟩) ⟨.nil,rfl⟩
 have it:(x1_ (z0_ 0)) [.dat (dT (gm n m h))]=some ((List.range n).map fun(i:Nat)=>dR (rw' m (h i)),[.dat (dT (gm n m h))]):=by
  refine a6i rfl ?_
  show some ((gm n m h).map dR)=_;unfold gm;rw[Qa];rfl
 refine(x7_ (d:=dT (gm n m' k)) (env:=[.dat (dT (gm n m h))]) ?_).trans rfl;refine x8_ (g2_ (x2_ (a1x (a3C (e2:=[.nil,w]) it (by simp;omega) h1 rfl)) rfl) ?_)
 show some (D.tup _)=_;unfold dT gm;rw[Qa];rfl
theorem a8e{n m:Nat}(f:OO)(hn:n≤1000)(hm:m≤1000):a0Q [.dat (dT (gm n m f))]=some (.d (dT (gm n (m+1) fun i=>S (f i))),[.dat (dT (gm n m f))]):=by
 unfold a0Q b0s;exact b0Q (f:=a3L) (h:=f) (k:=fun i=>S (f i)) (fun i _=>b9b m (f i) hm) hn
theorem b0R{n m:Nat}(f:OO)(hn:n≤1000)(hm:m≤1000):a2j [.dat (dT (gm n (m+1) f))]=some (.d (dT (gm n m fun i j=>f i (j+1)-f i j)),[.dat (dT (gm n (m+1) f))]):=by
 unfold a2j b0t;exact b0Q (f:=a3M) (h:=f) (k:=fun i j=>f i (j+1)-f i j) (fun i _=>b9c m (f i) hm) hn
theorem a8f{n m:Nat}(f:OO)(h1:1≤n)(hn:n≤1000)(hm:m≤1000):g7_ [.dat (dT (gm n m f))]=some (.d (dT (gm m n fun i j=>f j i)),[.dat (dT (gm n m f))]):=by
 have q:=a7V (R:=gm n m f) (n:=m) (by intro z;have:=a0k (n:=n) (m:=m) (f:=f);rw[z]at this;simp at this;omega) a4Y hm (by rw[a0k];exact hn)
 rw[a8d]at q;exact q
theorem c1{f:Fn}{m:Mo D}{env:Env'}{d r:D}{ws:List W}(h:m env=some (d,env))(hf:f [.dat d]=some (.d r,ws)):mCD 1 f (z5_ m z8_) env=some (r,env):=
 a1d (a2f (av:=[.d d]) (a2e h rfl) rfl rfl hf)
theorem b0S{n m:Nat}(f:OO)(h1:1≤n)(h2:1≤m)(hn:n≤900)(hm:m≤900):a2i [.dat (dT (gm n m f))]=some (.d (dT (gm (n+1) m fun i j=>S (fun k=>f k j) i)),[.dat (dT (gm n m f))]):=by
 have q1:=a8f f h1 (by omega:n≤1000) (by omega:m≤1000)
 have q2:=a8e (fun i j=>f j i) (by omega:m≤1000) (by omega:n≤1000)
 have q3:=a8f (fun i=>S ((fun i j=>f j i) i)) h2 (by omega:m≤1000) (by omega:n+1≤1000)
 refine(x7_ (d:=dT (gm (n+1) m fun i j=>S (fun k=>f k j) i)) (env:=[.dat (dT (gm n m f))]) ?_).trans rfl
 show a7u [.dat (dT (gm n m f))]=_;unfold a7u;have p1:=c1 (m:=z0_ 0) (env:=[.dat (dT (gm n m f))]) rfl q1;exact x8_ (c1 (c1 p1 q2) q3)
theorem b0T(l:List Int):shp (dR l)=true:=by
 unfold shp SeqAt.shaped;show(PyData.canLayAll0 (y7_ (l.map D.int))&&decide (PyData.depthAll (y7_ (l.map D.int))+1≤64))=true;rw[a3e,a3F,a7X];rfl
theorem b0U(l k:List Int):PyData.eqv (toP (dR l)) (toP (dR k))=decide (l=k):=by
 show PyData.eqvAll (y7_ (l.map D.int)) (y7_ (k.map D.int))=_;rw[a3e,a3e,b0G]
theorem b9d(neg:Bool)(l k:List Int):dEq neg (dR l) (dR k)=some (.bl (if neg then !decide (l=k)else decide (l=k))):=by
 unfold dEq;rw[b0T,b0T,b0U];rfl
theorem a5a:∀R:OI,PyData.canLayAll0 (y7_ (R.map dR))=true
 |[]=>rfl
 |r::R=>by
  show(PyData.canLayAll0 (y7_ (r.map D.int))&&PyData.canLayAll0 (y7_ (R.map dR)))=true;rw[a5a R,a3e,a3F];rfl
theorem a5b:∀R:OI,PyData.depthAll (y7_ (R.map dR))≤1
 |[]=>by decide
 |r::R=>by
  show max (PyData.depthAll (y7_ (r.map D.int))+1) (PyData.depthAll (y7_ (R.map dR)))≤1;have:=a5b R;rw[a3e,a7X];omega
theorem b0V(R:OI):shp (dT R)=true:=by
 unfold shp SeqAt.shaped;show(PyData.canLayAll0 (y7_ (R.map dR))&&decide (PyData.depthAll (y7_ (R.map dR))+1≤64))=true;have:=a5b R;rw[a5a,Uq,Qs];omega
theorem a5c:∀A B:OI,PyData.eqvAll (y7_ (A.map dR)) (y7_ (B.map dR))=decide (A=B)
 |[],[]=>rfl
 |[],_::_=>rfl
 |_::_,[]=>rfl
 |x::l,y::k=>by
  show(PyData.eqv (toP (dR x)) (toP (dR y))&&PyData.eqvAll (y7_ (l.map dR)) (y7_ (k.map dR)))=_;rw[a5c l k,b0U]
  by_cases h:x=y
  ·subst h;simp
  ·simp[h]
theorem b9e(neg:Bool)(A B:OI):dEq neg (dT A) (dT B)=some (.bl (if neg then !decide (A=B)else decide (A=B))):=by
 unfold dEq;rw[b0V,b0V];show some (D.bl (if neg then !PyData.eqvAll (y7_ (A.map dR)) (y7_ (B.map dR))else PyData.eqvAll (y7_ (A.map dR)) (y7_ (B.map dR))))=_
 rw[a5c]
theorem a4N{a b:Mo D}{e e1:Env'}{r:Option (D×Env')}(h:a e=some (.bl true,e1))(h2:b e1=r):u0_ a b e=r:=by unfold u0_;rw[h];exact h2
theorem a6v{a b:Mo D}{e e1:Env'}(h:a e=some (.bl false,e1)):u0_ a b e=some (.bl false,e1):=by unfold u0_;rw[h];rfl
theorem b0W{a b:Mo D}{e:Env'}{p q:Bool}(h:a e=some (.bl p,e))(h2:p=true->b e=some (.bl q,e)):u0_ a b e=some (.bl (p&&q),e):=by
 cases p with
 |false=>exact a6v h
 |true=>exact a4N h (h2 rfl)
def shN(d:D):Bool:=match d with
 |.tup [.tup xs,y]=>(decide (1≤(xs.length:Int))&&decide ((xs.length:Int)≤6))&&(isG (.tup xs) xs.length (xs.length+1)&&isG y (xs.length+1) xs.length)
 |_=>false
theorem b9f{es:List D}(h:es.length≠2):shN (.tup es)=false:=by
 match es,h with
 |[],_=>rfl
 |[x],_=>cases x<;>rfl
 |[_,_],h=>exact absurd rfl h
 |x::_::_::_,_=>cases x<;>rfl
theorem b0X(d:D):a2T [.dat d]=some (.d (.bl (shN d)),[.dat d]):=by
 cases d with
 |tup es=>
  by_cases h:es.length=2
  ·match es,h with
   |[x,y],_=>
    have t0:(k6_ (x5_ (mT (mIs "tuple" (z0_ 0)))) (mT (z4_ (dEq true) (mCB y0_ (z3_ (z0_ 0) z6_)) (mC (.int 2))))) [.dat (.tup [x,y]),.nil,.nil,.nil]=some (false,[.dat (.tup [x,y]),.nil,.nil,.nil]):=rfl
    have s1:(w2_ (z0_ 0) (gT 2 (gCn (gN 2) (gCn (gN 3) gNl)))) [.dat (.tup [x,y]),.nil,.nil,.nil]=some (.nx,[.dat (.tup [x,y]),.nil,.dat x,.dat y]):=rfl
    cases x with
    |tup xs=>
     have t1:(k6_ (x5_ (mT (mIs "tuple" (z0_ 2)))) (x5_ (mT (a0B dLe dLe (mC (.int 1)) (mCB y0_ (z3_ (z0_ 2) z6_)) (mC (.int 6)))))) [.dat (.tup [.tup xs,y]),.nil,.dat (.tup xs),.dat y]=some (!(decide (1≤(xs.length:Int))&&decide ((xs.length:Int)≤6)),[.dat (.tup [.tup xs,y]),.nil,.dat (.tup xs),.dat y]):=by
      have c:=b0H (e:=[.dat (.tup [.tup xs,y]),.nil,.dat (.tup xs),.dat y]) (ma:=mC (.int 1)) (mb:=mCB y0_ (z3_ (z0_ 2) z6_)) (mc:=mC (.int 6)) (a:=1) (i:=xs.length) (b:=6) rfl rfl rfl
      exact a6u rfl (a1y (j3_ c))
     cases hb:(decide (1≤(xs.length:Int))&&decide ((xs.length:Int)≤6))with
     |false=>
      rw[hb]at t1;have z:shN (.tup [.tup xs,y])=false:=by simp only[shN,hb,Bool.false_and]
      rw[z];refine(x7_ (d:=.bl false) (env:=[.dat (.tup [.tup xs,y]),.nil,.dat (.tup xs),.dat y]) ?_).trans rfl;show a2l [.dat (.tup [.tup xs,y]),.nil,.nil,.nil]=_;unfold a2l;exact y4_ (u6_ t0 rfl) (y4_ s1 (a0N (a4M t1 rfl)))
     |true=>
      rw[hb]at t1;have hn:(xs.length:Int)≤6:=by
       rw[Qp,Qs,Qs]at hb;exact hb.2
      have z:shN (.tup [.tup xs,y])=(isG (.tup xs) xs.length (xs.length+1)&&isG y (xs.length+1) xs.length):=by simp only[shN,hb,Uq]
      rw[z];refine(x7_ (d:=.bl (isG (.tup xs) xs.length (xs.length+1)&&isG y (xs.length+1) xs.length)) (env:=[.dat (.tup [.tup xs,y]),.dat (.int xs.length),.dat (.tup xs),.dat y]) ?_).trans rfl;show a2l [.dat (.tup [.tup xs,y]),.nil,.nil,.nil]=_;unfold a2l;refine y4_ (u6_ t0 rfl) (y4_ s1 (y4_ (u6_ t1 rfl) (y4_ (e1:=[.dat (.tup [.tup xs,y]),.dat (.int xs.length),.dat (.tup xs),.dat y]) rfl (x8_ (b0W ?_ fun _=>?_)))))
      ·exact a0O (av:=[.d (.tup xs),.d (.int xs.length),.d (.int (xs.length+1))]) rfl rfl rfl (a7U (.tup xs) xs.length (xs.length+1) (by omega) (by omega))
      ·exact a0O (av:=[.d y,.d (.int (xs.length+1)),.d (.int xs.length)]) rfl rfl rfl (a7U y (xs.length+1) xs.length (by omega) (by omega))
    |_=>rfl
  ·have t0:(k6_ (x5_ (mT (mIs "tuple" (z0_ 0)))) (mT (z4_ (dEq true) (mCB y0_ (z3_ (z0_ 0) z6_)) (mC (.int 2))))) [.dat (.tup es),.nil,.nil,.nil]=some (true,[.dat (.tup es),.nil,.nil,.nil]):=by
    show some (!((es.length:Int)==2),_)=_;have:((es.length:Int)==2)=false:=by rw[Uz];omega
    rw[this];rfl
   rw[b9f h];refine(x7_ (d:=.bl false) (env:=[.dat (.tup es),.nil,.nil,.nil]) ?_).trans rfl;show a2l [.dat (.tup es),.nil,.nil,.nil]=_;unfold a2l;exact a0N (a4M t0 rfl)
 |_=>rfl
def dN(A B:OI):D:=.tup [dT A,dT B]
theorem b0Y(A B:OI):shp (dN A B)=true:=by
 unfold shp SeqAt.shaped;show((PyData.canLayAll0 (y7_ (A.map dR))&&(PyData.canLayAll0 (y7_ (B.map dR))&&true))&&decide (max (PyData.depthAll (y7_ (A.map dR))+1) (max (PyData.depthAll (y7_ (B.map dR))+1) 0)+1≤64))=true;have h1:=a5b A;have h2:=a5b B;rw[a5a,a5a];simp only[Uq,Bool.and_true,Qs]
 omega
theorem b0Z(A B A' B':OI):dEq false (dN A B) (dN A' B')=some (.bl (decide (A=A')&&decide (B=B'))):=by
 unfold dEq;rw[b0Y,b0Y];show some (D.bl (PyData.eqvAll (y7_ (A.map dR)) (y7_ (A'.map dR))&&(PyData.eqvAll (y7_ (B.map dR)) (y7_ (B'.map dR))&&true)))=_;rw[a5c,a5c,Bool.and_true]
theorem b9g{R:OI}{n m:Nat}(h1:R.length=n)(h2:∀r∈R,r.length=m):R=gm n m (at2 R):=by
 subst h1;unfold gm
 apply Jo
 ·simp
 ·intro i hi hi'
  have hr:=h2 R[i] (Jy hi)
  rw[Vk,Ud]
  apply Jo
  ·simp[hr]
  ·intro j hj hj'
   rw[Vk,Ud]
   simp[at2,hi,hj]
theorem b1a{d:D}{m n:Nat}(h:isG d m n=true):∃f,d=dT (gm m n f):=by
 cases d<;>first|cases h|skip
 rename_i es;unfold isG at h;rw[Qp,Jm]at h;obtain⟨h1,h2⟩:=h;have h2:=Qi.mp h2;have e:es=(es.map unR).map dR:=by
  rw[Qa]
  conv=>lhs;rw[←Vd es]
  exact Zb fun x hx=>(a3Z (h2 x hx)).1
 refine⟨at2 (es.map unR),?_⟩;rw[←b9g (n:=m) (m:=n) (by rw[Qv];omega) (fun r hr=>?_)]
 ·unfold dT;rw[←e]
 ·obtain⟨x,hx,rfl⟩:=Yq.mp hr
  have:=(a3Z (h2 x hx)).2
  omega
theorem b1b{m n:Nat}{f:OO}:isG (dT (gm m n f)) m n=true:=by
 unfold dT isG;simp only[Qp,Jm,Qv,a0k,true_and,Qi];intro x hx;obtain⟨r,hr,rfl⟩:=Yq.mp hx;have:=b0C r;rw[a4Y r hr]at this;exact this
theorem b9h{d:D}(h:shN d=true):∃n f g,1≤n/\n≤6/\d=dN (gm n (n+1) f) (gm (n+1) n g):=by
 unfold shN at h;split at h
 ·rename_i xs y
  rw[Qp,Qp,Qp,Qs,Qs]at h;obtain⟨⟨h1,h2⟩,h3,h4⟩:=h;obtain⟨f,hf⟩:=b1a (m:=xs.length) (n:=xs.length+1) h3;obtain⟨g,hg⟩:=b1a (m:=xs.length+1) (n:=xs.length) h4;exact⟨xs.length,f,g,by omega,by omega,by unfold dN;rw[←hf,←hg]⟩
 ·cases h
theorem b1c{n:Nat}{f g:OO}(h1:1≤n)(h6:n≤6):shN (dN (gm n (n+1) f) (gm (n+1) n g))=true:=by
 have hl:((gm n (n+1) f).map dR).length=n:=by rw[Qv,a0k]
 show((decide (1≤(((gm n (n+1) f).map dR).length:Int))&&decide ((((gm n (n+1) f).map dR).length:Int)≤6))&&(isG (dT (gm n (n+1) f)) ((gm n (n+1) f).map dR).length (((gm n (n+1) f).map dR).length+1)&&isG (dT (gm (n+1) n g)) (((gm n (n+1) f).map dR).length+1) ((gm n (n+1) f).map dR).length))=true;rw[hl];have q1:=b1b (m:=n) (n:=n+1) (f:=f);have q2:=b1b (m:=n+1) (n:=n) (f:=g);rw[Int.natCast_add]at q1 q2;simp only[Int.cast_ofNat_Int]at q1 q2;rw[q1,q2];simp only[Bool.and_true,Qp,Qs]
 omega
abbrev df(f:OO):OO:=fun i j=>f i (j+1)-f i j
abbrev acr(n:Nat)(f:OO):OI:=gm n (n+1) fun i=>S (f i)
abbrev dwn(n:Nat)(f:OO):OI:=gm (n+1) n fun i j=>S (fun k=>f k j) i
def v8_(n:Nat)(f:OO):D:=dN (acr n f) (dwn n f)
theorem a5d{n:Nat}(f:OO)(h1:1≤n)(h6:n≤6):a0R [.dat (dT (gm n n f))]=some (.d (v8_ n f),[.dat (dT (gm n n f))]):=by
 refine(x7_ (d:=v8_ n f) (env:=[.dat (dT (gm n n f))]) ?_).trans rfl;show a7z [.dat (dT (gm n n f))]=_;unfold a7z;refine x8_ ?_
 have a1:(mCD 1 a0Q (z5_ (z0_ 0) z8_)) [.dat (dT (gm n n f))]=some (dT (acr n f),[.dat (dT (gm n n f))]):=c1 rfl (a8e f (by omega) (by omega))
 have a2:(mCD 1 a2i (z5_ (z0_ 0) z8_)) [.dat (dT (gm n n f))]=some (dT (dwn n f),[.dat (dT (gm n n f))]):=c1 rfl (b0S f h1 h1 (by omega) (by omega))
 unfold x6_;rw[x2_ a1 (x2_ a2 rfl)];rfl
def a5e(n:Nat)(f g:OO):Bool:=isT (dT (gm n n (df f)))&&(decide (acr n (df f)=gm n (n+1) f)&&decide (dwn n (df f)=gm (n+1) n g))
theorem b9i{n:Nat}(f g:OO)(h1:1≤n)(h6:n≤6):a1i [.dat (dN (gm n (n+1) f) (gm (n+1) n g))]=some (.d (.bl (a5e n f g)),[.dat (dN (gm n (n+1) f) (gm (n+1) n g))]):=by
 refine(x7_ (d:=.bl (a5e n f g)) (env:=[.dat (dN (gm n (n+1) f) (gm (n+1) n g)),.dat (dT (gm n n (df f)))]) ?_).trans rfl;show a3P [.dat (dN (gm n (n+1) f) (gm (n+1) n g)),.nil]=_;unfold a3P;have t:(x5_ (mT (mCD 1 a2T (z5_ (z0_ 0) z8_)))) [.dat (dN (gm n (n+1) f) (gm (n+1) n g)),.nil]=some (false,[.dat (dN (gm n (n+1) f) (gm (n+1) n g)),.nil]):=by
  refine a1y (b:=true) (j3_ (c1 rfl (ws:=[.dat (dN (gm n (n+1) f) (gm (n+1) n g))]) ?_));rw[b0X,b1c h1 h6]
 refine y4_ (u6_ t rfl) (y4_ (e1:=[.dat (dN (gm n (n+1) f) (gm (n+1) n g)),.dat (dT (gm n n (df f)))]) (a0r (e1:=[.dat (dN (gm n (n+1) f) (gm (n+1) n g)),.nil]) (c1 (v3_ rfl rfl rfl) (b0R f (by omega) (by omega)))) (x8_ (b0W (c1 rfl (a7W _)) fun _=>?_)))
 exact v3_ (c1 rfl (a5d (df f) h1 h6)) rfl (b0Z _ _ _ _)
def b1d(d:D):Prop:=∃n f,1≤n/\n≤6/\TabF n f/\d=v8_ n f
theorem b1e{A B:OI}(h:dT A=dT B):A=B:=by
 have:=Yh unT h;rwa [a3c,a3c]at this
theorem b9j{A B A' B':OI}(h:dN A B=dN A' B'):A=A'/\B=B':=by
 unfold dN at h;injection h with h
 injection h with h1 h2
 injection h2 with h2 _
 exact⟨b1e h1,b1e h2⟩
theorem b1f{n:Nat}{f:OO}{i j:Nat}:df (fun i=>S (f i)) i j=f i j:=by
 show S (f i) (j+1)-S (f i) j=f i j;show(S (f i) j+f i j)-S (f i) j=f i j
 omega
theorem b9k{n:Nat}{f g:OO}(h1:1≤n)(h6:n≤6):a5e n f g=true↔b1d (dN (gm n (n+1) f) (gm (n+1) n g)):=by
 unfold a5e;rw[Qp,Qp,Qs,Qs,a3f]
 constructor
 ·rintro⟨⟨_,T⟩,e1,e2⟩
  exact⟨n,df f,h1,h6,T,by unfold v8_;rw[e1,e2]⟩
 ·rintro⟨m,k,m1,m6,T,e⟩
  obtain⟨e1,e2⟩:=b9j e;have hn:n=m:=by
   have:=Yh List.length e1;rwa [a0k,a0k]at this
  subst hn;have hf:∀i<n,∀j<n+1,f i j=S (k i) j:=fun i hi j hj=>b8Z e1 hi hj
  have hd:∀i<n,∀j<n,df f i j=k i j:=fun i hi j hj=>by
   show f i (j+1)-f i j=_;rw[hf i hi (j+1) (by omega),hf i hi j (by omega)]
   exact b1f (n:=n)
  have ea:acr n (df f)=acr n k:=a4d fun i hi j hj=>a8b fun c hc=>hd i hi c (by omega)
  have eb:dwn n (df f)=dwn n k:=a4d fun i hi j hj=>a8b fun c hc=>hd c (by omega) j hj
  refine⟨⟨⟨h1,h6⟩,?_⟩,by rw[ea,e1],by rw[eb,e2]⟩
  have q:=a3f (n:=n) (f:=k)|>.mpr ⟨⟨h1,h6⟩,T⟩
  rw[←a4d hd]at q;exact(a3f.mp q).2
theorem b1g(d:D):∃q:Bool,a1i [.dat d]=some (.d (.bl q),[.dat d])/\(q=true↔b1d d):=by
 cases hs:shN d with
 |true=>
  obtain⟨n,f,g,h1,h6,rfl⟩:=b9h hs;exact⟨_,b9i f g h1 h6,b9k h1 h6⟩
 |false=>
  refine⟨false,(x7_ (d:=.bl false) (env:=[.dat d,.nil]) ?_).trans rfl,fun h=>(nomatch h),fun⟨n,f,h1,h6,_,e⟩=>?_⟩
  ·show a3P [.dat d,.nil]=_
   unfold a3P;have t:(x5_ (mT (mCD 1 a2T (z5_ (z0_ 0) z8_)))) [.dat d,.nil]=some (true,[.dat d,.nil]):=by
    refine a1y (b:=false) (j3_ (c1 rfl (ws:=[.dat d]) ?_));rw[b0X,hs]
   exact a0N (a4M t rfl)
  ·rw[e]at hs
   unfold v8_ at hs;rw[b1c h1 h6]at hs;cases hs
theorem b9l{n:Nat}{f:OO}(h1:1≤n)(h6:n≤6)(T:TabF n f):a3Q [.dat (v8_ n f)]=some (.d (dT (gm n n f)),[.dat (v8_ n f)]):=by
 obtain⟨q,e,hq⟩:=b1g (v8_ n f);have hq:=hq.mpr ⟨n,f,h1,h6,T,rfl⟩;subst hq;refine(x7_ (d:=dT (gm n n f)) (env:=[.dat (v8_ n f)]) ?_).trans rfl;show a7B [.dat (v8_ n f)]=_;unfold a7B;refine y4_ (u6_ (a1y (b:=true) (j3_ (c1 rfl e))) rfl) (x8_ (c1 (d:=dT (acr n f)) (ws:=[.dat (dT (acr n f))]) (v3_ rfl rfl rfl) ?_));have:=b0R (n:=n) (m:=n) (fun i=>S (f i)) (by omega) (by omega)
 rw[show(gm n n fun i j=>S (f i) (j+1)-S (f i) j)=gm n n f from a4d fun i _ j _=>b1f (n:=n)]at this
 exact this
theorem a4e{n:Nat}{f:OO}(h1:1≤n)(h6:n≤6)(T:TabF n f):a0y [.dat (dT (gm n n f))]=some (.d .non,[.dat (dT (gm n n f))]):=by
 refine(a9T (env:=[.dat (dT (gm n n f))]) ?_).trans rfl;show a7w [.dat (dT (gm n n f))]=_;unfold a7w;rw[a1c (e1:=[.dat (dT (gm n n f))]) ?_]
 ·rfl
 ·have:=a7W (dT (gm n n f))
  rw[a3f.mpr ⟨⟨h1,h6⟩,T⟩]at this;exact a1y (b:=true) (j3_ (c1 rfl this))
theorem b1h{α:Type}(n:Nat)(g:Nat->α):((List.range n).map g).reverse=(List.range n).map fun i=>g (n-1-i):=by
 apply Jo
 ·simp
 ·intro i h1 h2
  simp
theorem b9m{n m:Nat}{f:OO}:(gm n m f).reverse=gm n m fun i j=>f (n-1-i) j:=b1h n _
theorem b1i{m:Mo D}{e:Env'}{ds:List D}{r:D}(h:m e=some (.tup ds,e))(hr:.tup ds.reverse=r):a2d m e=some (r,e):=by
 unfold a2d;rw[h,←hr]
 rfl
theorem b1j{m:Mo D}{e:Env'}{n k:Nat}{f:OO}(h:m e=some (dT (gm n k f),e)):a2d m e=some (dT (gm n k fun i j=>f (n-1-i) j),e):=
 b1i h (by unfold dT;rw[←b9m,List.map_reverse])
section
variable{n:Nat}{f:OO}
theorem b1k(h1:1≤n)(h6:n≤6):g7_ [.dat (dT (gm n n f))]=some (.d (dT (gm n n fun i j=>f j i)),[.dat (dT (gm n n f))]):=by
 have h:=a7V (R:=gm n n f) (n:=n) (fun z=>by have:=Yh List.length z;rw[a0k]at this;simp at this;omega) a4Y (by omega) (by rw[a0k];omega)
 rw[a8d]at h;exact h
theorem b9n:a2V [.dat (dT (gm n n f))]=some (.d (dT (gm n n f)),[.dat (dT (gm n n f))]):=rfl
theorem a5f(h1:1≤n)(h6:n≤6):a0H [.dat (dT (gm n n f))]=some (.d (dT (gm n n fun i j=>f j (n-1-i))),[.dat (dT (gm n n f))]):=by
 refine a0e (env:=[.dat (dT (gm n n f))]) ?_ rfl;show a7H [.dat (dT (gm n n f))]=_;unfold a7H;exact x8_ (b1j (c1 rfl (b1k h1 h6)))
theorem a8g(h1:1≤n)(h6:n≤6):a0S [.dat (dT (gm n n f))]=some (.d (dT (gm n n fun i j=>f (n-1-i) (n-1-j))),[.dat (dT (gm n n f))]):=by
 refine a0e (env:=[.dat (dT (gm n n f))]) ?_ rfl;show a7I [.dat (dT (gm n n f))]=_;unfold a7I;exact x8_ (c1 (c1 rfl (a5f h1 h6)) (a5f h1 h6))
theorem b9o(h1:1≤n)(h6:n≤6):a2W [.dat (dT (gm n n f))]=some (.d (dT (gm n n fun i j=>f (n-1-j) i)),[.dat (dT (gm n n f))]):=by
 refine a0e (env:=[.dat (dT (gm n n f))]) ?_ rfl;show a7J [.dat (dT (gm n n f))]=_;unfold a7J;have h:gm n n (fun i j=>f (n-1-j) (n-1-(n-1-i)))=gm n n (fun i j=>f (n-1-j) i):=a4d fun i hi j hj=>by rw[show n-1-(n-1-i)=i by omega]
 rw[←h];exact x8_ (c1 (c1 rfl (a8g h1 h6)) (a5f h1 h6))
theorem b9p(h1:1≤n)(h6:n≤6):a2X [.dat (dT (gm n n f))]=some (.d (dT (gm n n fun i j=>f i (n-1-j))),[.dat (dT (gm n n f))]):=by
 refine a0e (env:=[.dat (dT (gm n n f))]) ?_ rfl;show a7K [.dat (dT (gm n n f))]=_;unfold a7K;refine x8_ (g2_ (x2_ (a1x (b0m (α:=Nat) (l:=List.range n) (q:=fun i=>dR (rw' n (f i))) (f:=fun i=>dR (rw' n fun j=>f i (n-1-j))) (base:=[.nil]) (a6i rfl (by show some ((gm n n f).map dR)=_;unfold gm;rw[Qa];rfl)) (by simp;omega) rfl rfl (fun i hi=>b1i (ds:=(rw' n (f i)).map D.int) rfl ?_) (fun _=>rfl))) rfl) (d:=dT (gm n n fun i j=>f i (n-1-j))) ?_)
 ·unfold dR rw'
  rw[←b1h,List.map_reverse]
 ·show some (D.tup _)=_
  unfold dT gm;rw[Qa]
  rfl
theorem b9q:a2Y [.dat (dT (gm n n f))]=some (.d (dT (gm n n fun i j=>f (n-1-i) j)),[.dat (dT (gm n n f))]):=by
 refine a0e (env:=[.dat (dT (gm n n f))]) ?_ rfl;show a7L [.dat (dT (gm n n f))]=_;unfold a7L;exact x8_ (b1j rfl)
theorem b1l(h1:1≤n)(h6:n≤6):a1H [.dat (dT (gm n n f))]=some (.d (dT (gm n n fun i j=>f j i)),[.dat (dT (gm n n f))]):=by
 refine a0e (env:=[.dat (dT (gm n n f))]) ?_ rfl;show a7M [.dat (dT (gm n n f))]=_;unfold a7M;exact x8_ (c1 rfl (b1k h1 h6))
theorem b9r(h1:1≤n)(h6:n≤6):a2Z [.dat (dT (gm n n f))]=some (.d (dT (gm n n fun i j=>f (n-1-j) (n-1-i))),[.dat (dT (gm n n f))]):=by
 refine a0e (env:=[.dat (dT (gm n n f))]) ?_ rfl;show a7N [.dat (dT (gm n n f))]=_;unfold a7N;exact x8_ (c1 (c1 rfl (b1l h1 h6)) (a8g h1 h6))
end
abbrev TN:List (Str×Str):=[("stay","stayed"),("left","turned_left"),("half","turned_half"),("right","turned_right"),("upright","told_upright"),("flat","told_flat"),("slant","told_slant"),("other","told_other")]
abbrev TF:List (Str×Fn):=[("stayed",a2V),("turned_left",a0H),("turned_half",a0S),("turned_right",a2W),("told_upright",a2X),("told_flat",a2Y),("told_slant",a1H),("told_other",a2Z)]
abbrev W8:List Str:=["stay","left","half","right","upright","flat","slant","other"]
def pos(w:Str)(n r c:Nat):Nat×Nat:=
 if w="stay" then(r,c)else if w="left" then(c,n-1-r)else if w="half" then(n-1-r,n-1-c)else if w="right" then(n-1-c,r)
 else if w="upright" then(r,n-1-c)else if w="flat" then(n-1-r,c)else if w="slant" then(c,r)else(n-1-c,n-1-r)
def tf(w:Str)(n:Nat)(f:OO)(r c:Nat):Int:=f (pos w n r c).1 (pos w n r c).2
structure Turn(w:Str)(F:Fn):Prop where
 nm:∃x,lkF TN (.inr w)=some x/\TF.lookup x=some F
 f:∀n f,1≤n->n≤6->F [.dat (dT (gm n n f))]=some (.d (dT (gm n n (tf w n f))),[.dat (dT (gm n n f))])
theorem b9s:pos "stay"=fun n r c=>(r,c):=by
 funext n r c
 unfold pos;rw[Qb rfl]
theorem b9t:pos "left"=fun n r c=>(c,n-1-r):=by
 funext n r c
 unfold pos;rw[Qw (by decide+kernel),Qb rfl]
theorem b9u:pos "half"=fun n r c=>(n-1-r,n-1-c):=by
 funext n r c
 unfold pos;rw[Qw (by decide+kernel),Qw (by decide+kernel),Qb rfl]
theorem b9v:pos "right"=fun n r c=>(n-1-c,r):=by
 funext n r c
 unfold pos;rw[Qw (by decide+kernel),Qw (by decide+kernel),Qw (by decide+kernel),Qb rfl]
theorem b9w:pos "upright"=fun n r c=>(r,n-1-c):=by
 funext n r c
 unfold pos;rw[Qw (by decide+kernel),Qw (by decide+kernel),Qw (by decide+kernel),Qw (by decide+kernel),Qb rfl]
theorem b9x:pos "flat"=fun n r c=>(n-1-r,c):=by
 funext n r c
 unfold pos;rw[Qw (by decide+kernel),Qw (by decide+kernel),Qw (by decide+kernel),Qw (by decide+kernel),Qw (by decide+kernel),Qb rfl]
theorem b1m:pos "slant"=fun n r c=>(c,r):=by
 funext n r c
 unfold pos;rw[Qw (by decide+kernel),Qw (by decide+kernel),Qw (by decide+kernel),Qw (by decide+kernel),Qw (by decide+kernel),Qw (by decide+kernel),Qb rfl]
theorem b9y:pos "other"=fun n r c=>(n-1-c,n-1-r):=by
 funext n r c
 unfold pos;rw[Qw (by decide+kernel),Qw (by decide+kernel),Qw (by decide+kernel),Qw (by decide+kernel),Qw (by decide+kernel),Qw (by decide+kernel),Qw (by decide+kernel)]
theorem a1I{x:Str}{l:List (Str×Fn)}{y:Str}{F:Fn}(h:(x==y)=true):((y,F)::l).lookup x=some F:=by unfold List.lookup;rw[h]
theorem x9_{x:Str}{l:List (Str×Fn)}{y:Str}{F:Fn}{r:Option Fn}(h:(x==y)=false)(t:l.lookup x=r):((y,F)::l).lookup x=r:=by unfold List.lookup;rw[h];exact t
theorem a1J{kvs:List (Str×Str)}{w x:Str}(h:(lkF kvs (.inr w)==some x)=true):lkF kvs (.inr w)=some x:=Jm.mp h
theorem tn0:Turn "stay" a2V:=⟨⟨"stayed",a1J (by decide+kernel),a1I (by decide+kernel)⟩,fun n f h1 h6=>by unfold tf;rw[b9s];exact b9n⟩
theorem tn1:Turn "left" a0H:=⟨⟨"turned_left",a1J (by decide+kernel),x9_ (by decide+kernel) (a1I (by decide+kernel))⟩,fun n f h1 h6=>by unfold tf;rw[b9t];exact a5f h1 h6⟩
theorem tn2:Turn "half" a0S:=⟨⟨"turned_half",a1J (by decide+kernel),x9_ (by decide+kernel) (x9_ (by decide+kernel) (a1I (by decide+kernel)))⟩,fun n f h1 h6=>by unfold tf;rw[b9u];exact a8g h1 h6⟩
theorem tn3:Turn "right" a2W:=⟨⟨"turned_right",a1J (by decide+kernel),x9_ (by decide+kernel) (x9_ (by decide+kernel) (x9_ (by decide+kernel) (a1I (by decide+kernel))))⟩,fun n f h1 h6=>by unfold tf;rw[b9v];exact b9o h1 h6⟩
theorem tn4:Turn "upright" a2X:=⟨⟨"told_upright",a1J (by decide+kernel),x9_ (by decide+kernel) (x9_ (by decide+kernel) (x9_ (by decide+kernel) (x9_ (by decide+kernel) (a1I (by decide+kernel)))))⟩,fun n f h1 h6=>by unfold tf;rw[b9w];exact b9p h1 h6⟩
theorem tn5:Turn "flat" a2Y:=⟨⟨"told_flat",a1J (by decide+kernel),x9_ (by decide+kernel) (x9_ (by decide+kernel) (x9_ (by decide+kernel) (x9_ (by decide+kernel) (x9_ (by decide+kernel) (a1I (by decide+kernel))))))⟩,fun n f h1 h6=>by unfold tf;rw[b9x];exact b9q⟩
theorem tn6:Turn "slant" a1H:=⟨⟨"told_slant",a1J (by decide+kernel),x9_ (by decide+kernel) (x9_ (by decide+kernel) (x9_ (by decide+kernel) (x9_ (by decide+kernel) (x9_ (by decide+kernel) (x9_ (by decide+kernel) (a1I (by decide+kernel)))))))⟩,fun n f h1 h6=>by unfold tf;rw[b1m];exact b1l h1 h6⟩
theorem tn7:Turn "other" a2Z:=⟨⟨"told_other",a1J (by decide+kernel),x9_ (by decide+kernel) (x9_ (by decide+kernel) (x9_ (by decide+kernel) (x9_ (by decide+kernel) (x9_ (by decide+kernel) (x9_ (by decide+kernel) (x9_ (by decide+kernel) (a1I (by decide+kernel))))))))⟩,fun n f h1 h6=>by unfold tf;rw[b9y];exact b9r h1 h6⟩
theorem b9z{w:Str}(h:w∈W8):∃F,Turn w F:=by
 simp only[W8,Qr,Zr,Jl]at h;obtain rfl|rfl|rfl|rfl|rfl|rfl|rfl|rfl:=h
 ·exact⟨_,tn0⟩
 ·exact⟨_,tn1⟩
 ·exact⟨_,tn2⟩
 ·exact⟨_,tn3⟩
 ·exact⟨_,tn4⟩
 ·exact⟨_,tn5⟩
 ·exact⟨_,tn6⟩
 ·exact⟨_,tn7⟩
theorem b9A{w:Str}{F:Fn}(T:Turn w F){n:Nat}{f:OO}(h1:1≤n)(h6:n≤6):a4U [.dat (dT (gm n n f)),.dat (.str w)]=some (.d (dT (gm n n (tf w n f))),[.dat (dT (gm n n f)),.dat (.str w)]):=by
 obtain⟨x,hx,hF⟩:=T.nm;have e:=T.f n f h1 h6;generalize dT (gm n n f)=A at *;generalize dT (gm n n (tf w n f))=Z at *;refine a0e (env:=[.dat A,.dat (.str w),.dat (.obj (.fn x))]) ?_ rfl;show a7Q [.dat A,.dat (.str w),.nil]=_;unfold a7Q;refine y4_ (a1f (d:=.obj (.fn x)) (e1:=[.dat A,.dat (.str w),.nil]) (e2:=[.dat A,.dat (.str w),.dat (.obj (.fn x))]) ?_ rfl) (x8_ ?_)
 ·show(lkF TN (.inr w)).map _=_
  rw[hx]
  rfl
 ·show(TF.lookup x).bind _=_
  rw[hF];exact c1 rfl e
def inT:D->Bool
 |.str x=>(lkF TN (.inr x)).isSome
 |_=>false
theorem b9B(d:D)(h:∀x,d≠.obj x):a4S [.dat d]=some (.d (.bl (inT d)),[.dat d]):=by
 refine a0e (env:=[.dat d]) ?_ rfl;show a7O [.dat d]=_;unfold a7O;cases d with
 |str x=>exact x8_ (a4N (e1:=[.dat (.str x)]) rfl rfl)
 |obj o=>exact absurd rfl (h o)
 |_=>exact x8_ (a6v rfl)
theorem b9C{d:D}(h:∀x,d≠.obj x)(hi:inT d=true):a4T [.dat d]=some (.d .non,[.dat d]):=by
 have e:=b9B d h
 rw[hi]at e;refine(a9T (env:=[.dat d]) ?_).trans rfl;show a7P [.dat d]=_;unfold a7P;exact u6_ (a1y (b:=true) (j3_ (c1 rfl e))) rfl
section
variable{n:Nat}{f:OO}
theorem b9D{w:Str}(hw:w∈W8)(h1:1≤n)(h6:n≤6)(T:TabF n f):a3a [.dat (dT (gm n n f)),.dat (.str w)]=some (.d (dT (gm n n (tf w n f))),[.dat (dT (gm n n f)),.dat (.str w)]):=by
 obtain⟨F,hF⟩:=b9z hw;have em:=a4e h1 h6 T;have eb:=b9A hF (f:=f) h1 h6;have et:=b9C (d:=.str w) (fun x z=>by cases z) (by obtain⟨x,hx,_⟩:=hF.nm;show(lkF TN (.inr w)).isSome=true;rw[hx];rfl)
 generalize dT (gm n n f)=A at *;generalize dT (gm n n (tf w n f))=Z at *;refine a0e (env:=[.dat A,.dat (.str w)]) ?_ rfl;show a7R [.dat A,.dat (.str w)]=_;unfold a7R;exact y4_ (a2P (c1 rfl em)) (y4_ (a2P (c1 rfl et)) (x8_ (a0O (av:=[.d A,.d (.str w)]) rfl rfl rfl eb)))
end
section
variable{n:Nat}{f:OO}
theorem b1n(h1:1≤n)(h6:n≤6)(T:TabF n f):a2m [.dat (dT (gm n n f))]=some (.d (v8_ n f),[.dat (dT (gm n n f))]):=by
 have em:=a4e h1 h6 T
 have es:=a5d f h1 h6
 generalize dT (gm n n f)=A at *;refine a0e (env:=[.dat A]) ?_ rfl;show a7A [.dat A]=_;unfold a7A;exact y4_ (a2P (c1 rfl em)) (x8_ (c1 rfl es))
theorem b9E(h1:1≤n)(h6:n≤6)(T:TabF n f):a1i [.dat (v8_ n f)]=some (.d (.bl true),[.dat (v8_ n f)]):=by
 obtain⟨q,e,h⟩:=b1g (v8_ n f);rw[h.mpr ⟨n,f,h1,h6,T,rfl⟩]at e;exact e
theorem b9F(h1:1≤n)(h6:n≤6):a4Q [.dat (dT (gm n n f))]=some (.d (dT (gm (n+1) (n+1) (HH f))),[.dat (dT (gm n n f))]):=by
 refine a0e (env:=[.dat (dT (gm n n f))]) ?_ rfl;show a7x [.dat (dT (gm n n f))]=_;unfold a7x;exact x8_ (c1 (c1 rfl (b0S f h1 h1 (by omega) (by omega))) (a8e _ (by omega) (by omega)))
theorem b9G(h1:1≤n)(h6:n≤6)(T:TabF n f):a3O [.dat (dT (gm n n f))]=some (.d (dT (gm (n+1) (n+1) (HH f))),[.dat (dT (gm n n f))]):=by
 have em:=a4e h1 h6 T
 have es:=b9F (f:=f) h1 h6
 generalize dT (gm n n f)=A at *;refine a0e (env:=[.dat A]) ?_ rfl;show a7y [.dat A]=_;unfold a7y;exact y4_ (a2P (c1 rfl em)) (x8_ (c1 rfl es))
def kd(f:OO)(r c:Nat):List Int:=[S (f r) c,S (f r) (c+1),S (fun k=>f k c) r,S (fun k=>f k c) (r+1)]
theorem b1o(r:Nat):y8_ (.int (r:Int)) (.int 1)=some (.int ((r+1:Nat):Int)):=by
 show some (D.int ((r:Int)+1))=_;rw[Int.natCast_add]
 rfl
theorem b1p{r c:Nat}(hr:r<n)(hc:c<n):∃ws,a1F [.dat (v8_ n f),.dat (.int (r:Int)),.dat (.int (c:Int))]=some (.d (dR (kd f r c)),ws):=by
 have a1:=a4Z (n:=n) (m:=n+1) (f:=fun i=>S (f i)) hr
 have a2:=a3g (n:=n+1) (g:=S (f r)) (j:=c) (by omega)
 have a3:=a3g (n:=n+1) (g:=S (f r)) (j:=c+1) (by omega)
 have b1:=a4Z (n:=n+1) (m:=n) (f:=fun i j=>S (fun k=>f k j) i) (j:=r) (by omega)
 have b2:=a3g (n:=n) (g:=fun j=>S (fun k=>f k j) r) hc
 have b3:=a4Z (n:=n+1) (m:=n) (f:=fun i j=>S (fun k=>f k j) i) (j:=r+1) (by omega)
 have b4:=a3g (n:=n) (g:=fun j=>S (fun k=>f k j) (r+1)) hc
 have hN:v8_ n f=.tup [dT (acr n f),dT (dwn n f)]:=rfl
 rw[hN];unfold acr dwn;have hk:dR (kd f r c)=.tup [.int (S (f r) c),.int (S (f r) (c+1)),.int (S (fun k=>f k c) r),.int (S (fun k=>f k c) (r+1))]:=rfl
 rw[hk];generalize dT (gm n (n+1) fun i=>S (f i))=A at *
 generalize dT (gm (n+1) n fun i j=>S (fun k=>f k j) i)=B at *
 refine⟨_,x7_ (env:=[.dat (.tup [A,B]),.dat (.int (r:Int)),.dat (.int (c:Int)),.dat A,.dat B]) ?_⟩;show a7E [.dat (.tup [A,B]),.dat (.int (r:Int)),.dat (.int (c:Int)),.nil,.nil]=_;unfold a7E;refine y4_ (e1:=[.dat (.tup [A,B]),.dat (.int (r:Int)),.dat (.int (c:Int)),.dat A,.dat B]) (b6F (e1:=[.dat (.tup [A,B]),.dat (.int (r:Int)),.dat (.int (c:Int)),.nil,.nil]) rfl rfl) ?_
 exact x8_ (b0q (x2_ (v3_ (v3_ rfl rfl a1) rfl a2) (x2_ (v3_ (v3_ rfl rfl a1) (v3_ rfl rfl (b1o c)) a3) (x2_ (v3_ (v3_ rfl rfl b1) rfl b2) (x2_ (v3_ (v3_ rfl (v3_ rfl rfl (b1o r)) b3) rfl b4) rfl)))) (by simp))
theorem b9H{i a b:Int}:a4O [.dat (.int i),.dat (.int a),.dat (.int b)]=some (.d (.bl (decide (a≤i)&&decide (i≤b))),[.dat (.int i),.dat (.int a),.dat (.int b)]):=by
 refine a0e (env:=[.dat (.int i),.dat (.int a),.dat (.int b)]) ?_ rfl;show a7o [.dat (.int i),.dat (.int a),.dat (.int b)]=_;unfold a7o;exact x8_ (a4N (c1 rfl (b0A (.int i))) (b0H rfl rfl rfl))
theorem b1q{r:Nat}(hr:r<n):a3R [.dat (.int (r:Int)),.dat (.int (n:Int))]=some (.d (.bl true),[.dat (.int (r:Int)),.dat (.int (n:Int))]):=by
 refine a0e (env:=[.dat (.int (r:Int)),.dat (.int (n:Int))]) ?_ rfl;show a7C [.dat (.int (r:Int)),.dat (.int (n:Int))]=_;unfold a7C;refine x8_ ((a0O (av:=[.d (.int r),.d (.int 0),.d (.int ((n:Int)-1))]) rfl rfl rfl b9H).trans ?_);rw[Yr (by omega:(0:Int)≤(r:Int)),Yr (by omega:(r:Int)≤(n:Int)-1)]
 rfl
theorem b1r{m:Nat}:y0_ [dT (gm n m f)]=some (.int n):=by show some (D.int _)=_;rw[Qv,a0k]
theorem b9I(h1:1≤n)(h6:n≤6)(T:TabF n f){r c:Nat}(hr:r<n)(hc:c<n):∃ws,a1G [.dat (dT (gm n n f)),.dat (.int (r:Int)),.dat (.int (c:Int))]=some (.d (dR (kd f r c)),ws):=by
 have em:=a4e h1 h6 T
 have es:=a5d f h1 h6
 have hl:y0_ [dT (gm n n f)]=some (.int n):=b1r
 obtain⟨_,ek⟩:=b1p (f:=f) hr hc;have p1:=b1q hr;have p2:=b1q hc;generalize dT (gm n n f)=A at *;refine⟨_,x7_ (env:=[.dat A,.dat (.int (r:Int)),.dat (.int (c:Int))]) ?_⟩;show a7F [.dat A,.dat (.int (r:Int)),.dat (.int (c:Int))]=_;unfold a7F;refine y4_ (e1:=[.dat A,.dat (.int (r:Int)),.dat (.int (c:Int))]) (a2P (c1 rfl em)) ?_
 refine y4_ (e1:=[.dat A,.dat (.int (r:Int)),.dat (.int (c:Int))]) (u6_ (a1y (b:=true) (j3_ (a0O (av:=[.d (.int r),.d (.int n)]) (a2e rfl (a2e (g2_ (x2_ rfl rfl) hl) rfl)) rfl rfl p1))) rfl) ?_
 refine y4_ (e1:=[.dat A,.dat (.int (r:Int)),.dat (.int (c:Int))]) (u6_ (a1y (b:=true) (j3_ (a0O (av:=[.d (.int c),.d (.int n)]) (a2e rfl (a2e (g2_ (x2_ rfl rfl) hl) rfl)) rfl rfl p2))) rfl) ?_
 exact x8_ (a0O (av:=[.d (v8_ n f),.d (.int r),.d (.int c)]) (a2e (c1 rfl es) rfl) rfl rfl ek)
end
theorem a8h:∀{ks:OI}{vs:List D}{k:List Int}{d:D},ks.contains k=false->reD ks vs k d=vs
 |[],vs,k,d,_=>by unfold reD;rfl
 |a::ks,[],k,d,_=>by unfold reD;rfl
 |a::ks,v::vs,k,d,h=>by
  rw[Zd,Vm]at h;unfold reD;rw[Qw (fun z=>by simp[z]at h),a8h h.2]
theorem a8i:∀{ks:OI}{vs:List D}(k k':List Int) (d:D),ks.length=vs.length->ks.contains k=true->lkD ks (reD ks vs k d) k'=if k'=k then some d else lkD ks vs k'
 |[],vs,k,k',d,_,h=>by cases h
 |a::ks,[],k,k',d,hl,h=>by cases hl
 |a::ks,v::vs,k,k',d,hl,h=>by
  have hl':ks.length=vs.length:=by simpa using hl
  unfold reD
  by_cases ha:a=k
  ·rw[Qb ha]
   unfold lkD;subst ha
   by_cases hk:a=k'
   ·rw[Qb hk,Qb hk.symm]
   ·rw[Qw hk,Qw (Zh hk),Qw hk]
    by_cases hc:ks.contains a=true
    ·have:=a8i (ks:=ks) (vs:=vs) a k' d hl' hc
     rw[this,Qw (Zh hk)]
    ·have hn:reD ks vs a d=vs:=a8h (by simpa using hc)
     rw[hn]
  ·rw[Qw ha]
   have hc:ks.contains k=true:=by
    rw[Zd,Up]at h
    rcases h with h|h
    ·exact absurd (Jm.mp h).symm ha
    ·exact h
   unfold lkD
   by_cases hk:a=k'
   ·rw[Qb hk,Qb hk,Qw (fun z=>ha (hk.trans z))]
   ·rw[Qw hk,Qw hk]
    exact a8i k k' d hl' hc
theorem b1s:∀{ks:OI}{vs:List D}(k k':List Int) (d:D),ks.length=vs.length->ks.contains k=false->lkD (ks++[k]) (vs++[d]) k'=if k'=k then some d else lkD ks vs k'
 |[],[],k,k',d,_,_=>by
  show(if k=k' then some d else none)=_
  by_cases h:k=k'
  ·rw[Qb h,Qb h.symm]
  ·rw[Qw h,Qw (Zh h)]
   rfl
 |[],_::_,k,k',d,hl,_=>by cases hl
 |_::_,[],k,k',d,hl,_=>by cases hl
 |a::ks,v::vs,k,k',d,hl,h=>by
  rw[Zd,Vm]at h;have ha:¬ k=a:=by simpa using h.1
  show(if a=k' then some v else lkD (ks++[k]) (vs++[d]) k')=if k'=k then some d else(if a=k' then some v else lkD ks vs k')
  by_cases hk:a=k'
  ·rw[Qb hk,Qb hk,Qw (fun z=>ha (z.symm.trans hk.symm))]
  ·rw[Qw hk,Qw hk]
   exact b1s k k' d (by simpa using hl) h.2
theorem b9J{ks:OI}{vs:List D}(k k':List Int)(d:D)(hl:ks.length=vs.length):lkD (a0x ks k) (a0G ks vs k d) k'=if k'=k then some d else lkD ks vs k':=by
 unfold a0x a0G;cases h:ks.contains k with
 |true=>exact a8i k k' d hl h
 |false=>exact b1s k k' d hl h
theorem a8j:∀(ks:OI) (vs:List D) (k:List Int) (d:D),(reD ks vs k d).length=vs.length
 |[],vs,k,d=>by unfold reD;rfl
 |a::ks,[],k,d=>by unfold reD;rfl
 |a::ks,v::vs,k,d=>by
  unfold reD;split
  ·rw[Ys,a8j ks vs k d,Ys]
  ·rw[Ys,a8j ks vs k d,Ys]
theorem b9K{ks:OI}{vs:List D}(k:List Int)(d:D)(hl:ks.length=vs.length):(a0x ks k).length=(a0G ks vs k d).length:=by
 unfold a0x a0G;split
 ·rw[a8j,hl]
 ·rw[Ql,Ql,hl];rfl
theorem b1t:∀{ks:OI}{ns:List Int}{k:List Int},ks.length=ns.length->ks.Nodup->ks.contains k=true->∃(m:Int) (ns':List Int),lkD ks (ns.map D.int) k=some (.int m)/\reD ks (ns.map D.int) k (.int (m+1))=ns'.map D.int/\ns'.sum=ns.sum+1
 |[],ns,k,_,_,h=>by cases h
 |a::ks,[],k,hl,_,_=>by cases hl
 |a::ks,v::ns,k,hl,nd,h=>by
  have hl':ks.length=ns.length:=by simpa using hl
  have nd':=Uy.mp nd
  by_cases ha:a=k
  ·refine⟨v,(v+1)::ns,?_,?_,?_⟩
   ·show(if a=k then some (D.int v)else _)=_
    rw[Qb ha]
   ·show(if a=k then D.int (v+1)::reD ks (ns.map D.int) k (.int (v+1))else _)=_
    rw[Qb ha,a8h]
    ·rfl
    ·cases hc:ks.contains k with
     |false=>rfl
     |true=>exact absurd (by simpa [ha]using hc) nd'.1
   ·rw[Jz,Jz];omega
  ·have hc:ks.contains k=true:=by
    rw[Zd,Up]at h
    rcases h with h|h
    ·exact absurd (Jm.mp h).symm ha
    ·exact h
   obtain⟨m,ns',h1,h2,h3⟩:=b1t hl' nd'.2 hc;refine⟨m,v::ns',?_,?_,?_⟩
   ·show(if a=k then _ else lkD ks (ns.map D.int) k)=_
    rw[Qw ha];exact h1
   ·show(if a=k then _ else D.int v::reD ks (ns.map D.int) k (.int (m+1)))=_
    rw[Qw ha,h2];rfl
   ·rw[Jz,Jz,h3];omega
structure Cn(L:OI)(ks:OI)(vs:List D):Prop where
 len:ks.length=vs.length
 nd:ks.Nodup
 ns:∃ns:List Int,vs=ns.map D.int/\ns.sum=(L.length:Int)
 cnt:∀k,(lkD ks vs k).getD (.int 0)=.int (L.count k:Int)
 few:ks.length≤L.length
theorem Cn.nil:Cn [] [] []:=⟨rfl,List.nodup_nil,⟨[],rfl,rfl⟩,fun k=>rfl,Qu _⟩
theorem b1u:∀{ks:OI}{vs:List D}{k:List Int},ks.contains k=false->lkD ks vs k=none
 |[],vs,k,_=>by unfold lkD;rfl
 |a::ks,[],k,_=>by unfold lkD;rfl
 |a::ks,v::vs,k,h=>by
  rw[Zd,Vm]at h;unfold lkD;rw[Qw (fun z=>by simp[z]at h)]
  exact b1u h.2
theorem Cn.add{L ks:OI}{vs:List D}(C:Cn L ks vs)(k:List Int):Cn (L++[k]) (a0x ks k) (a0G ks vs k (.int ((L.count k:Int)+1))):=by
 obtain⟨ns,hns,hsum⟩:=C.ns;refine⟨b9K k _ C.len,?_,?_,fun k'=>?_,?_⟩
 ·unfold a0x
  cases h:ks.contains k with
  |true=>exact C.nd
  |false=>exact List.nodup_append.mpr ⟨C.nd,by simp,fun a ha b hb=>by
    have:b=k:=by simpa using hb
    subst this;intro z;subst z;have:ks.contains a=true:=by simpa using ha
    rw[this]at h;cases h⟩
 ·unfold a0G
  cases h:ks.contains k with
  |true=>
   have hl:ks.length=ns.length:=by have:=C.len;rw[hns,Qv]at this;exact this
   obtain⟨m,ns',h1,h2,h3⟩:=b1t hl C.nd h;have hc:=C.cnt k;rw[hns,h1]at hc;have hm:m=(L.count k:Int):=by
    have hc':D.int m=.int (L.count k:Int):=hc
    injection hc'
   refine⟨ns',?_,?_⟩
   ·rw[←hm,hns];exact h2
   ·rw[h3,hsum,Ql];simp
  |false=>
   have hc:=C.cnt k
   rw[b1u h]at hc;have hm:(0:Int)=(L.count k:Int):=by
    have hc':D.int 0=.int (L.count k:Int):=hc
    injection hc'
   refine⟨ns++[1],?_,?_⟩
   ·rw[←hm,hns,Zm];rfl
   ·rw[List.sum_append,hsum,Ql];simp
 ·rw[b9J k k' _ C.len]
  rw[Ji]
  by_cases h:k'=k
  ·subst h
   rw[Qb rfl];show D.int _=_;rw[List.count_singleton_self]
   simp
  ·rw[Qw h,C.cnt k',Vn]
   rw[Qw (by simpa using fun z=>h z.symm)]
   simp
 ·unfold a0x
  have:=C.few;split<;>simp<;>omega
section
variable{n:Nat}{f:OO}
abbrev kB:Mo Fl:=(q0_ (v7_ 5 (mCD 3 a1F (z5_ (z0_ 1) (z5_ (z0_ 3) (z5_ (z0_ 4) z8_))))) (w2_ (z4_ y8_ (a2Q 2 (z0_ 5) (mC (.int 0))) (mC (.int 1))) (gSD 2 (z0_ 5))))
abbrev kA:Mo Fl:=(w4_ (j0_ (z3_ (mCB y0_ (z3_ (z0_ 0) z6_)) z6_)) (gN 4) (q0_ (v7_ 5 (mCD 3 a1F (z5_ (z0_ 1) (z5_ (z0_ 3) (z5_ (z0_ 4) z8_))))) (w2_ (z4_ y8_ (a2Q 2 (z0_ 5) (mC (.int 0))) (mC (.int 1))) (gSD 2 (z0_ 5)))))
abbrev fk(A N:D)(ks:OI)(vs:List D)(w3 w4 w5:W):Env':=[.dat A,.dat N,.ownD ks vs,w3,w4,w5]
theorem b9L(l:List Int):a2g (dR l)=some l:=by show ints? (l.map D.int)=_;exact a4L l
theorem b9M{A:D}{L ks:OI}{vs:List D}(C:Cn L ks vs)(hL:L.length<100000){r c:Nat}(hr:r<n)(hc:c<n)(w5:W):∃ks' vs',Cn (L++[kd f r c]) ks' vs'/\kB (fk A (v8_ n f) ks vs (.dat (.int (r:Int))) (.dat (.int (c:Int))) w5)=some (.nx,fk A (v8_ n f) ks' vs' (.dat (.int (r:Int))) (.dat (.int (c:Int))) (.dat (dR (kd f r c)))):=by
 obtain⟨_,ek⟩:=b1p (f:=f) hr hc;have hk:=b9L (kd f r c);have hcn:=C.cnt (kd f r c);have hlt:ks.length<100000:=by have:=C.few;omega
 refine⟨a0x ks (kd f r c),a0G ks vs (kd f r c) (.int ((L.count (kd f r c):Int)+1)),C.add _,?_⟩;generalize kd f r c=q at *;generalize v8_ n f=N at *;generalize dR q=d at *;unfold kB;refine y4_ (e1:=fk A N ks vs (.dat (.int (r:Int))) (.dat (.int (c:Int))) (.dat d)) (a1f (e1:=fk A N ks vs (.dat (.int (r:Int))) (.dat (.int (c:Int))) w5) (a0O (av:=[.d N,.d (.int r),.d (.int c)]) rfl rfl rfl ek) rfl) ?_
 have hg:a2Q 2 (z0_ 5) (mC (.int 0)) (fk A N ks vs (.dat (.int (r:Int))) (.dat (.int (c:Int))) (.dat d))=some (.int (L.count q:Int),fk A N ks vs (.dat (.int (r:Int))) (.dat (.int (c:Int))) (.dat d)):=by
  show((a2g d).map fun k=>((lkD ks vs k).getD (.int 0),fk A N ks vs (.dat (.int (r:Int))) (.dat (.int (c:Int))) (.dat d)))=_
  rw[hk,Vf,hcn]
 have hm:z4_ y8_ (a2Q 2 (z0_ 5) (mC (.int 0))) (mC (.int 1)) (fk A N ks vs (.dat (.int (r:Int))) (.dat (.int (c:Int))) (.dat d))=some (.int ((L.count q:Int)+1),fk A N ks vs (.dat (.int (r:Int))) (.dat (.int (c:Int))) (.dat d)):=v3_ hg rfl rfl
 unfold w2_;rw[hm,Qk];show((a2g d).bind fun k=>if ks.length<100000 then some (fk A N (a0x ks k) (a0G ks vs k (.int ((L.count q:Int)+1))) (.dat (.int (r:Int))) (.dat (.int (c:Int))) (.dat d))else none).map _=_
 rw[hk,Qk,Qb hlt]
 rfl
def u7_(n:Nat)(f:OO):Nat->OI
 |0=>[]
 |r+1=>u7_ n f r++(List.range n).map (kd f r)
theorem b1v(r:Nat):(u7_ n f r).length=r * n:=by
 induction r with
 |zero=>simp[u7_]
 |succ r ih=>rw[u7_,Ql,ih,Qv,List.length_range,Nat.succ_mul]
theorem b9N{r:Nat}(h6:n≤6)(hr:r≤n):r * n≤36:=Zn (Nat.mul_le_mul (Zn hr h6) h6) (by decide)
theorem b9O{A:D}(hlen:y0_ [A]=some (.int n))(h6:n≤6){r:Nat}(hr:r<n){ks:OI}{vs:List D}(C:Cn (u7_ n f r) ks vs)(w4 w5:W):∃ks' vs' w4' w5',Cn (u7_ n f (r+1)) ks' vs'/\kA (fk A (v8_ n f) ks vs (.dat (.int (r:Int))) w4 w5)=some (.nx,fk A (v8_ n f) ks' vs' (.dat (.int (r:Int))) w4' w5'):=by
 have hb:=b9N (r:=r) h6 (by omega)
 obtain⟨e,he,ks',vs',w4',w5',C',rfl⟩:=a3I (g:=gN 4) (b:=kB) (n:=n) (fun c e=>∃ks' vs' w4' w5',Cn (u7_ n f r++(List.range c).map (kd f r)) ks' vs'/\e=fk A (v8_ n f) ks' vs' (.dat (.int (r:Int))) w4' w5') (env:=fk A (v8_ n f) ks vs (.dat (.int (r:Int))) w4 w5) (fun c hc e ⟨ks',vs',w4',w5',C',he⟩=>by
  subst he;obtain⟨ks2,vs2,C2,hk⟩:=b9M (A:=A) (n:=n) (f:=f) C' (by rw[Ql,b1v,Qv,List.length_range];omega) hr hc w5'
  refine⟨_,_,rfl,hk,ks2,vs2,_,_,?_,rfl⟩;rw[Ub,Zm,←Xz];exact C2) ⟨ks,vs,w4,w5,by rw[List.range_zero,Jt,Uw];exact C,rfl⟩
 refine⟨ks',vs',w4',w5',C',?_⟩;unfold kA;exact(a1z (a3H (n:=n) (g2_ (x2_ rfl rfl) hlen) rfl (by omega))).trans he
theorem b9P(h1:1≤n)(h6:n≤6)(T:TabF n f):∃ks vs ws,Cn (u7_ n f n) ks vs/\a3S [.dat (dT (gm n n f))]=some (.d (.dct ks vs),ws):=by
 have em:=a4e h1 h6 T
 have es:=a5d f h1 h6
 have hl:y0_ [dT (gm n n f)]=some (.int n):=b1r
 generalize dT (gm n n f)=A at *;obtain⟨e,he,ks,vs,w3,w4,w5,C,rfl⟩:=a3I (g:=gN 3) (b:=kA) (n:=n) (fun r e=>∃ks vs w3 w4 w5,Cn (u7_ n f r) ks vs/\e=fk A (v8_ n f) ks vs w3 w4 w5) (env:=fk A (v8_ n f) [] [] .nil .nil .nil) (fun r hr e ⟨ks,vs,w3,w4,w5,C,he⟩=>by
  subst he;obtain⟨ks',vs',w4',w5',C',hk⟩:=b9O hl h6 hr C w4 w5;exact⟨_,_,rfl,hk,ks',vs',_,_,_,C',rfl⟩) ⟨[],[],_,_,_,Cn.nil,rfl⟩
 refine⟨ks,vs,_,C,x7_ (env:=[.dat A,.dat (v8_ n f),.dat (.dct ks vs),w3,w4,w5]) ?_⟩;show a7G [.dat A,.nil,.nil,.nil,.nil,.nil]=_;unfold a7G;refine y4_ (e1:=[.dat A,.nil,.nil,.nil,.nil,.nil]) (a2P (c1 rfl em)) ?_
 refine y4_ (e1:=[.dat A,.dat (v8_ n f),.nil,.nil,.nil,.nil]) (a1f (e1:=[.dat A,.nil,.nil,.nil,.nil,.nil]) (c1 rfl es) rfl) ?_
 refine y4_ (e1:=fk A (v8_ n f) [] [] .nil .nil .nil) rfl ?_
 refine y4_ ((a1z (a3H (n:=n) (g2_ (x2_ rfl rfl) hl) rfl (by omega))).trans he) ?_
 exact x8_ rfl
abbrev KA:List Int:=[0,1,0,1]
abbrev KB:List Int:=[1,0,1,0]
theorem a4f(g:Nat->Int)(c:Nat):S g (c+1)=S g c+g c:=rfl
theorem ind(T:TabF n f){r c:Nat}(hr:r<n)(hc:c<n):(([kd f r c].count KA:Nat):Int)-([kd f r c].count KB:Nat)=f r c:=by
 have a1:=T.row r hr c (by omega)
 have a2:=T.row r hr (c+1) (by omega)
 have b1:=T.col c hc r (by omega)
 have b2:=T.col c hc (r+1) (by omega)
 have e1:=a4f (f r) c
 have e2:=a4f (fun k=>f k c) r
 rw[Vn,Vn];unfold kd;generalize S (f r) c=x1 at *;generalize S (f r) (c+1)=x2 at *;generalize S (fun k=>f k c) r=y1 at *
 generalize S (fun k=>f k c) (r+1)=y2 at *
 generalize f r c=v at *
 rcases a1 with rfl|rfl<;>rcases a2 with rfl|rfl<;>rcases b1 with rfl|rfl<;>rcases b2 with rfl|rfl<;>first|(exfalso;omega)|(have hv:v=0:=(by omega);rw[hv];decide)|(have hv:v=1:=(by omega);rw[hv];decide)|(have hv:v= -1:=(by omega);rw[hv];decide)
theorem b1w(T:TabF n f){r:Nat}(hr:r<n):∀c,c≤n->((((List.range c).map (kd f r)).count KA:Nat):Int)-(((List.range c).map (kd f r)).count KB:Nat)=S (f r) c
 |0,_=>rfl
 |c+1,hc=>by
  have ih:=b1w T hr c (by omega)
  have i:=ind T hr (show c<n by omega)
  rw[Ub,Zm,Ji,Ji,a4f];rw[Qm,Jt]
  omega
theorem b1x(T:TabF n f):∀r,r≤n->(((u7_ n f r).count KA:Nat):Int)-((u7_ n f r).count KB:Nat)=(r:Int)
 |0,_=>rfl
 |r+1,hr=>by
  have ih:=b1x T r (by omega)
  have i:=b1w T (show r<n by omega) n (Qu _)
  rw[T.rowN r (by omega)]at i
  rw[u7_,Ji,Ji]
  omega
theorem TabF.fl(T:TabF n f):TabF n fun i j=>f j i:=⟨T.col,T.colN,T.row,T.rowN⟩
theorem b1y{a b:Nat}(g:OO)(h1:1≤a)(ha:a≤1000)(hb:b≤1000):a2p [.dat (dT (gm a b g))]=some (.d (dT (gm b a fun i j=>g j i)),[.dat (dT (gm a b g))]):=a8f g h1 ha hb
theorem a5g{a b:D}{q:Bool}(h:dEq false a b=some (.bl q)):dEq true a b=some (.bl (!q)):=by
 unfold dEq at h ⊢;split at h
 ·rename_i hs
  rw[Qb hs];have h':PyData.eqv (toP a) (toP b)=q:=by
   have:D.bl (PyData.eqv (toP a) (toP b))=.bl q:=Zw h;injection this
  rw[←h']
  rfl
 ·cases h
theorem b9Q(h1:1≤n)(h6:n≤6)(T:TabF n f):a3a [.dat (dT (gm n n f)),.dat (.str "slant")]=some (.d (dT (gm n n fun i j=>f j i)),[.dat (dT (gm n n f)),.dat (.str "slant")]):=by
 have e:=b9D (w:="slant") (by simp[W8]) h1 h6 T
 unfold tf at e;rw[b1m]at e;exact e
theorem b1z:∀{xs ys zs:List D},xs.length=zs.length->a0d (xs++ys) zs=a0d xs zs
 |[],ys,[],_=>by
  cases ys<;>rfl
 |[],ys,_::_,h=>by cases h
 |_::_,ys,[],h=>by cases h
 |x::xs,ys,z::zs,h=>by
  show .tup [x,z]::a0d (xs++ys) zs=.tup [x,z]::a0d xs zs;rw[b1z (by simpa using h)]
theorem b9R(g:Nat->Int):a0d ((rw' (n+1) g).map D.int) (((rw' (n+1) g).map D.int).drop 1)=(List.range n).map fun(j:Nat)=>D.tup [.int (g j),.int (g (j+1))]:=by
 have e1:(rw' (n+1) g).map D.int=((List.range n).map fun j=>D.int (g j))++[D.int (g n)]:=by
  unfold rw';rw[Ub,Zm,Zm,Qa]
  rfl
 have e2:((rw' (n+1) g).map D.int).drop 1=(List.range n).map fun j=>D.int (g (j+1)):=by
  unfold rw';rw[List.range_succ_eq_map,Qm,Qm,List.drop_one,List.tail_cons,Qa,Qa]
  rfl
 rw[e2,e1,b1z (by simp)]
 exact b0r (List.range n) (fun j=>D.int (g j)) (fun j=>D.int (g (j+1)))
end
theorem b9S{i:Nat}{e:Env'}{w:W}{a k:Int}{b:Bool}{M:Mo D}(hw:e[i]? =some w)(hm:w.mutL=some [.int a,.bl b])(hM:M e=some (.int k,e))(ha:0≤a)(h1:1≤k)(h2:k<1073741824):
  ∃v a',mCD 2 a0s (a0i i (z5_ M z8_)) e=some (.int v,e.set i (w.put [.int a',.bl b]))/\0≤v/\v<k/\0≤a':=by
 obtain⟨v,a',et,v0,v1,a0⟩:=a7Y (a:=a) (m:=k) (b:=b) ha h1 h2;refine⟨v,a',a1d (a4J (av:=[.sl i,.d (.int k)]) (c:=[.int a,.bl b]) ?_ rfl rfl hw hm et rfl),v0,v1,a0⟩;unfold a0i;rw[hw];show((w.mut).bind _)=_;have:w.mut=some (.l [.int a,.bl b]):=by cases w<;>first|(cases hm;rfl)|cases hm
 rw[this,Qk,a2e hM rfl]
 rfl
abbrev F(Z:D)(k:Nat)(w2 w3 w4 w5 w6 w7 w8 w9 w10 w11 w12 w13 w14 w15 w16:W):Env':=[.dat Z,.dat (.int (k:Int)),w2,w3,w4,w5,w6,w7,w8,w9,w10,w11,w12,w13,w14,w15,w16]
abbrev cB:Mo Fl:=(q0_ (w2_ (mCD 3 a1G (z5_ (z0_ 4) (z5_ (z0_ 7) (z5_ (z0_ 9) z8_)))) (gT 4 (gCn (gN 13) (gCn (gN 14) (gCn (gN 15) (gCn (gN 16) gNl)))))) (q0_ (v7_ 12 (z4_ dIx (z4_ dIx (z0_ 4) (z0_ 7)) (z0_ 9))) (v9_ (k6_ (mT (z4_ (dEq true) (z4_ w8_ (z0_ 14) (z0_ 13)) (z0_ 12))) (mT (z4_ (dEq true) (z4_ w8_ (z0_ 16) (z0_ 15)) (z0_ 12)))) (q8_ (mC (.bl false))) mNx)))
abbrev cA:Mo Fl:=(w4_ (j0_ (z3_ (z0_ 3) z6_)) (gN 9) (q0_ (w2_ (mCD 3 a1G (z5_ (z0_ 4) (z5_ (z0_ 7) (z5_ (z0_ 9) z8_)))) (gT 4 (gCn (gN 13) (gCn (gN 14) (gCn (gN 15) (gCn (gN 16) gNl)))))) (q0_ (v7_ 12 (z4_ dIx (z4_ dIx (z0_ 4) (z0_ 7)) (z0_ 9))) (v9_ (k6_ (mT (z4_ (dEq true) (z4_ w8_ (z0_ 14) (z0_ 13)) (z0_ 12))) (mT (z4_ (dEq true) (z4_ w8_ (z0_ 16) (z0_ 15)) (z0_ 12)))) (q8_ (mC (.bl false))) mNx))))
abbrev zB:Mo Fl:=(v9_ (mT (z4_ (dEq true) (mCB j6_ (z3_ (mF (y3_ (a0q (z3_ (z0_ 10) (z3_ (mSl (z0_ 10) (a2M (mC (.int 1))) a2L) z6_))) [false,false,false,false,false,false,false,false,false,false,false,false,false,false,false,false,false] 2 (gT 2 (gCn (gN 17) (gCn (gN 18) gNl))) y9_ (z4_ w8_ (z0_ 18) (z0_ 17)))) z6_)) (z0_ 11))) (q8_ (mC (.bl false))) mNx)
abbrev b0:Mo Fl:=(q0_ (a0p 2 (a1a 2 a3W (z5_ (z0_ 0) (z5_ (z0_ 1) z8_)))) (q0_ (v7_ 3 (z4_ y8_ (mC (.int 1)) (mCD 2 a0s (a0i 2 (z5_ (mC (.int 6)) z8_))))) (q0_ (v7_ 4 (mCD 2 a3Y (a0i 2 (z5_ (z0_ 3) z8_)))) (q0_ (v7_ 5 (mCD 1 a2m (z5_ (z0_ 4) z8_))) (q0_ (v9_ (k6_ (mT (z4_ a3z (mCD 1 a1i (z5_ (z0_ 5) z8_)) (mC (.bl true)))) (mT (z4_ (dEq true) (mCD 1 a3Q (z5_ (z0_ 5) z8_)) (z0_ 4)))) (q8_ (mC (.bl false))) mNx) (q0_ (v9_ (mT (z4_ a3z (mCD 1 a1h (z5_ (z0_ 4) z8_)) (mC (.bl true)))) (q8_ (mC (.bl false))) mNx) (q0_ (v7_ 6 (mCD 1 a3S (z5_ (z0_ 4) z8_))) (q0_ (v9_ (mT (z4_ (dEq true) (a6t 6) (z4_ j9_ (z0_ 3) (z0_ 3)))) (q8_ (mC (.bl false))) mNx) (q0_ (v9_ (mT (z4_ (dEq true) (a3G 6 (x6_ (z3_ (mC (.int 0)) (z3_ (mC (.int 1)) (z3_ (mC (.int 0)) (z3_ (mC (.int 1)) z6_))))) (mC (.int 0))) (z4_ y8_ (a3G 6 (x6_ (z3_ (mC (.int 1)) (z3_ (mC (.int 0)) (z3_ (mC (.int 1)) (z3_ (mC (.int 0)) z6_))))) (mC (.int 0))) (z0_ 3)))) (q8_ (mC (.bl false))) mNx) (q0_ (w4_ (j0_ (z3_ (z0_ 3) z6_)) (gN 7) (w4_ (j0_ (z3_ (z0_ 3) z6_)) (gN 9) (q0_ (w2_ (mCD 3 a1G (z5_ (z0_ 4) (z5_ (z0_ 7) (z5_ (z0_ 9) z8_)))) (gT 4 (gCn (gN 13) (gCn (gN 14) (gCn (gN 15) (gCn (gN 16) gNl)))))) (q0_ (v7_ 12 (z4_ dIx (z4_ dIx (z0_ 4) (z0_ 7)) (z0_ 9))) (v9_ (k6_ (mT (z4_ (dEq true) (z4_ w8_ (z0_ 14) (z0_ 13)) (z0_ 12))) (mT (z4_ (dEq true) (z4_ w8_ (z0_ 16) (z0_ 15)) (z0_ 12)))) (q8_ (mC (.bl false))) mNx))))) (q0_ (v9_ (mT (z4_ (dEq true) (mCD 1 a2m (z5_ (mCD 2 a3a (z5_ (z0_ 4) (z5_ (mC (.str "slant")) z8_))) z8_)) (x6_ (z3_ (mCD 1 a2p (z5_ (z4_ dIx (z0_ 5) (mC (.int 1))) z8_)) (z3_ (mCD 1 a2p (z5_ (z4_ dIx (z0_ 5) (mC (.int 0))) z8_)) z6_))))) (q8_ (mC (.bl false))) mNx) (q0_ (v7_ 8 (mCD 1 a3O (z5_ (z0_ 4) z8_))) (w4_ (a0q (z3_ (z0_ 8) (z3_ (z4_ dIx (z0_ 5) (mC (.int 1))) z6_))) (gT 2 (gCn (gN 10) (gCn (gN 11) gNl))) (v9_ (mT (z4_ (dEq true) (mCB j6_ (z3_ (mF (y3_ (a0q (z3_ (z0_ 10) (z3_ (mSl (z0_ 10) (a2M (mC (.int 1))) a2L) z6_))) [false,false,false,false,false,false,false,false,false,false,false,false,false,false,false,false,false] 2 (gT 2 (gCn (gN 17) (gCn (gN 18) gNl))) y9_ (z4_ w8_ (z0_ 18) (z0_ 17)))) z6_)) (z0_ 11))) (q8_ (mC (.bl false))) mNx))))))))))))))
section
variable{Z:D}{k n:Nat}{f:OO}{w2 w3 w4 w5 w6 w7 w8 w9 w10 w11 w12 w13 w14 w15 w16:W}
theorem b9T(h1:1≤n)(h6:n≤6)(T:TabF n f){r c:Nat}(hr:r<n)(hc:c<n):∃y12 y13 y14 y15 y16,cB (F Z k w2 w3 (.dat (dT (gm n n f))) w5 w6 (.dat (.int (r:Int))) w8 (.dat (.int (c:Int))) w10 w11 w12 w13 w14 w15 w16)=some (.nx,(F Z k w2 w3 (.dat (dT (gm n n f))) w5 w6 (.dat (.int (r:Int))) w8 (.dat (.int (c:Int))) w10 w11 y12 y13 y14 y15 y16)):=by
 obtain⟨_,ek⟩:=b9I h1 h6 T hr hc;have i1:=a4Z (n:=n) (m:=n) (f:=f) hr;have i2:=a3g (n:=n) (g:=f r) hc;have e1:=a4f (f r) c;have e2:S (fun k=>f k c) (r+1)=S (fun k=>f k c) r+f r c:=a4f _ _
 have hk:dR (kd f r c)=.tup [.int (S (f r) c),.int (S (f r) (c+1)),.int (S (fun k=>f k c) r),.int (S (fun k=>f k c) (r+1))]:=rfl
 rw[hk]at ek;generalize S (f r) c=x1 at *;generalize S (f r) (c+1)=x2 at *;generalize S (fun k=>f k c) r=y1 at *
 generalize S (fun k=>f k c) (r+1)=y2 at *
 generalize dR (rw' n (f r))=R at *;generalize f r c=v at *;generalize dT (gm n n f)=A at *;refine⟨.dat (.int v),.dat (.int x1),.dat (.int x2),.dat (.int y1),.dat (.int y2),?_⟩;unfold cB;refine y4_ (e1:=(F Z k w2 w3 (.dat A) w5 w6 (.dat (.int (r:Int))) w8 (.dat (.int (c:Int))) w10 w11 w12 (.dat (.int x1)) (.dat (.int x2)) (.dat (.int y1)) (.dat (.int y2)))) ?_ ?_
 ·have hm:mCD 3 a1G (z5_ (z0_ 4) (z5_ (z0_ 7) (z5_ (z0_ 9) z8_))) (F Z k w2 w3 (.dat A) w5 w6 (.dat (.int (r:Int))) w8 (.dat (.int (c:Int))) w10 w11 w12 w13 w14 w15 w16)=some (.tup [.int x1,.int x2,.int y1,.int y2],(F Z k w2 w3 (.dat A) w5 w6 (.dat (.int (r:Int))) w8 (.dat (.int (c:Int))) w10 w11 w12 w13 w14 w15 w16)):=a0O (av:=[.d A,.d (.int r),.d (.int c)]) rfl rfl rfl ek
  unfold w2_;rw[hm]
  rfl
 refine y4_ (e1:=(F Z k w2 w3 (.dat A) w5 w6 (.dat (.int (r:Int))) w8 (.dat (.int (c:Int))) w10 w11 (.dat (.int v)) (.dat (.int x1)) (.dat (.int x2)) (.dat (.int y1)) (.dat (.int y2)))) (a1f (e1:=(F Z k w2 w3 (.dat A) w5 w6 (.dat (.int (r:Int))) w8 (.dat (.int (c:Int))) w10 w11 w12 (.dat (.int x1)) (.dat (.int x2)) (.dat (.int y1)) (.dat (.int y2)))) (v3_ (v3_ rfl rfl i1) rfl i2) rfl) ?_
 have q1:dEq true (.int (x2-x1)) (.int v)=some (.bl false):=by rw[a3B];simp;omega
 have q2:dEq true (.int (y2-y1)) (.int v)=some (.bl false):=by rw[a3B];simp;omega
 exact u6_ (a6u (j3_ (v3_ (v3_ rfl rfl rfl) rfl q1)) (j3_ (v3_ (v3_ rfl rfl rfl) rfl q2))) rfl
theorem b9U(h1:1≤n)(h6:n≤6)(T:TabF n f){r:Nat}(hr:r<n):∃y9 y12 y13 y14 y15 y16,cA (F Z k w2 (.dat (.int (n:Int))) (.dat (dT (gm n n f))) w5 w6 (.dat (.int (r:Int))) w8 w9 w10 w11 w12 w13 w14 w15 w16)=some (.nx,(F Z k w2 (.dat (.int (n:Int))) (.dat (dT (gm n n f))) w5 w6 (.dat (.int (r:Int))) w8 y9 w10 w11 y12 y13 y14 y15 y16)):=by
 obtain⟨e,he,y9,y12,y13,y14,y15,y16,rfl⟩:=a3I (g:=gN 9) (b:=cB) (n:=n) (fun c e=>∃y9 y12 y13 y14 y15 y16,e=(F Z k w2 (.dat (.int (n:Int))) (.dat (dT (gm n n f))) w5 w6 (.dat (.int (r:Int))) w8 y9 w10 w11 y12 y13 y14 y15 y16)) (env:=(F Z k w2 (.dat (.int (n:Int))) (.dat (dT (gm n n f))) w5 w6 (.dat (.int (r:Int))) w8 w9 w10 w11 w12 w13 w14 w15 w16)) (fun c hc e ⟨y9,y12,y13,y14,y15,y16,he⟩=>by
  subst he;obtain⟨z12,z13,z14,z15,z16,hb⟩:=b9T (Z:=Z) (k:=k) (w2:=w2) (w3:=.dat (.int (n:Int))) (w5:=w5) (w6:=w6) (w8:=w8) (w10:=w10) (w11:=w11) (w12:=y12) (w13:=y13) (w14:=y14) (w15:=y15) (w16:=y16) h1 h6 T hr hc;exact⟨_,_,rfl,hb,.dat (.int (c:Int)),z12,z13,z14,z15,z16,rfl⟩) ⟨_,_,_,_,_,_,rfl⟩
 refine⟨y9,y12,y13,y14,y15,y16,?_⟩;unfold cA;exact(a1z (a3H (n:=n) rfl rfl (by omega))).trans he
theorem cells(h1:1≤n)(h6:n≤6)(T:TabF n f):∃y7 y9 y12 y13 y14 y15 y16,loop (gN 7) cA (rgD n) (F Z k w2 (.dat (.int (n:Int))) (.dat (dT (gm n n f))) w5 w6 w7 w8 w9 w10 w11 w12 w13 w14 w15 w16)=some (.nx,(F Z k w2 (.dat (.int (n:Int))) (.dat (dT (gm n n f))) w5 w6 y7 w8 y9 w10 w11 y12 y13 y14 y15 y16)):=by
 obtain⟨e,he,y7,y9,y12,y13,y14,y15,y16,rfl⟩:=a3I (g:=gN 7) (b:=cA) (n:=n) (fun r e=>∃y7 y9 y12 y13 y14 y15 y16,e=(F Z k w2 (.dat (.int (n:Int))) (.dat (dT (gm n n f))) w5 w6 y7 w8 y9 w10 w11 y12 y13 y14 y15 y16)) (env:=(F Z k w2 (.dat (.int (n:Int))) (.dat (dT (gm n n f))) w5 w6 w7 w8 w9 w10 w11 w12 w13 w14 w15 w16)) (fun r hr e ⟨y7,y9,y12,y13,y14,y15,y16,he⟩=>by
  subst he;obtain⟨z9,z12,z13,z14,z15,z16,hb⟩:=b9U (Z:=Z) (k:=k) (w2:=w2) (w5:=w5) (w6:=w6) (w8:=w8) (w9:=y9) (w10:=w10) (w11:=w11) (w12:=y12) (w13:=y13) (w14:=y14) (w15:=y15) (w16:=y16) h1 h6 T hr;exact⟨_,_,rfl,hb,.dat (.int (r:Int)),z9,z12,z13,z14,z15,z16,rfl⟩) ⟨_,_,_,_,_,_,_,rfl⟩
 exact⟨y7,y9,y12,y13,y14,y15,y16,he⟩
theorem b9V(h6:n≤6){i:Nat}:zB (F Z k w2 w3 w4 w5 w6 w7 w8 w9 (.dat (dR (rw' (n+1) (HH f i)))) (.dat (dR (rw' n fun j=>S (fun k=>f k j) i))) w12 w13 w14 w15 w16)=some (.nx,(F Z k w2 w3 w4 w5 w6 w7 w8 w9 (.dat (dR (rw' (n+1) (HH f i)))) (.dat (dR (rw' n fun j=>S (fun k=>f k j) i))) w12 w13 w14 w15 w16)):=by
 have hz:(a0q (z3_ (z0_ 10) (z3_ (mSl (z0_ 10) (a2M (mC (.int 1))) a2L) z6_))) (F Z k w2 w3 w4 w5 w6 w7 w8 w9 (.dat (dR (rw' (n+1) (HH f i)))) (.dat (dR (rw' n fun j=>S (fun k=>f k j) i))) w12 w13 w14 w15 w16)=some ((List.range n).map fun(j:Nat)=>D.tup [.int (HH f i j),.int (HH f i (j+1))],(F Z k w2 w3 w4 w5 w6 w7 w8 w9 (.dat (dR (rw' (n+1) (HH f i)))) (.dat (dR (rw' n fun j=>S (fun k=>f k j) i))) w12 w13 w14 w15 w16)):=by
  rw[←b9R];have hs:=a5w (m:=z0_ 10) (ml:=a2M (mC (.int 1))) (mh:=a2L) (e:=(F Z k w2 w3 w4 w5 w6 w7 w8 w9 (.dat (dR (rw' (n+1) (HH f i)))) (.dat (dR (rw' n fun j=>S (fun k=>f k j) i))) w12 w13 w14 w15 w16)) (xs:=(rw' (n+1) (HH f i)).map D.int) (lo:=some ((1:Nat):Int)) (hi:=none) rfl rfl rfl
  rw[b6B]at hs;unfold a0q;rw[x2_ rfl (x2_ hs rfl)]
  rfl
 have he:(rw' n fun j=>HH f i (j+1)-HH f i j)=rw' n fun j=>S (fun k=>f k j) i:=by
  unfold rw';refine Zb fun j hj=>?_
  rw[b8Y]
  omega
 have hq:dEq true (dR (rw' n fun j=>HH f i (j+1)-HH f i j)) (dR (rw' n fun j=>S (fun k=>f k j) i))=some (.bl false):=by
  rw[he,b9d]
  simp
 unfold zB;refine u6_ (j3_ (v3_ (g2_ (d:=dR (rw' n fun j=>HH f i (j+1)-HH f i j)) (x2_ (a1x (b0o (α:=Nat) (l:=List.range n) (q:=fun j=>.int (HH f i j)) (q2:=fun j=>.int (HH f i (j+1))) (f:=fun j=>.int (HH f i (j+1)-HH f i j)) (base:=[.nil,.nil,.nil,.nil,.nil,.nil,.nil,.nil,.nil,.nil,.nil,.nil,.nil,.nil,.nil,.nil,.nil]) hz (by simp;omega) rfl rfl (fun j hj=>rfl) (fun _ _=>rfl))) rfl) ?_) rfl hq)) rfl
 show some (D.tup _)=_;unfold dR rw';rw[Qa]
 rfl
theorem arrows(h6:n≤6):∃y10 y11,loop (gT 2 (gCn (gN 10) (gCn (gN 11) gNl))) zB ((List.range (n+1)).map fun i=>D.tup [dR (rw' (n+1) (HH f i)),dR (rw' n fun j=>S (fun k=>f k j) i)]) (F Z k w2 w3 w4 w5 w6 w7 w8 w9 w10 w11 w12 w13 w14 w15 w16)=some (.nx,(F Z k w2 w3 w4 w5 w6 w7 w8 w9 y10 y11 w12 w13 w14 w15 w16)):=by
 obtain⟨e,he,y10,y11,rfl⟩:=a9Q (g:=gT 2 (gCn (gN 10) (gCn (gN 11) gNl))) (b:=zB) (P:=fun e=>∃y10 y11,e=(F Z k w2 w3 w4 w5 w6 w7 w8 w9 y10 y11 w12 w13 w14 w15 w16)) (ds:=(List.range (n+1)).map fun i=>D.tup [dR (rw' (n+1) (HH f i)),dR (rw' n fun j=>S (fun k=>f k j) i)]) (env:=(F Z k w2 w3 w4 w5 w6 w7 w8 w9 w10 w11 w12 w13 w14 w15 w16)) (fun d hd e ⟨y10,y11,he⟩=>by
  subst he;obtain⟨i,_,rfl⟩:=Yq.mp hd;exact⟨_,_,rfl,b9V h6,_,_,rfl⟩) ⟨_,_,rfl⟩
 exact⟨y10,y11,he⟩
end
theorem b9W(ns:List Int)(k:Nat)(hk:k<1000)(w2 w3 w4 w5 w6 w7 w8 w9 w10 w11 w12 w13 w14 w15 w16:W):∃ws':List W,ws'.length=16/\b0 (F (.lst (ns.map .int)) k w2 w3 w4 w5 w6 w7 w8 w9 w10 w11 w12 w13 w14 w15 w16)=some (.nx,.dat (.lst (ns.map .int))::ws'):=by
 obtain⟨a,b,a0,est⟩:=b8C ns k hk;generalize D.lst (ns.map .int)=Z at *;obtain⟨v,a1,t1,p1,q1,a10⟩:=b9S (i:=2) (e:=(F Z k (.own [.int a,.bl b]) w3 w4 w5 w6 w7 w8 w9 w10 w11 w12 w13 w14 w15 w16)) (w:=.own [.int a,.bl b]) (k:=6) (M:=mC (.int 6)) rfl rfl rfl a0 (by decide) (by decide)
 obtain⟨n,hn⟩:∃n:Nat,(1:Int)+v=(n:Int):=⟨1+v.toNat,by omega⟩
 have h1:1≤n:=by omega
 have h6:n≤6:=by omega
 obtain⟨R,a2,et,a20,hR,hRn⟩:=b8W (a:=a1) (b:=b) a10 h1 h6;obtain⟨f,hf,T⟩:∃f,R=gm n n f/\TabF n f:=by
  have hg:=b9a (R:=R) (n:=n) hRn (fun r hr=>(hR.len r hr).trans hRn)
  refine⟨at2 R,hg,?_⟩;have ht:=hR.ok;rw[hg]at ht;exact(a3f.mp ht).2
 rw[hf]at et;have en:=b1n h1 h6 T;have ei:=b9E h1 h6 T;have eb:=b9l h1 h6 T;have eit:=a7W (dT (gm n n f));rw[a3f.mpr ⟨⟨h1,h6⟩,T⟩]at eit;obtain⟨ks,vs,_,C,ek⟩:=b9P h1 h6 T;obtain⟨ms,hms,hsum⟩:=C.ns;have hcA:=C.cnt KA;have hcB:=C.cnt KB;have hcnt:=b1x T n (Qu _);have hlen:(u7_ n f n).length=n * n:=b1v n;have et1:=b9Q h1 h6 T;have et2:=b1n h1 h6 T.fl;have hh:=b9G h1 h6 T;obtain⟨y7,y9,y12,y13,y14,y15,y16,l1⟩:=cells (Z:=Z) (k:=k) (w2:=.own [.int a2,.bl b]) (w5:=.dat (v8_ n f)) (w6:=.dat (.dct ks vs)) (w7:=w7) (w8:=w8) (w9:=w9) (w10:=w10) (w11:=w11) (w12:=w12) (w13:=w13) (w14:=w14) (w15:=w15) (w16:=w16) h1 h6 T;obtain⟨y10,y11,l2⟩:=arrows (Z:=Z) (k:=k) (n:=n) (f:=f) (w2:=.own [.int a2,.bl b]) (w3:=.dat (.int (n:Int))) (w4:=.dat (dT (gm n n f))) (w5:=.dat (v8_ n f)) (w6:=.dat (.dct ks vs)) (w7:=y7) (w8:=.dat (dT (gm (n+1) (n+1) (HH f)))) (w9:=y9) (w10:=w10) (w11:=w11) (w12:=y12) (w13:=y13) (w14:=y14) (w15:=y15) (w16:=y16) h6;have hs1:=b1y (a:=n+1) (b:=n) (fun i j=>S (fun k=>f k j) i) (by omega) (by omega) (by omega)
 have hs0:=b1y (a:=n) (b:=n+1) (fun i=>S (f i)) h1 (by omega) (by omega)
 have hN:v8_ n f=.tup [dT (acr n f),dT (dwn n f)]:=rfl
 have hpair:=a5g (b0Z (acr n fun i j=>f j i) (dwn n fun i j=>f j i) (gm n (n+1) fun i j=>S (fun k=>f k i) j) (gm (n+1) n fun i j=>S (f j) i))
 rw[Yr (show acr n (fun i j=>f j i)=gm n (n+1) fun i j=>S (fun k=>f k i) j from rfl),Yr (show dwn n (fun i j=>f j i)=gm (n+1) n fun i j=>S (f j) i from rfl)]at hpair
 have heq:dEq true (dT (gm n n f)) (dT (gm n n f))=some (.bl false):=by rw[b9e];simp
 have hzip:(a0q (z3_ (z0_ 8) (z3_ (z4_ dIx (z0_ 5) (mC (.int 1))) z6_))) (F Z k (.own [.int a2,.bl b]) (.dat (.int (n:Int))) (.dat (dT (gm n n f))) (.dat (v8_ n f)) (.dat (.dct ks vs)) y7 (.dat (dT (gm (n+1) (n+1) (HH f)))) y9 w10 w11 y12 y13 y14 y15 y16)=some ((List.range (n+1)).map fun i=>D.tup [dR (rw' (n+1) (HH f i)),dR (rw' n fun j=>S (fun k=>f k j) i)],F Z k (.own [.int a2,.bl b]) (.dat (.int (n:Int))) (.dat (dT (gm n n f))) (.dat (v8_ n f)) (.dat (.dct ks vs)) y7 (.dat (dT (gm (n+1) (n+1) (HH f)))) y9 w10 w11 y12 y13 y14 y15 y16):=
  b6E (a:=dT (gm (n+1) (n+1) (HH f))) (b:=dT (dwn n f)) (l:=List.range (n+1)) (p:=fun i=>dR (rw' (n+1) (HH f i))) (q:=fun i=>dR (rw' n fun j=>S (fun k=>f k j) i)) rfl (by show some ((gm (n+1) (n+1) (HH f)).map dR)=_;unfold gm;rw[Qa];rfl) (by show some ((dwn n f).map dR)=_;unfold dwn gm;rw[Qa];rfl)
 refine⟨[.dat (.int k),.own [.int a2,.bl b],.dat (.int (n:Int)),.dat (dT (gm n n f)),.dat (v8_ n f),.dat (.dct ks vs),y7,.dat (dT (gm (n+1) (n+1) (HH f))),y9,y10,y11,y12,y13,y14,y15,y16],rfl,?_⟩;unfold b0;refine y4_ (e1:=(F Z k (.own [.int a,.bl b]) w3 w4 w5 w6 w7 w8 w9 w10 w11 w12 w13 w14 w15 w16)) (b6G (e1:=(F Z k w2 w3 w4 w5 w6 w7 w8 w9 w10 w11 w12 w13 w14 w15 w16)) (a9S (a2f (av:=[.d Z,.d (.int k)]) rfl rfl rfl est)) rfl) ?_
 refine y4_ (e1:=(F Z k (.own [.int a1,.bl b]) (.dat (.int (n:Int))) w4 w5 w6 w7 w8 w9 w10 w11 w12 w13 w14 w15 w16)) (a1f (d:=.int (n:Int)) (e1:=(F Z k (.own [.int a1,.bl b]) w3 w4 w5 w6 w7 w8 w9 w10 w11 w12 w13 w14 w15 w16)) (v3_ rfl t1 (by show some (D.int ((1:Int)+v))=_;rw[hn])) rfl) ?_
 refine y4_ (e1:=(F Z k (.own [.int a2,.bl b]) (.dat (.int (n:Int))) (.dat (dT (gm n n f))) w5 w6 w7 w8 w9 w10 w11 w12 w13 w14 w15 w16)) (a1f (d:=dT (gm n n f)) (e1:=(F Z k (.own [.int a2,.bl b]) (.dat (.int (n:Int))) w4 w5 w6 w7 w8 w9 w10 w11 w12 w13 w14 w15 w16)) (a1d ((a4J (e1:=(F Z k (.own [.int a1,.bl b]) (.dat (.int (n:Int))) w4 w5 w6 w7 w8 w9 w10 w11 w12 w13 w14 w15 w16)) (w:=.own [.int a1,.bl b]) (av:=[.sl 2,.d (.int n)]) (i:=2) (c:=[.int a1,.bl b]) (c':=[.int a2,.bl b]) rfl rfl rfl rfl rfl et rfl).trans rfl)) rfl) ?_
 refine y4_ (e1:=(F Z k (.own [.int a2,.bl b]) (.dat (.int (n:Int))) (.dat (dT (gm n n f))) (.dat (v8_ n f)) w6 w7 w8 w9 w10 w11 w12 w13 w14 w15 w16)) (a1f (d:=v8_ n f) (e1:=(F Z k (.own [.int a2,.bl b]) (.dat (.int (n:Int))) (.dat (dT (gm n n f))) w5 w6 w7 w8 w9 w10 w11 w12 w13 w14 w15 w16)) (c1 rfl en) rfl) ?_
 refine y4_ (e1:=(F Z k (.own [.int a2,.bl b]) (.dat (.int (n:Int))) (.dat (dT (gm n n f))) (.dat (v8_ n f)) w6 w7 w8 w9 w10 w11 w12 w13 w14 w15 w16)) (u6_ (a6u (j3_ (v3_ (c1 rfl ei) rfl rfl)) (j3_ (v3_ (c1 rfl eb) rfl heq))) rfl) ?_
 refine y4_ (e1:=(F Z k (.own [.int a2,.bl b]) (.dat (.int (n:Int))) (.dat (dT (gm n n f))) (.dat (v8_ n f)) w6 w7 w8 w9 w10 w11 w12 w13 w14 w15 w16)) (u6_ (j3_ (v3_ (c1 rfl eit) rfl rfl)) rfl) ?_
 refine y4_ (e1:=(F Z k (.own [.int a2,.bl b]) (.dat (.int (n:Int))) (.dat (dT (gm n n f))) (.dat (v8_ n f)) (.dat (.dct ks vs)) w7 w8 w9 w10 w11 w12 w13 w14 w15 w16)) (a1f (d:=.dct ks vs) (e1:=(F Z k (.own [.int a2,.bl b]) (.dat (.int (n:Int))) (.dat (dT (gm n n f))) (.dat (v8_ n f)) w6 w7 w8 w9 w10 w11 w12 w13 w14 w15 w16)) (c1 rfl ek) rfl) ?_
 refine y4_ (e1:=(F Z k (.own [.int a2,.bl b]) (.dat (.int (n:Int))) (.dat (dT (gm n n f))) (.dat (v8_ n f)) (.dat (.dct ks vs)) w7 w8 w9 w10 w11 w12 w13 w14 w15 w16)) (u6_ (j3_ (v3_ (e1:=(F Z k (.own [.int a2,.bl b]) (.dat (.int (n:Int))) (.dat (dT (gm n n f))) (.dat (v8_ n f)) (.dat (.dct ks vs)) w7 w8 w9 w10 w11 w12 w13 w14 w15 w16)) (a:=.int (n * n:Nat)) (b:=.int ((n:Int) * n)) ?_ (v3_ (e1:=(F Z k (.own [.int a2,.bl b]) (.dat (.int (n:Int))) (.dat (dT (gm n n f))) (.dat (v8_ n f)) (.dat (.dct ks vs)) w7 w8 w9 w10 w11 w12 w13 w14 w15 w16)) rfl rfl (a3d (a4b (by omega) (by omega)))) ?_)) rfl) ?_
 ·show(ints? vs).map _=_
  rw[hms,a4L,Vf,hsum,hlen]
 ·rw[a3B]
  simp
 refine y4_ (e1:=(F Z k (.own [.int a2,.bl b]) (.dat (.int (n:Int))) (.dat (dT (gm n n f))) (.dat (v8_ n f)) (.dat (.dct ks vs)) w7 w8 w9 w10 w11 w12 w13 w14 w15 w16)) (u6_ (j3_ (v3_ (e1:=(F Z k (.own [.int a2,.bl b]) (.dat (.int (n:Int))) (.dat (dT (gm n n f))) (.dat (v8_ n f)) (.dat (.dct ks vs)) w7 w8 w9 w10 w11 w12 w13 w14 w15 w16)) (a:=.int ((u7_ n f n).count KA:Nat)) (b:=.int (((u7_ n f n).count KB:Nat)+(n:Int))) ?_ (v3_ (e1:=(F Z k (.own [.int a2,.bl b]) (.dat (.int (n:Int))) (.dat (dT (gm n n f))) (.dat (v8_ n f)) (.dat (.dct ks vs)) w7 w8 w9 w10 w11 w12 w13 w14 w15 w16)) (a:=.int ((u7_ n f n).count KB:Nat)) ?_ rfl rfl) ?_)) rfl) ?_
 ·show some ((lkD ks vs KA).getD (.int 0),_)=_
  rw[hcA]
 ·show some ((lkD ks vs KB).getD (.int 0),_)=_
  rw[hcB]
 ·rw[a3B]
  simp
  omega
 refine y4_ ((a1z (a3H (n:=n) rfl rfl (by omega))).trans l1) ?_
 refine y4_ (e1:=F Z k (.own [.int a2,.bl b]) (.dat (.int (n:Int))) (.dat (dT (gm n n f))) (.dat (v8_ n f)) (.dat (.dct ks vs)) y7 w8 y9 w10 w11 y12 y13 y14 y15 y16) (u6_ (j3_ (v3_ (a:=v8_ n fun i j=>f j i) (b:=dN (gm n (n+1) fun i j=>S (fun k=>f k i) j) (gm (n+1) n fun i j=>S (f j) i)) (c1 (a0O (av:=[.d (dT (gm n n f)),.d (.str "slant")]) rfl rfl rfl et1) et2) (b0q (x2_ (c1 (v3_ rfl rfl rfl) hs1) (x2_ (c1 (v3_ rfl rfl rfl) hs0) rfl)) (by simp)) hpair)) rfl) ?_
 refine y4_ (e1:=F Z k (.own [.int a2,.bl b]) (.dat (.int (n:Int))) (.dat (dT (gm n n f))) (.dat (v8_ n f)) (.dat (.dct ks vs)) y7 (.dat (dT (gm (n+1) (n+1) (HH f)))) y9 w10 w11 y12 y13 y14 y15 y16) (a1f (d:=dT (gm (n+1) (n+1) (HH f))) (e1:=F Z k (.own [.int a2,.bl b]) (.dat (.int (n:Int))) (.dat (dT (gm n n f))) (.dat (v8_ n f)) (.dat (.dct ks vs)) y7 w8 y9 w10 w11 y12 y13 y14 y15 y16) (c1 rfl hh) rfl) ?_
 exact(a1z hzip).trans l2
theorem b9X:∀ns:List Int,ns.length≤63->∃ws',a4W [.dat (.lst (ns.map D.int))]=some (.d (.bl true),ws'):=by
 intro ns hns;refine b6C (C:=6) (N:=15) (by decide) (by decide) (fun k hk ws hw=>?_) fun ws hw=>?_
 ·match ws,hw with
  |[w2,w3,w4,w5,w6,w7,w8,w9,w10,w11,w12,w13,w14,w15,w16],_=>exact b9W ns k hk w2 w3 w4 w5 w6 w7 w8 w9 w10 w11 w12 w13 w14 w15 w16
 ·exact⟨_,rfl⟩
end K23
namespace K23
open L2 L2.Mir PySem
abbrev md0:Value:=.str "turnsigns.grids" 271
abbrev md1:Value:=.str "turnsigns.tables" 350
abbrev md2:Value:=.str "turnsigns.nets" 390
abbrev md3:Value:=.str "turnsigns.turned" 471
abbrev md4:Value:=.str "law_turnsigns_k23_whole_nets" 576
theorem b9Y{P:Program}(w:World)(mg:OU)(fa:Addr)(h:Heap)(X:(hK w.params).In h)(G:h.Ns mainGlobals mg)(hfa:mg "law"=some (.ref fa)):
 ∃fd:FuncData,(∀(s:Shared) (v:Value),BindsTo s fd ⟨[v],[]⟩ [("_law_script",v)])/\∀base:Heap,(hK w.params).In base->base.Ns mainGlobals mg->FnOk P w (hK w.params) mg base CX0 8 fa fd ["_law_script"] (SpF (hK w.params) 1 a4W):=by
 have⟨A1,A2,A3,A4,A5,A6,A7,A8,A9,A10,A11,A12,A13,A14,A15,A16,A17,A18,A19,A20,A21,A22,A23,A24,A25,A26,A27,A28,A29,A30,A31,A32,A33,A34,A35,A36,A37,A38,A39,A40,A41,A42,A43,A44,A45⟩:DfAt (hK w.params) "is_whole" a6w 82 md0 81/\DfAt (hK w.params) "is_within" a6x 89 md0 88/\DfAt (hK w.params) "is_row" a6y 94 md0 93/\DfAt (hK w.params) "is_grid" a6z 99 md0 98/\DfAt (hK w.params) "is_square" a6A 106 md0 105/\DfAt (hK w.params) "flipped" a6B 111 md0 110/\DfAt (hK w.params) "running_sums" a6C 118 md0 117/\DfAt (hK w.params) "rises" a6D 123 md0 122/\DfAt (hK w.params) "sums_across" a6E 128 md0 127/\DfAt (hK w.params) "sums_down" a6F 135 md0 134/\DfAt (hK w.params) "rises_across" a6G 140 md0 139/\DfAt (hK w.params) "takes_turns" a6H 147 md1 146/\DfAt (hK w.params) "is_table" a6I 152 md1 151/\DfAt (hK w.params) "must_be_table" a6J 159 md1 158/\DfAt (hK w.params) "summed" a6K 166 md1 165/\DfAt (hK w.params) "heights_of" a6L 173 md1 172/\DfAt (hK w.params) "spun" a6M 180 md2 179/\DfAt (hK w.params) "has_net_shape" a6N 187 md2 186/\DfAt (hK w.params) "net_of" a6O 194 md2 193/\DfAt (hK w.params) "is_net" a6P 201 md2 200/\DfAt (hK w.params) "table_of_net" a6Q 208 md2 207/\DfAt (hK w.params) "is_place" a6R 215 md2 214/\DfAt (hK w.params) "kind_in" a6S 222 md2 221/\DfAt (hK w.params) "kind_at" a6T 229 md2 228/\DfAt (hK w.params) "kinds_of" a6U 236 md2 235/\DfAt (hK w.params) "stayed" a6V 243 md3 242/\DfAt (hK w.params) "turned_left" a6W 250 md3 249/\DfAt (hK w.params) "turned_half" a6X 257 md3 256/\DfAt (hK w.params) "turned_right" a6Y 264 md3 263/\DfAt (hK w.params) "told_upright" a6Z 269 md3 268/\DfAt (hK w.params) "told_flat" a7a 276 md3 275/\DfAt (hK w.params) "told_slant" a7b 283 md3 282/\DfAt (hK w.params) "told_other" a7c 290 md3 289/\DfAt (hK w.params) "is_turn" a7d 298 md3 297/\DfAt (hK w.params) "must_be_turn" a7e 305 md3 304/\DfAt (hK w.params) "brought" a7f 312 md3 311/\DfAt (hK w.params) "turned" a7g 319 md3 318/\DfAt (hK w.params) "_law_cell_at" a7h 326 md4 325/\DfAt (hK w.params) "_law_state" a7i 333 md4 332/\DfAt (hK w.params) "_law_take" a7j 340 md4 339/\DfAt (hK w.params) "_law_rows" a7k 345 md4 344/\DfAt (hK w.params) "_law_held" a7l 350 md4 349/\DfAt (hK w.params) "_law_table" a7m 355 md4 354/\DfAt (hK w.params) "_law_slant" a7n 360 md4 359/\DfAt (hK w.params) "law" a2R 365 md4 364:=by refine⟨?_,?_,?_,?_,?_,?_,?_,?_,?_,?_,?_,?_,?_,?_,?_,?_,?_,?_,?_,?_,?_,?_,?_,?_,?_,?_,?_,?_,?_,?_,?_,?_,?_,?_,?_,?_,?_,?_,?_,?_,?_,?_,?_,?_,?_⟩<;>constructor<;>kernel_rfl
 have e:=hfa.symm.trans (Yw X G A45.a)
 cases e;have T:Txt (hK w.params) mg:=⟨Zv X G (by kernel_rfl),Zv X G (by kernel_rfl),Zv X G (by kernel_rfl),Zv X G (by kernel_rfl),Zv X G (by kernel_rfl),Zv X G (by kernel_rfl),Zv X G (by kernel_rfl),Zv X G (by kernel_rfl),Zv X G (by kernel_rfl),Zv X G (by kernel_rfl),Zv X G (by kernel_rfl),Zv X G (by kernel_rfl),⟨_,A33.a,A33.g X G,a1A (by kernel_rfl)⟩,⟨_,A32.a,A32.g X G,a1A (by kernel_rfl)⟩,⟨_,A31.a,A31.g X G,a1A (by kernel_rfl)⟩,⟨_,A30.a,A30.g X G,a1A (by kernel_rfl)⟩,⟨_,A29.a,A29.g X G,a1A (by kernel_rfl)⟩,⟨_,A28.a,A28.g X G,a1A (by kernel_rfl)⟩,⟨_,A27.a,A27.g X G,a1A (by kernel_rfl)⟩,⟨_,A26.a,A26.g X G,a1A (by kernel_rfl)⟩,⟨352,Yw X G (by kernel_rfl)⟩⟩
 have b1:=A1.f.binds (ps:=["thing"]) fun _ _ _ _ _ _=>us1 fun _=>rfl
 have b2:=A2.f.binds (ps:=["thing","least","greatest"]) fun _ _ _ _ _ _=>us3 fun _ _ _=>rfl
 have b3:=A3.f.binds (ps:=["thing","width"]) fun _ _ _ _ _ _=>us2 fun _ _=>rfl
 have b4:=A4.f.binds (ps:=["thing","many","width"]) fun _ _ _ _ _ _=>us3 fun _ _ _=>rfl
 have b5:=A5.f.binds (ps:=["thing","least","greatest"]) fun _ _ _ _ _ _=>us3 fun _ _ _=>rfl
 have b6:=A6.f.binds (ps:=["grid"]) fun _ _ _ _ _ _=>us1 fun _=>rfl
 have b7:=A7.f.binds (ps:=["row"]) fun _ _ _ _ _ _=>us1 fun _=>rfl
 have b8:=A8.f.binds (ps:=["row"]) fun _ _ _ _ _ _=>us1 fun _=>rfl
 have b9:=A9.f.binds (ps:=["grid"]) fun _ _ _ _ _ _=>us1 fun _=>rfl
 have b10:=A10.f.binds (ps:=["grid"]) fun _ _ _ _ _ _=>us1 fun _=>rfl
 have b11:=A11.f.binds (ps:=["grid"]) fun _ _ _ _ _ _=>us1 fun _=>rfl
 have b12:=A12.f.binds (ps:=["line"]) fun _ _ _ _ _ _=>us1 fun _=>rfl
 have b13:=A13.f.binds (ps:=["thing"]) fun _ _ _ _ _ _=>us1 fun _=>rfl
 have b14:=A14.f.binds (ps:=["thing"]) fun _ _ _ _ _ _=>us1 fun _=>rfl
 have b15:=A15.f.binds (ps:=["table"]) fun _ _ _ _ _ _=>us1 fun _=>rfl
 have b16:=A16.f.binds (ps:=["table"]) fun _ _ _ _ _ _=>us1 fun _=>rfl
 have b17:=A17.f.binds (ps:=["table"]) fun _ _ _ _ _ _=>us1 fun _=>rfl
 have b18:=A18.f.binds (ps:=["thing"]) fun _ _ _ _ _ _=>us1 fun _=>rfl
 have b19:=A19.f.binds (ps:=["table"]) fun _ _ _ _ _ _=>us1 fun _=>rfl
 have b20:=A20.f.binds (ps:=["thing"]) fun _ _ _ _ _ _=>us1 fun _=>rfl
 have b21:=A21.f.binds (ps:=["net"]) fun _ _ _ _ _ _=>us1 fun _=>rfl
 have b22:=A22.f.binds (ps:=["thing","side"]) fun _ _ _ _ _ _=>us2 fun _ _=>rfl
 have b23:=A23.f.binds (ps:=["net","row","column"]) fun _ _ _ _ _ _=>us3 fun _ _ _=>rfl
 have b24:=A24.f.binds (ps:=["table","row","column"]) fun _ _ _ _ _ _=>us3 fun _ _ _=>rfl
 have b25:=A25.f.binds (ps:=["table"]) fun _ _ _ _ _ _=>us1 fun _=>rfl
 have b26:=A26.f.binds (ps:=["table"]) fun _ _ _ _ _ _=>us1 fun _=>rfl
 have b27:=A27.f.binds (ps:=["table"]) fun _ _ _ _ _ _=>us1 fun _=>rfl
 have b28:=A28.f.binds (ps:=["table"]) fun _ _ _ _ _ _=>us1 fun _=>rfl
 have b29:=A29.f.binds (ps:=["table"]) fun _ _ _ _ _ _=>us1 fun _=>rfl
 have b30:=A30.f.binds (ps:=["table"]) fun _ _ _ _ _ _=>us1 fun _=>rfl
 have b31:=A31.f.binds (ps:=["table"]) fun _ _ _ _ _ _=>us1 fun _=>rfl
 have b32:=A32.f.binds (ps:=["table"]) fun _ _ _ _ _ _=>us1 fun _=>rfl
 have b33:=A33.f.binds (ps:=["table"]) fun _ _ _ _ _ _=>us1 fun _=>rfl
 have b34:=A34.f.binds (ps:=["thing"]) fun _ _ _ _ _ _=>us1 fun _=>rfl
 have b35:=A35.f.binds (ps:=["thing"]) fun _ _ _ _ _ _=>us1 fun _=>rfl
 have b36:=A36.f.binds (ps:=["table","turn"]) fun _ _ _ _ _ _=>us2 fun _ _=>rfl
 have b37:=A37.f.binds (ps:=["table","turn"]) fun _ _ _ _ _ _=>us2 fun _ _=>rfl
 have b38:=A38.f.binds (ps:=["_law_script","_law_k"]) fun _ _ _ _ _ _=>us2 fun _ _=>rfl
 have b39:=A39.f.binds (ps:=["_law_script","_law_k"]) fun _ _ _ _ _ _=>us2 fun _ _=>rfl
 have b40:=A40.f.binds (ps:=["_law_state_here","_law_many"]) fun _ _ _ _ _ _=>us2 fun _ _=>rfl
 have b41:=A41.f.binds (ps:=["_law_held_here"]) fun _ _ _ _ _ _=>us1 fun _=>rfl
 have b42:=A42.f.binds (ps:=["_law_held_here","_law_row"]) fun _ _ _ _ _ _=>us2 fun _ _=>rfl
 have b43:=A43.f.binds (ps:=["_law_state_here","_law_side"]) fun _ _ _ _ _ _=>us2 fun _ _=>rfl
 have b44:=A44.f.binds (ps:=["_law_rows_here"]) fun _ _ _ _ _ _=>us1 fun _=>rfl
 have b45:=A45.f.binds (ps:=["_law_script"]) fun _ _ _ _ _ _=>us1 fun _=>rfl
 refine⟨PySem.W.fnOf "law" "law" (a1O a2R) (a0W a2R) (v5_ a2R) .none .none .none (.str "law_turnsigns_k23_whole_nets" 576) none (.ref 364) .none,fun s v=>.of_eq rfl,fun base _ _=>?_⟩
 have k_TURNS:DfG P w (hK w.params) mg "TURNS" [("stay","stayed"),("left","turned_left"),("half","turned_half"),("right","turned_right"),("upright","told_upright"),("flat","told_flat"),("slant","told_slant"),("other","told_other")]:=b6m (es:=[HG.hE w.params "stay" 528 (.ref 243),HG.hE w.params "left" 529 (.ref 250),HG.hE w.params "half" 530 (.ref 257),HG.hE w.params "right" 531 (.ref 264),HG.hE w.params "upright" 532 (.ref 269),HG.hE w.params "flat" 533 (.ref 276),HG.hE w.params "slant" 534 (.ref 283),HG.hE w.params "other" 535 (.ref 290)]) (ep:=8) (Yw X G (v:=.ref 291) (by kernel_rfl)) (by kernel_rfl) (by decide) (.cons ⟨_,rfl⟩ rfl rfl (Yw X G (v:=.ref 243) (by kernel_rfl)) (.cons ⟨_,rfl⟩ rfl rfl (Yw X G (v:=.ref 250) (by kernel_rfl)) (.cons ⟨_,rfl⟩ rfl rfl (Yw X G (v:=.ref 257) (by kernel_rfl)) (.cons ⟨_,rfl⟩ rfl rfl (Yw X G (v:=.ref 264) (by kernel_rfl)) (.cons ⟨_,rfl⟩ rfl rfl (Yw X G (v:=.ref 269) (by kernel_rfl)) (.cons ⟨_,rfl⟩ rfl rfl (Yw X G (v:=.ref 276) (by kernel_rfl)) (.cons ⟨_,rfl⟩ rfl rfl (Yw X G (v:=.ref 283) (by kernel_rfl)) (.cons ⟨_,rfl⟩ rfl rfl (Yw X G (v:=.ref 290) (by kernel_rfl)) (.nil)))))))))
 have d_is_whole:=dM P w base (b6J A1.f T ) A1 X G b1
 have d_is_within:=dM P w base (b6L A2.f T d_is_whole) A2 X G b2
 have d_is_row:=dM P w base (b6N A3.f T d_is_whole) A3 X G b3
 have d_is_grid:=dM P w base (b6P A4.f T d_is_row) A4 X G b4
 have d_is_square:=dM P w base (b6R A5.f T d_is_grid) A5 X G b5
 have d_flipped:=dM P w base (b6T A6.f T ) A6 X G b6
 have d_running_sums:=dM P w base (b6U A7.f T ) A7 X G b7
 have d_rises:=dM P w base (b6W A8.f T ) A8 X G b8
 have d_sums_across:=dM P w base (b6Y A9.f T d_running_sums) A9 X G b9
 have d_sums_down:=dM P w base (b7a A10.f T d_flipped d_sums_across) A10 X G b10
 have d_rises_across:=dM P w base (b7c A11.f T d_rises) A11 X G b11
 have d_takes_turns:=dM P w base (b7d A12.f T ) A12 X G b12
 have d_is_table:=dM P w base (b7f A13.f T d_is_square d_takes_turns d_flipped) A13 X G b13
 have d_must_be_table:=dM P w base (b7h A14.f T d_is_table) A14 X G b14
 have d_summed:=dM P w base (b7j A15.f T d_sums_across d_sums_down) A15 X G b15
 have d_heights_of:=dM P w base (b7l A16.f T d_must_be_table d_summed) A16 X G b16
 have d_spun:=dM P w base (b7n A17.f T d_sums_across d_sums_down) A17 X G b17
 have d_has_net_shape:=dM P w base (b7o A18.f T d_is_grid) A18 X G b18
 have d_net_of:=dM P w base (b7q A19.f T d_must_be_table d_spun) A19 X G b19
 have d_is_net:=dM P w base (b7r A20.f T d_rises_across d_has_net_shape d_is_table d_spun) A20 X G b20
 have d_table_of_net:=dM P w base (b7t A21.f T d_rises_across d_is_net) A21 X G b21
 have d_is_place:=dM P w base (b7v A22.f T d_is_within) A22 X G b22
 have d_kind_in:=dM P w base (b7w A23.f T ) A23 X G b23
 have d_kind_at:=dM P w base (b7y A24.f T d_must_be_table d_kind_in d_is_place d_spun) A24 X G b24
 have d_kinds_of:=dM P w base (b7z A25.f T d_must_be_table d_spun d_kind_in) A25 X G b25
 have d_stayed:=dM P w base (b7C A26.f T ) A26 X G b26
 have d_turned_left:=dM P w base (b7E A27.f T d_flipped) A27 X G b27
 have d_turned_half:=dM P w base (b7G A28.f T d_turned_left) A28 X G b28
 have d_turned_right:=dM P w base (b7I A29.f T d_turned_left d_turned_half) A29 X G b29
 have d_told_upright:=dM P w base (b7K A30.f T ) A30 X G b30
 have d_told_flat:=dM P w base (b7M A31.f T ) A31 X G b31
 have d_told_slant:=dM P w base (b7O A32.f T d_flipped) A32 X G b32
 have d_told_other:=dM P w base (b7Q A33.f T d_turned_half d_told_slant) A33 X G b33
 have d_is_turn:=dM P w base (b7S A34.f T k_TURNS) A34 X G b34
 have d_must_be_turn:=dM P w base (b7U A35.f T d_is_turn) A35 X G b35
 have d_brought:=dM P w base (b7V A36.f T d_stayed d_turned_left d_turned_half d_turned_right d_told_upright d_told_flat d_told_slant d_told_other k_TURNS) A36 X G b36
 have d_turned:=dM P w base (b7X A37.f T d_must_be_table d_must_be_turn d_brought) A37 X G b37
 have d__law_cell_at:=dM P w base (b7Z A38.f T ) A38 X G b38
 have d__law_state:=dM P w base (b8a A39.f T d__law_cell_at) A39 X G b39
 have d__law_take:=dM P w base (b8b A40.f T ) A40 X G b40
 have d__law_rows:=dM P w base (b8d A41.f T ) A41 X G b41
 have d__law_held:=dM P w base (b8f A42.f T ) A42 X G b42
 have d__law_table:=dM P w base (b8i A43.f T d__law_take d__law_rows d__law_held) A43 X G b43
 have d__law_slant:=dM P w base (b8n A44.f T ) A44 X G b44
 exact b8p A45.f T d__law_state d__law_table d_net_of d_kinds_of d_heights_of d__law_take d_is_table d_is_net d_table_of_net d_kind_at d_turned d__law_slant
end K23
open PySem PySem.W PyProof.Rows
set_option maxRecDepth 100000 in
set_option maxHeartbeats 0 in
theorem PySem.Challenge.cw_turnsigns_k23_whole_nets_holds : PySem.Challenge.rw_turnsigns_k23_whole_nets.Holds := by
 o_law
 refine PySem.W.holds_open (r:=PySem.Challenge.rw_turnsigns_k23_whole_nets.row) (q:=K23.hQ) (loose:=["TURNS"]) (Xt:=fun s=>xlAt K23.hQ [] s && recOk [] s) (XP:=XL K23.hQ []) (Yf:=Hook.obs K23.hHk) (Ya:=Hook.val K23.hHk) (YP:=Hook.says K23.hHk) (d:=K23.hDr) (kwd:=[]) (N:=5202) K23.hlf (Hook.of K23.hHk) (Hook.keeps K23.hHk) (fun s e=>xl_of s (Bool.and_eq_true_iff.mp e).1) XL.keeps (by kernel_rfl) (by kernel_rfl) (by kernel_rfl) (fun s e=>recFacts_of (Bool.and_eq_true_iff.mp e).2) rfl (by assumption) (by decide+kernel) ⟨rfl,rfl,rfl,rfl,rfl,by decide+kernel⟩ ⟨[.list []],by decide+kernel,by decide+kernel⟩ ?hc
 exact L2.Mir.b5B (l:=PySem.Challenge.rw_turnsigns_k23_whole_nets) (k:=8) (x := "_law_script") (fn:=K23.a4W) rfl rfl ⟨rfl,by decide,by decide⟩ (fun w h Y=>PySem.W.km_in_of Y) K23.b9Y K23.b9X
