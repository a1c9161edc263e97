import PyProof.Rows.All
import Wide.All
import OpenK.AllK
import Wide.FinOn
import Lean
import PyProof.EqAt
import PyProof.EqKinds
import PyProof.TupleCall
import PySem.Challenge.RW_turnsigns_k94_desk_refuses
set_option Elab.async false
set_option linter.all false
set_option maxRecDepth 100000
set_option maxHeartbeats 0
local macro_rules | `(tactic|rfl')=>`(tactic|decide +kernel)
abbrev Qq:=PySem.W.Frag
abbrev Qz:=@PySem.wpAny_bind
abbrev Qj:=@PySem.Heap.get?_push_of_some
abbrev Qx:=@PySem.wpAny_pure
abbrev Qk:=@PySem.Heap.lt_size
abbrev Qv:=@Nat.le_refl
abbrev Qw:=@PySem.Heap.get?_push_size
abbrev Qy:=@List.getElem?_eq_some_iff
abbrev Qu:=@Nat.lt_of_lt_of_le
abbrev Qp:=@List.getElem?_set_ne
abbrev Qb:=@PySem.wpAny_mono
abbrev Qg:=@List.mem_cons
abbrev Qh:=@Nat.ne_of_lt
abbrev Qm:=@List.mem_append_right
abbrev Qn:=@PySem.W.mg_of
abbrev Qc:=@List.size_toArray
abbrev Ql:=@List.length_map
abbrev Qd:=@if_neg
abbrev Qr:=@Bool.and_eq_true
abbrev Qs:=@Option.bind_some
abbrev Qi:=@List.mem_cons_of_mem
abbrev Qt:=@if_pos
abbrev Qa:=@Ne.symm
abbrev Qe:=@Nat.le_trans
abbrev Qo:=@PySem.mem_of_lookup
abbrev Zq:=@List.length_append
abbrev Zz:=@Bool.false_eq_true
abbrev Zj:=@PySem.wpAny_field
abbrev Zx:=@List.not_mem_nil
abbrev Zk:=@PySem.W.kia_one
abbrev Zv:=@PySem.W.mg_none_of
abbrev Zw:=@List.getElem?_set_self
abbrev Zy:=@PySem.Heap.size_push
abbrev Zu:=@List.map_cons
abbrev Zp:=@List.length_set
abbrev Zb:=@Option.some.injEq
abbrev Zg:=@List.length_replicate
abbrev Zf:=@PyProof.Rows.slot_tuple_getitem
abbrev Zh:=@PySem.wpAny_callSpecial?_slot
abbrev Zm:=@Bool.false_ne_true
abbrev Zn:=@PySem.wpAny_truthy_bool
abbrev Zc:=@List.getElem?_map
abbrev Zl:=@Option.isSome_iff_exists
abbrev Zd:=@if_true
abbrev Zr:=@PySem.F.slot_zip_next
abbrev Zs:=@Option.some.inj
abbrev Zi:=@PySem.wpAny_Call_Name_kw
abbrev Zt:=@List.length_cons
abbrev Za:=@Nat.lt_irrefl
abbrev Ze:=@PySem.Heap.get?_update_other
abbrev Zo:=@PySem.wpAny_seqItems
abbrev Yq:=@PySem.wpAny_newObj_type
abbrev Yz:=@if_false
abbrev Yj:=@List.length_zipWith
abbrev Yx:=@List.mem_cons_self
abbrev Yk:=@PySem.wpAny_call_entry
abbrev Yv:=@List.all_eq_true
abbrev Yw:=@PySem.W.Fast.te14364793385576792824
abbrev Yy:=@congrArg
abbrev Yu:=@or_false
abbrev Yp:=@PyProof.Rows.callWith_type1
abbrev Yb:=@Nat.zero_le
abbrev Yg:=@PySem.SeqAt.canLay_of_shaped
abbrev Yh:=@List.length_take
abbrev Ym:=@PySem.F.slot_tuple_iterator_next
abbrev Yn:=@PySem.Heap.get?_update_self
abbrev Yc:=@PySem.wpAny_setField_rec
abbrev Yl:=@List.getElem?_append_left
abbrev Yd:=@decide_eq_false
abbrev Yr:=@List.append_nil
abbrev Ys:=@List.mem_of_getElem?
abbrev Yi:=@List.find?_cons
abbrev Yt:=@PySem.wpAny_holding
abbrev Ye:=@PySem.wpAny_standAt
abbrev Yo:=@List.getElem?_replicate
abbrev Jq:=@List.filterMap_cons
abbrev Jz:=@List.getElem?_zipWith
abbrev Jj:=@congrFun
abbrev Jx:=@Nat.lt_succ_of_lt
abbrev Jk:=@Nat.le_of_succ_le
abbrev Jv:=@List.drop_eq_getElem_cons
abbrev Jw:=@PySem.F.slot_dict_getitem
abbrev Jy:=@Prod.ext
abbrev Ju:=@Nat.le_of_lt
abbrev Jp:=@PySem.wpAny_comprehension_free
abbrev Jb:=@beq_eq_false_iff_ne
abbrev Jg:=@Array.length_toList
abbrev Jf:=@PySem.F.args_zip_next_1
abbrev Jh:=@PySem.pushCells_keeps
abbrev Jm:=@PySem.wpAny_rule
abbrev Jn:=@PySem.W.cellsFrom_some
abbrev Jc:=@PySem.F.entry_zip_next
abbrev Jl:=@List.take_of_length_le
abbrev Jd:=@PySem.W.kitx_dict
abbrev Jr:=@decide_eq_true_eq
abbrev Js:=@Nat.ne_of_gt
abbrev Ji:=@List.forIn_nil
abbrev Jt:=@PySem.Calls.evalArgs_plain
abbrev Ja:=@PySem.wpAny_execs_nil
abbrev Je:=@PySem.wpAny_passesOwn
abbrev Jo:=@PySem.codeAny_mono
abbrev Uq:=@Nat.lt_of_le_of_lt
abbrev Uz:=@PySem.F.args_tuple_add_2
abbrev Uj:=@PySem.Obj.data_mapFields
abbrev Ux:=@List.getElem?_eq_getElem
abbrev Uk:=@PySem.F.entry_tuple_add
abbrev Uv:=@List.length_eq_zero_iff
abbrev Uw:=@PySem.wpAny_assign_Name
abbrev Uy:=@Int.toNat_natCast
abbrev Uu:=@PySem.wpAny_pyIter_list
abbrev Up:=@PySem.F.args_tuple_iterator_next_1
abbrev Ub:=@Bool.not_eq_true'
abbrev Ug:=@PySem.wpAny_Call_method_late
abbrev Uh:=@PySem.Calls.callWith_builtin
abbrev Um:=@PySem.F.slot_tuple_add
abbrev Uc:=@PySem.F.entry_tuple_iterator_next
abbrev Ul:=@PySem.wpAny_onRaise
abbrev Ud:=@List.drop_length
abbrev Ur:=@Nat.le_add_right
abbrev Us:=@LawfulMonad.pure_bind
abbrev Ui:=@List.nodup_cons
abbrev Ut:=@List.of_mem_zip
abbrev Ua:=@List.map_nil
abbrev Ue:=@List.forIn_cons
abbrev Uo:=@PySem.wpAny_updateSeq_pair
abbrev Vq:=@PySem.codeAny_builtin
abbrev Vz:=@PySem.wpAny_setField
abbrev Vj:=@PySem.boot_len
abbrev Vx:=@PySem.wpAny_pyIter_tuple
abbrev Vk:=@PySem.wpAny_attempt
abbrev Vv:=@PySem.W.kitx_list
abbrev Vw:=@List.append_assoc
abbrev Vy:=@Nat.le_of_eq
abbrev Vu:=@Nat.lt_succ_self
abbrev Vp:=@Nat.min_le_right
abbrev Vb:=@Nat.lt_trans
abbrev Vg:=@List.mem_append
abbrev OO:=List (List Int)
abbrev OI:=PySem.Str->Option PySem.Value
abbrev OU:=PySem.Value->PySem.Shared->Prop
abbrev OE:=PySem.Addr->Prop
abbrev OA:=List (PySem.Addr×PySem.Obj)
namespace HG
open PySem PySem.W PySem.Calls PyProof.Rows
noncomputable def nN {α:Type}(l:List α) (i:Nat) (d:α):α:=@List.rec α (fun _=>Nat->α) (fun _=>d) (fun a _ ih i=>@Nat.rec (fun _=>α) a (fun j _=>ih j) i) l i
def nO(s:Stmt):Str:=match s with
 |.FunctionDef n ..=>n
 |.ClassDef n ..=>n
 |_=>Str.empty
def sF(s:Stmt):Arguments:=match s with
 |.FunctionDef _ a ..=>a
 |_=>default
def sG(s:Stmt):List Stmt:=match s with
 |.FunctionDef _ _ b ..=>b
 |.ClassDef _ _ _ b ..=>b
 |_=>[]
def sH(s:Stmt):Scope:=match s with
 |.FunctionDef _ _ _ _ _ _ c ..=>c
 |_=>default
def tG(s:Stmt):Pos:=match s with
 |.FunctionDef _ _ _ _ _ _ _ _ _ p=>p
 |_=>⟨0,0,0,0⟩
def m9{α:Sort u}(_:α):Bool:=true
def hE(P:Params)(x:Str)(t:Tok)(v:Value):DictEntry:=⟨PyData.keyHash P x,.str x t,v⟩
def hZ:Obj:=⟨.type "tuple",none,.seq ⟨[]⟩ 0,⟨[]⟩⟩
def hU(l:List Value):Obj:=⟨.type "tuple",none,.seq ⟨l⟩ 0,⟨[]⟩⟩
def hN:Obj:=⟨.none,none,.fields ⟨[]⟩,⟨[]⟩⟩
def hC(n:Str)(t t2:Nat)(ln na fl:Int)(a:Addr)(g:Bool)(b:Addr)(v1 v2 v3 v4:Value):Obj:=
 ⟨.type "code",none,.fields ⟨[.str n t,.str n (Nat.add t 1),.str "/claim/cut.py" (Nat.add t 2),.int ln 0,.int na 0,.int 0 0,.int 0 0,.int fl 0,.ref a,.bool g,.int 181 0,.ref b,v1,v2,v3,v4,.int (Int.ofNat t2) 0,.int ln 0,.str "/claim/cut.py" (Nat.add t2 1)]⟩,⟨[]⟩⟩
def hX(s:Stmt)(q:Str)(g:Addr)(cl:List (Str×Addr))(d k dc m:Value)(an:Option Addr)(c ct:Value)(b:Addr):FuncData:=
 ⟨nO s,q,sF s,.stmts (sG s),sH s,g,cl,d,k,dc,m,an,c,ct,b⟩
def hR(s:Stmt):Obj:=⟨.none,none,.func (hX s (nO s) 0 [] .none .none .none .none none .none .none 0),⟨[]⟩⟩
def hF(s:Stmt)(m c:Value):Obj:=⟨.type "function",none,.func (hX s (nO s) 3 [] .none .none .none m none c .none 0),⟨[]⟩⟩
def j9(s:Stmt)(a t:Nat)(ln na:Int)(m:Value):List Obj:=[hZ,hN,hR s,hC (nO s) t (Nat.add t 3) ln na 3 a true (Nat.add a 1) .none .none .none (.ref (Nat.add a 2)),hF s m (.ref (Nat.add a 3))]
noncomputable def tH (l:List Str) (t:Nat):List Value:=@List.rec Str (fun _=>Nat->List Value) (fun _=>[]) (fun x _ ih t=>.str x t::ih (Nat.succ t)) l t
noncomputable def iQ (s:Stmt) (a t:Nat) (ln na:Int) (m:Value) (l:List Str):List Obj:=[hZ,hN,hU (tH l (Nat.add t 3)),hZ,hR s,hC (nO s) t (Nat.add (Nat.add t 3) l.length) ln na 3 a true (Nat.add a 1) .none (.ref (Nat.add a 2)) (.ref (Nat.add a 3)) (.ref (Nat.add a 4)),hF s m (.ref (Nat.add a 5))]
def nA(P:Params)(s:Stmt)(a t:Nat)(ln:Int)(m:Value):List Obj:=
 [⟨.type "builtin_function_or_method",none,.fields ⟨[.builtin "type.__prepare__",.type "type"]⟩,⟨[]⟩⟩,
  ⟨.type "dict",none,.dict ⟨[hE P "__module__" (Nat.add t 7) m,hE P "__qualname__" (Nat.add t 9) (.str (nO s) (Nat.add t 8)),hE P "__firstlineno__" (Nat.add t 11) (.int ln (Nat.add t 10)),hE P "__static_attributes__" (Nat.add t 12) (.ref (Nat.add a 6))]⟩ 4,⟨[]⟩⟩,
  hZ,hN,hC (nO s) (Nat.add t 2) (Nat.add t 5) ln 0 0 (Nat.add a 2) false (Nat.add a 3) .none .none .none .none,
  ⟨.type "frame",none,.plain,⟨[some (.ref (Nat.add a 4)),some (.ref 3),some (.ref (Nat.add a 1)),none,some m,none,some (.ref 0)]⟩⟩,hZ,
  ⟨.type "dict",none,.dict ⟨[hE P "__module__" (Nat.add t 7) m,hE P "__firstlineno__" (Nat.add t 11) (.int ln (Nat.add t 10)),hE P "__static_attributes__" (Nat.add t 12) (.ref (Nat.add a 6)),hE P "__doc__" (Nat.add t 13) .none]⟩ 2,⟨[]⟩⟩,
  ⟨.type "type",none,.cls ⟨nO s,[.ref 24],[.ref (Nat.add a 8),.ref 24,.type "ValueError",.type "Exception",.type "BaseException",.type "object"],Nat.add a 7,nO s,true,[],[],false,none,false⟩,⟨[some (.ref (Nat.sub a 1)),none,some (.str (nO s) t),some (.str (nO s) (Nat.add t 8)),some (.builtin "ValueError.__new__"),some (.bool true)]⟩⟩,
  ⟨.type "super",none,.fields ⟨[.ref (Nat.add a 8),.ref (Nat.add a 8),.ref (Nat.add a 8)]⟩,⟨[]⟩⟩,
  ⟨.type "builtin_function_or_method",none,.fields ⟨[.builtin "object.__init_subclass__",.ref (Nat.add a 8)]⟩,⟨[]⟩⟩]
noncomputable def tI (l:List (Nat×List Obj)) (b:Nat):Obj:=@List.rec (Nat×List Obj) (fun _=>Nat->Obj) (fun _=>hZ) (fun x _ ih b=>@Bool.rec (fun _=>Obj) (ih (Nat.sub b x.1)) (nN x.2 b hZ) (Nat.blt b x.1)) l b
def tJ(l:List (Int×Addr)):List Value:=l.flatMap fun x=>[.int x.1 0,.int 0 0,.ref x.2]
noncomputable def rG (f:Nat->Obj) (n:Nat) (fuel:Nat):Nat->Nat->BT:=
 @Nat.rec (fun _=>Nat->Nat->BT) (fun _ _=>.nil) (fun _ ih a b=>@Bool.rec (fun _=>BT) .nil (.node (f b) (ih (Nat.mul 2 a) (Nat.add a b)) (ih (Nat.mul 2 a) (Nat.add (Nat.mul 2 a) b))) (Nat.blt b n)) fuel
def rH(p:Program)(c:Value)(f:Addr):Env:={scope:=p.main.scope,locals:=mainNs,globals:=mainNs,cells:=[],code:=c,frame:=some f}
def tK(p:Program)(l:List Nat):Program:={p with main:={p.main with body:=l.map fun i=>p.main.body.getD i (.Pass ⟨0,0,0,0⟩)}}
abbrev mW(tr:Nat->Params->BT)(k n t:Nat)(w:World)(os:OsState):SharedT:=⟨tr k w.params,n,{},⟨[]⟩,{},t,os⟩
abbrev mE(p:Program)(ev:Env):Code:=.body (behindTheImports p) ev
def o3(m0:Nat)(ann:Option Value)(n n0 t0:Nat)(q q0:Pos)(tg:(String->Option Builtin)->Program->World->Nat->Option Value->Nat->Shared->Thread->Option (Shared×Thread))(dn:(String->Option Builtin)->Code->Sem Fin)(tb:String->Option Builtin)(p:Program)(tr:Nat->Params->BT)(ev:Env):Prop:=
 ∀w:World,(fun os=>tg tb p w m0 ann n ⟨boot_heap w.params,⟨[]⟩,boot_drawn,boot_toks,os⟩ (topStub p))=fun os=>some ((mW tr 0 n0 t0 w os).abs,Thread.mk (dn tb (mE p ev)) (mE p ev) q0 [topFrame q])
def o4(m0:Nat)(ann:Option Value)(n n0 t0:Nat)(q q0 q1:Pos)(sr:(String->Option Builtin)->Program->World->Nat->Option Value->Nat->Nat->Shared->Thread->Option (Flow×Shared×Code×Pos))(tb:String->Option Builtin)(p:Program)(tr:Nat->Params->BT)(ev:Env):Prop:=
 ∀w:World,(fun os=>sr tb p w m0 ann 1 n (mW tr 0 n0 t0 w os).abs (blockOf (behindTheImports p) ev (mE p ev) q0 [topFrame q]))=fun os=>some (.next,(mW tr 0 n0 t0 w os).abs,mE p ev,q1)
def iC(m0:Nat)(ann:Option Value)(n i j k n0 t0 n1 t1:Nat)(q q0 q1:Pos)(sr:(String->Option Builtin)->Program->World->Nat->Option Value->Nat->Nat->SharedT->Thread->Option (Flow×SharedT×Code×Pos))(tb:String->Option Builtin)(p:Program)(tr:Nat->Params->BT)(ev:Env):Prop:=
 ∀w:World,(fun os=>sr tb p w m0 ann 1 n (mW tr k n0 t0 w os) (piecesOf (((behindTheImports p).drop i).take j) ev (mE p ev) q0 [topFrame q]))=fun os=>some (.next,mW tr (Nat.succ k) n1 t1 w os,mE p ev,q1)
def o5(m0:Nat)(ann:Option Value)(n k n0 t0:Nat)(q q0:Pos)(sr:(String->Option Builtin)->Program->World->Nat->Option Value->Nat->Shared->Thread->Option Shared)(tb:String->Option Builtin)(p:Program)(tr:Nat->Params->BT)(ev:Env):Prop:=
 ∀w:World,(fun os=>sr tb p w m0 ann n (mW tr k n0 t0 w os).abs (Thread.mk (doneF .next) (mE p ev) q0 [topFrame q]))=fun os=>some (mW tr k n0 t0 w os).abs
variable{m0:Nat}{ann:Option Value}{q q0 q1:Pos}{tb:String->Option Builtin}{p:Program}{tr:Nat->Params->BT}{ev:Env}{n N i j k n0 t0 n1 t1:Nat}{r:Shared}
theorem hgo(h:o3 m0 ann n n0 t0 q q0 topGo denote tb p tr ev)(w:World)(os:OsState)(g:topRun tb p w m0 ann N (mW tr 0 n0 t0 w os).abs (Thread.mk (denote tb (mE p ev)) (mE p ev) q0 [topFrame q])=some r):
  topRun tb p w m0 ann (Nat.add n N) ⟨boot_heap w.params,⟨[]⟩,boot_drawn,boot_toks,os⟩ (topStub p)=some r:=go_top (Jj (h w) os) g
theorem pS(h:o4 m0 ann n n0 t0 q q0 q1 segRun tb p tr ev)(w:World)(os:OsState)(g:topRun tb p w m0 ann N (mW tr 0 n0 t0 w os).abs (restOf ((behindTheImports p).drop 0) ev (mE p ev) q1 [topFrame q])=some r):
  topRun tb p w m0 ann (Nat.add n N) (mW tr 0 n0 t0 w os).abs (Thread.mk (denote tb (mE p ev)) (mE p ev) q0 [topFrame q])=some r:=piece_block (Jj (h w) os) g
theorem gF(h:iC m0 ann n i j k n0 t0 n1 t1 q q0 q1 segRunT tb p tr ev)(w:World)(os:OsState)(g:topRun tb p w m0 ann N (mW tr (Nat.succ k) n1 t1 w os).abs (restOf ((behindTheImports p).drop (Nat.add i j)) ev (mE p ev) q1 [topFrame q])=some r):
  topRun tb p w m0 ann (Nat.add n N) (mW tr k n0 t0 w os).abs (restOf ((behindTheImports p).drop i) ev (mE p ev) q0 [topFrame q])=some r:=by
 have a:=piece_app (segRun_of (Jj (h w) os)) g
 have e:((behindTheImports p).drop i).take j++(behindTheImports p).drop (Nat.add i j)=(behindTheImports p).drop i:=by
  have:=List.take_append_drop j ((behindTheImports p).drop i);rw[List.drop_drop]at this;exact this
 rw[e]at a;exact a
theorem pT(e:(behindTheImports p).drop i=[])(h:o5 m0 ann n k n0 t0 q q0 topRun tb p tr ev)(w:World)(os:OsState):
  topRun tb p w m0 ann n (mW tr k n0 t0 w os).abs (restOf ((behindTheImports p).drop i) ev (mE p ev) q0 [topFrame q])=some (mW tr k n0 t0 w os).abs:=by
 rw[e];exact Jj (h w) os
abbrev kT(H:Params->Heap)(t:Nat)(w:World)(os:OsState):Shared:=⟨H w.params,⟨[]⟩,{},t,os⟩
structure rJ(p v:Program)(H:Params->Heap)(K:Params->Frag)(as ts:List Addr)(t:Nat)(ls:List Str:=[]):Prop where
 l1:∀w:World,(fun os=>staticsOk (PySem.W.Fast.tw5923862056798008813 p.main.body) (boot_heap w.params) (H w.params)&&namesBound p (H w.params)&&gensDone (kT H t w os)&&laidKept (boot_heap w.params) (H w.params))=fun _=>true
 l2:∀w:World,(fun os=>PySem.W.Fast.tw5160383126252970620 (PySem.W.R.mapR (fun x=>x.name) (PySem.W.Fast.tw3399658132070893891 v)) (PySem.W.Fast.tw5991557255702980513 v) [] (kT H t w os))=fun _=>expectedOf v
 l3:∀w:World,(H w.params).bltView=bltViewBooted
 l4:∀w:World,(fun os=>PySem.W.Fast.tw10880121769531294198 (H w.params) (PySem.W.Fast.tw821141287760084731 v ls) (PySem.W.R.mapR (fun x=>x.name) (PySem.W.Fast.tw3399658132070893891 v)) (PySem.W.R.mapR (fun x=>x.1) (PySem.W.Fast.tw7409074990110511671 v)) (PySem.W.R.mapR (fun x=>x.name) (PySem.W.Fast.tw13664370479719496447 v (PySem.W.Fast.tw821141287760084731 v ls)))&&PySem.W.Fast.tw14722251495701143533 (H w.params) (PySem.W.Fast.tw5923862056798008813 p.main.body)&&(H w.params).isNs mainGlobals&&(H w.params).isNs builtinsNs&&PySem.W.Fast.tw10994771534591457954 v (H w.params)&&(xlAt v [] (kT H t w os)&&recOk [] (kT H t w os))&&(if true then(kT H t w os).gens.size==0 else !leftWithCleanup (kT H t w os).gens))=fun _=>true
 l5:∀w:World,(fun os=>PySem.W.Fast.tw479339242167458305 v (kT H t w os))=fun _=>true
 l6:∀w:World,(fun os=>PySem.W.Fast.tw16090120013241838585 v (PySem.W.Fast.tw3247288618530077131 v) (kT H t w os))=fun _=>pinGoodD (PySem.W.Fast.tw3247288618530077131 v)
 l7:∀w:World,(fun os=>PySem.W.Fast.tw2386780881361962483 v (PySem.W.Fast.tw821141287760084731 v ls) (kT H t w os))=fun _=>plainGoodE v (PySem.W.Fast.tw821141287760084731 v ls)
 l8:∀w:World,(fun os=>PySem.W.Fast.tw11698064438423848299 v ls (kT H t w os))=fun _=>plainGoodD v ls
 l9:∀w:World,(fun os=>PySem.W.Fast.tw7317090234206586261 v (kT H t w os))=fun _=>wideGood v
 l10:∀w:World,(fun os=>PySem.W.Fast.tw7369524293546568484 v ls (kT H t w os))=fun _=>clsGoodW v ls
 l11:∀w:World,PySem.W.R.mapR (H w.params).get? as=PySem.W.R.mapR (fun p=>some p.2) (K w.params)
 l12:∀w:World,PySem.W.R.mapR (H w.params).get? ts=PySem.W.R.mapR (fun _=>some (tabObj #[])) ts
def mG(w:World)(x:String)(b:Bool):World:={w with params:={w.params with followText:=fun s=>bif s==x then b else w.params.followText s}}
theorem nB(w:World)(x:String):mG w x (w.params.followText x)=w:=by
 have e:(fun s=>bif s==x then w.params.followText x else w.params.followText s)=w.params.followText:=by
  funext s
  by_cases h:s=x
  ·subst h
   rw[beq_self_eq_true]
   rfl
  ·have:(s==x)=false:=by rw[beq_eq_false_iff_ne];exact h
   rw[this]
   rfl
 unfold mG;rw[e]
theorem kF{Pr:World->Prop}(x:String)(h:∀(b:Bool) (w:World),Pr (mG w x b))(w:World):Pr w:=by
 have:=h (w.params.followText x) w;rwa [nB]at this
theorem hsize(w:World):((boot_heap w.params).isNs mainGlobals&&(Array.mk []:Array GenState).size==0,(boot_heap w.params).objs.size,(boot_heap w.params).nsMap mainGlobals "__annotations__")=(true,11,some (.ref 6)):=by
 rw[PySem.W.Fast.te8920871248978507458,show("__annotations__":Str)=⟨⟨[95,95,97,110,110,111,116,97,116,105,111,110,115,95,95]⟩⟩from PySem.W.Fast.ofString_ofList ['_','_','a','n','n','o','t','a','t','i','o','n','s','_','_']]
 kernel_rfl
theorem hleft{v:Program}{H:Params->Heap}{K:Params->Frag}{as ts:List Addr}{t M:Nat}(e:∀P,as=(K P).map (·.1))(eo:opening p=plainProg p.main.scope.names)(hf:∀s,fenceModules? p s=some s)(hN:Nat.ble 600 N=true)(le:Nat.ble M N=true)
  (run:∀(w:World) (os:OsState),topRun treeTable p w 11 (some (.ref 6)) M ⟨boot_heap w.params,⟨[]⟩,boot_drawn,boot_toks,os⟩ (topStub p)=some (kT H t w os)){ls:List Str}(L:rJ p v H K as ts t ls):
  LeftO p v ls (fun s=>xlAt v [] s&&recOk [] s) (Hook.obs (kmHook K as e ts)) (Hook.val (kmHook K as e ts)) N:=by
 refine LeftO.of_pieces (boot_open eo hN hf) hsize run le fun w=>?_
 have q1:=L.l1 w;have q2:=L.l2 w;have q3:=L.l3 w;have q4:=L.l4 w;have q5:=L.l5 w;have q6:=L.l6 w;have q7:=L.l7 w;have q8:=L.l8 w;have q9:=L.l9 w;have q10:=L.l10 w;have q11:=L.l11 w;have q12:=L.l12 w
 simp only[←PySem.W.Fast.te5923862056798008813,←PySem.W.Fast.te5160383126252970620,←PySem.W.R.mapR_eq,←PySem.W.Fast.te3399658132070893891,←PySem.W.Fast.te5991557255702980513,←PySem.W.Fast.te10880121769531294198,←PySem.W.Fast.te821141287760084731,←PySem.W.Fast.te7409074990110511671,←PySem.W.Fast.te13664370479719496447,←PySem.W.Fast.te14722251495701143533,←PySem.W.Fast.te10994771534591457954,←PySem.W.Fast.te479339242167458305,←PySem.W.Fast.te16090120013241838585,←PySem.W.Fast.te3247288618530077131,←PySem.W.Fast.te2386780881361962483,←PySem.W.Fast.te11698064438423848299,←PySem.W.Fast.te7317090234206586261,←PySem.W.Fast.te7369524293546568484]at q1 q2 q4 q5 q6 q7 q8 q9 q10 q11 q12
 funext os
 unfold openSeen openGood;refine Jy (Jj q1 os) (Jy (Jy (Jj q2 os) (Jy q3 (Jy (Jj q4 os) (Jy (Jj q5 os) (Jy (Jj q6 os) (Jy (Jj q7 os) (Jy (Jj q8 os) (Jy (Jj q9 os) (Jj q10 os))))))))) (Jy q11 q12))
def pU(p v:Program)(H:Params->Heap)(K:Params->Frag)(as ts:List Addr)(t:Nat)(ls:List Str:=[]):Prop:=∀w:World,(fun os=>staticsOk (PySem.W.Fast.tw5923862056798008813 p.main.body) (boot_heap w.params) (H w.params)&&namesBound p (H w.params)&&gensDone (kT H t w os)&&laidKept (boot_heap w.params) (H w.params))=fun _=>true
def pV(p v:Program)(H:Params->Heap)(K:Params->Frag)(as ts:List Addr)(t:Nat)(ls:List Str:=[]):Prop:=∀w:World,(fun os=>PySem.W.Fast.tw5160383126252970620 (PySem.W.R.mapR (fun x=>x.name) (PySem.W.Fast.tw3399658132070893891 v)) (PySem.W.Fast.tw5991557255702980513 v) [] (kT H t w os))=fun _=>expectedOf v
def pW(p v:Program)(H:Params->Heap)(K:Params->Frag)(as ts:List Addr)(t:Nat)(ls:List Str:=[]):Prop:=∀w:World,(H w.params).bltView=bltViewBooted
def pX(p v:Program)(H:Params->Heap)(K:Params->Frag)(as ts:List Addr)(t:Nat)(ls:List Str:=[]):Prop:=∀w:World,(fun os=>PySem.W.Fast.tw10880121769531294198 (H w.params) (PySem.W.Fast.tw821141287760084731 v ls) (PySem.W.R.mapR (fun x=>x.name) (PySem.W.Fast.tw3399658132070893891 v)) (PySem.W.R.mapR (fun x=>x.1) (PySem.W.Fast.tw7409074990110511671 v)) (PySem.W.R.mapR (fun x=>x.name) (PySem.W.Fast.tw13664370479719496447 v (PySem.W.Fast.tw821141287760084731 v ls)))&&PySem.W.Fast.tw14722251495701143533 (H w.params) (PySem.W.Fast.tw5923862056798008813 p.main.body)&&(H w.params).isNs mainGlobals&&(H w.params).isNs builtinsNs&&PySem.W.Fast.tw10994771534591457954 v (H w.params)&&(xlAt v [] (kT H t w os)&&recOk [] (kT H t w os))&&(if true then(kT H t w os).gens.size==0 else !leftWithCleanup (kT H t w os).gens))=fun _=>true
def pY(p v:Program)(H:Params->Heap)(K:Params->Frag)(as ts:List Addr)(t:Nat)(ls:List Str:=[]):Prop:=∀w:World,(fun os=>PySem.W.Fast.tw479339242167458305 v (kT H t w os))=fun _=>true
def pZ(p v:Program)(H:Params->Heap)(K:Params->Frag)(as ts:List Addr)(t:Nat)(ls:List Str:=[]):Prop:=∀w:World,(fun os=>PySem.W.Fast.tw16090120013241838585 v (PySem.W.Fast.tw3247288618530077131 v) (kT H t w os))=fun _=>pinGoodD (PySem.W.Fast.tw3247288618530077131 v)
def p6(p v:Program)(H:Params->Heap)(K:Params->Frag)(as ts:List Addr)(t:Nat)(ls:List Str:=[]):Prop:=∀w:World,(fun os=>PySem.W.Fast.tw2386780881361962483 v (PySem.W.Fast.tw821141287760084731 v ls) (kT H t w os))=fun _=>plainGoodE v (PySem.W.Fast.tw821141287760084731 v ls)
def p7(p v:Program)(H:Params->Heap)(K:Params->Frag)(as ts:List Addr)(t:Nat)(ls:List Str:=[]):Prop:=∀w:World,(fun os=>PySem.W.Fast.tw11698064438423848299 v ls (kT H t w os))=fun _=>plainGoodD v ls
def p8(p v:Program)(H:Params->Heap)(K:Params->Frag)(as ts:List Addr)(t:Nat)(ls:List Str:=[]):Prop:=∀w:World,(fun os=>PySem.W.Fast.tw7317090234206586261 v (kT H t w os))=fun _=>wideGood v
def oN(p v:Program)(H:Params->Heap)(K:Params->Frag)(as ts:List Addr)(t:Nat)(ls:List Str:=[]):Prop:=∀w:World,(fun os=>PySem.W.Fast.tw7369524293546568484 v ls (kT H t w os))=fun _=>clsGoodW v ls
def oO(p v:Program)(H:Params->Heap)(K:Params->Frag)(as ts:List Addr)(t:Nat)(ls:List Str:=[]):Prop:=∀w:World,PySem.W.R.mapR (H w.params).get? as=PySem.W.R.mapR (fun p=>some p.2) (K w.params)
def oP(p v:Program)(H:Params->Heap)(K:Params->Frag)(as ts:List Addr)(t:Nat)(ls:List Str:=[]):Prop:=∀w:World,PySem.W.R.mapR (H w.params).get? ts=PySem.W.R.mapR (fun _=>some (tabObj #[])) ts
end HG
namespace K94
noncomputable section
open PySem PySem.W PySem.Calls PyProof.Rows HG PySem.W.Fast PySem.Challenge
def hS(i:Nat):Stmt:=pw_turnsigns_k94_desk_refuses.main.body.getD i (.Pass ⟨0,0,0,0⟩)
def hM(i j:Nat):Stmt:=match hS i with|.ClassDef _ _ _ b ..=>b.getD j (.Pass ⟨0,0,0,0⟩)|s=>s
def hm0:Value:=(.str "turnsigns.errors" 187)
def hm1:Value:=(.str "turnsigns.grids" 415)
def hm2:Value:=(.str "turnsigns.tables" 492)
def p9:Value:=(.str "turnsigns.counts" 532)
def qO:Value:=(.str "turnsigns.notes" 564)
def nP:Value:=(.str "turnsigns.orders" 613)
def nJ:Value:=(.str "turnsigns.turned" 698)
def sI:Value:=(.str "turnsigns.weights" 803)
def lU:Value:=(.str "turnsigns.desk" 817)
def pM:Value:=(.str "law_turnsigns_k94_desk_refuses" 1061)
def hc0(P:Params):List (Nat×List Obj):=[(15,[boot_o_0 P,boot_o_1 P,boot_o_2 P,hZ,boot_o_4 P,boot_o_5 P,boot_o_6 P,boot_o_7 P,boot_o_8 P,boot_o_9 P,boot_o_10 P,hZ,hZ,hC "<module>" 182 185 1 0 0 11 false 12 .none .none .none .none,⟨(.type "frame"),none,.plain,⟨[(some (.ref 13)),(some (.ref 3)),(some (.ref 3)),none,(some (.str "__main__" 164)),none,(some (.ref 0))]⟩⟩]),(13,[hU [(.type "ValueError")],⟨(.type "builtin_function_or_method"),none,.fields ⟨[(.builtin "type.__prepare__"),(.type "type")]⟩,⟨[]⟩⟩,⟨(.type "dict"),none,.dict ⟨[hE P "__module__" 196 (.str "turnsigns.errors" 187),hE P "__qualname__" 198 (.str "SignError" 197),hE P "__firstlineno__" 200 (.int 2 199),hE P "__static_attributes__" 201 (.ref 22)]⟩ 4,⟨[]⟩⟩,hZ,hN,hC "SignError" 191 194 2 0 0 18 false 19 .none .none .none .none,⟨(.type "frame"),none,.plain,⟨[(some (.ref 20)),(some (.ref 3)),(some (.ref 17)),none,(some (.str "turnsigns.errors" 187)),none,(some (.ref 0))]⟩⟩,hZ,⟨(.type "dict"),none,.dict ⟨[hE P "__module__" 196 (.str "turnsigns.errors" 187),hE P "__firstlineno__" 200 (.int 2 199),hE P "__static_attributes__" 201 (.ref 22),hE P "__weakref__" 203 (.ref 25),hE P "__doc__" 204 .none]⟩ 3,⟨[]⟩⟩,hZ,⟨(.type "getset_descriptor"),none,.fields ⟨[(.str "__weakref__" 202),(.ref 24),(.builtin "ExceptionGroup.__weakref__"),.none]⟩,⟨[]⟩⟩,⟨(.type "super"),none,.fields ⟨[(.ref 24),(.ref 24),(.ref 24)]⟩,⟨[]⟩⟩,⟨(.type "builtin_function_or_method"),none,.fields ⟨[(.builtin "object.__init_subclass__"),(.ref 24)]⟩,⟨[]⟩⟩]),(1,[hU [.ref 24]]),(11,nA P (hS 2) 29 207 4 hm0),(1,[hU [.ref 24]]),(11,nA P (hS 3) 41 223 6 hm0),(1,[hU [.ref 24]]),(11,nA P (hS 4) 53 239 8 hm0),(1,[hU [.ref 24]]),(11,nA P (hS 5) 65 255 10 hm0)]
def hc1(P:Params):List (Nat×List Obj):=[(1,[hU [.ref 24]]),(11,nA P (hS 6) 77 271 12 hm0),(1,[hU [.ref 24]]),(11,nA P (hS 7) 89 287 14 hm0),(1,[hU [.ref 24]]),(11,nA P (hS 8) 101 303 16 hm0),(1,[hU [.ref 24]]),(11,nA P (hS 9) 113 319 18 hm0),(1,[hU [.ref 24]]),(11,nA P (hS 10) 125 335 20 hm0)]
def hc2(P:Params):List (Nat×List Obj):=[(1,[hU [.ref 24]]),(11,nA P (hS 11) 137 351 22 hm0),(1,[hU [.ref 24]]),(11,nA P (hS 12) 149 367 24 hm0),(1,[hU [.ref 24]]),(11,nA P (hS 13) 161 383 26 hm0),(1,[hU [.ref 24]]),(11,nA P (hS 14) 173 399 28 hm0),(7,iQ (hS 16) 184 417 31 1 hm1 ["thing"]),(5,j9 (hS 17) 191 424 33 2 hm1)]
def hc3(P:Params):List (Nat×List Obj):=[(5,j9 (hS 18) 196 430 37 3 hm1),(7,iQ (hS 19) 201 436 41 3 hm1 ["thing","least","greatest"]),(5,j9 (hS 20) 208 445 45 1 hm1),(7,iQ (hS 21) 213 451 47 1 hm1 ["row","sums","number"]),(5,j9 (hS 22) 220 460 52 1 hm1),(5,j9 (hS 23) 225 466 54 1 hm1),(7,iQ (hS 24) 230 472 56 1 hm1 ["grid"]),(5,j9 (hS 25) 237 479 58 1 hm1),(7,iQ (hS 26) 242 485 60 1 hm1 ["grid"]),(7,iQ (hS 29) 249 496 64 1 hm2 ["line","total","number"])]
def hc4(P:Params):List (Nat×List Obj):=[(5,j9 (hS 30) 256 505 71 1 hm2),(7,iQ (hS 31) 261 511 75 1 hm2 ["thing"]),(7,iQ (hS 32) 268 518 78 1 hm2 ["table"]),(7,iQ (hS 33) 275 525 80 1 hm2 ["heights"]),(5,j9 (hS 35) 282 534 83 1 p9),(5,j9 (hS 36) 287 540 88 2 p9),(5,j9 (hS 37) 292 546 90 2 p9),(5,j9 (hS 38) 297 552 92 2 p9),(5,j9 (hS 39) 302 558 98 1 p9),(1,[⟨(.type "dict"),none,.dict ⟨[⟨1,(.int 1 566),(.str "+" 567)⟩,⟨(-2),(.int (-1) 569),(.str "-" 570)⟩,⟨0,(.int 0 571),(.str "0" 572)⟩]⟩ 3,⟨[]⟩⟩])]
def hc5(P:Params):List (Nat×List Obj):=[(1,[⟨(.type "dict"),none,.dict ⟨[hE P "+" 577 (.int 1 578),hE P "-" 579 (.int (-1) 581),hE P "0" 582 (.int 0 583)]⟩ 3,⟨[]⟩⟩]),(5,j9 (hS 43) 309 588 108 1 qO),(5,j9 (hS 44) 314 594 111 1 qO),(5,j9 (hS 45) 319 600 113 1 qO),(7,iQ (hS 46) 324 606 119 1 qO ["text"]),(7,iQ (hS 48) 331 615 124 2 nP ["one","other"]),(5,j9 (hS 49) 338 623 130 2 nP),(5,j9 (hS 50) 343 629 132 2 nP),(5,j9 (hS 51) 348 635 135 2 nP),(5,j9 (hS 52) 353 641 138 2 nP)]
def hc6(P:Params):List (Nat×List Obj):=[(7,iQ (hS 53) 358 647 141 3 nP ["heights","row","column","height","ahead","behind"]),(5,j9 (hS 54) 365 659 146 1 nP),(7,iQ (hS 55) 370 665 149 2 nP ["heights","place","row","column","line","lower"]),(7,iQ (hS 56) 377 677 154 2 nP ["table","place","heights"]),(5,j9 (hS 57) 384 686 160 1 nP),(5,j9 (hS 58) 389 692 163 1 nP),(7,iQ (hS 60) 394 700 167 1 nJ ["table"]),(7,iQ (hS 61) 401 707 169 1 nJ ["table"]),(7,iQ (hS 62) 408 714 171 1 nJ ["table"]),(7,iQ (hS 63) 415 721 173 1 nJ ["table"])]
def tL(P:Params):List (Nat×List Obj):=[(5,j9 (hS 64) 422 728 175 1 nJ),(7,iQ (hS 65) 427 734 177 1 nJ ["table"]),(7,iQ (hS 66) 434 741 179 1 nJ ["table"]),(7,iQ (hS 67) 441 748 181 1 nJ ["table"]),(1,[⟨(.type "dict"),none,.dict ⟨[hE P "stay" 755 (.ref 400),hE P "left" 756 (.ref 407),hE P "half" 757 (.ref 414),hE P "right" 758 (.ref 421),hE P "upright" 759 (.ref 426),hE P "flat" 760 (.ref 433),hE P "slant" 761 (.ref 440),hE P "other" 762 (.ref 447)]⟩ 8,⟨[]⟩⟩]),(7,iQ (hS 69) 449 772 184 1 nJ ["thing"]),(7,iQ (hS 70) 456 779 186 1 nJ ["thing"]),(7,iQ (hS 71) 463 786 189 2 nJ ["table","turn","deed"]),(7,iQ (hS 72) 470 795 192 2 nJ ["table","turn"]),(5,j9 (hS 74) 477 805 197 1 sI)]
def tM(P:Params):List (Nat×List Obj):=[(5,j9 (hS 75) 482 811 200 1 sI),(13,[⟨(.type "dict"),none,.dict ⟨[hE P "table" 825 (.ref 488),hE P "turn" 828 (.ref 489),hE P "up" 832 (.ref 490),hE P "join" 837 (.ref 491),hE P "meet" 841 (.ref 492),hE P "kept" 845 (.ref 493),hE P "show" 846 (.ref 494),hE P "number" 848 (.ref 495),hE P "minus" 850 (.ref 496),hE P "pairs" 852 (.ref 497),hE P "steps" 854 (.ref 498),hE P "below" 856 (.ref 499)]⟩ 12,⟨[]⟩⟩,hU [(.str "new" 826),(.str "text" 827)],hU [(.str "old" 829),(.str "turn" 830),(.str "new" 831)],hU [(.str "old" 833),(.str "figure" 834),(.str "figure" 835),(.str "new" 836)],hU [(.str "old" 838),(.str "old" 839),(.str "new" 840)],hU [(.str "old" 842),(.str "old" 843),(.str "new" 844)],hZ,hU [(.str "old" 847)],hU [(.str "old" 849)],hU [(.str "old" 851)],hU [(.str "old" 853)],hU [(.str "old" 855)],hU [(.str "old" 857),(.str "old" 858)]]),(5,j9 (hS 81) 500 872 209 1 lU),(7,iQ (hS 82) 505 878 211 1 lU ["word"]),(7,iQ (hS 83) 512 885 213 2 lU ["word","part"]),(5,j9 (hS 84) 519 893 221 1 lU),(7,iQ (hS 85) 524 899 228 1 lU ["line","words"]),(5,j9 (hS 86) 531 907 235 2 lU),(7,iQ (hS 87) 536 913 237 2 lU ["tables","words"]),(7,iQ (hS 88) 543 921 239 2 lU ["tables","words"])]
def tN(P:Params):List (Nat×List Obj):=[(7,iQ (hS 89) 550 929 241 2 lU ["tables","words"]),(7,iQ (hS 90) 557 937 243 2 lU ["tables","words"]),(7,iQ (hS 91) 564 945 245 2 lU ["tables","words"]),(7,iQ (hS 92) 571 953 247 1 lU ["tables"]),(7,iQ (hS 93) 578 960 249 1 lU ["tables"]),(7,iQ (hS 94) 585 967 251 1 lU ["tables"]),(7,iQ (hS 95) 592 974 253 1 lU ["tables"]),(7,iQ (hS 96) 599 981 255 1 lU ["tables"]),(7,iQ (hS 97) 606 988 257 1 lU ["tables"]),(1,[⟨(.type "dict"),none,.dict ⟨[hE P "table" 995 (.ref 542),hE P "turn" 996 (.ref 549),hE P "up" 997 (.ref 556),hE P "join" 998 (.ref 563),hE P "meet" 999 (.ref 570)]⟩ 5,⟨[]⟩⟩])]
def Mh(P:Params):List (Nat×List Obj):=[(1,[⟨(.type "dict"),none,.dict ⟨[hE P "show" 1006 (.ref 577),hE P "number" 1007 (.ref 584),hE P "minus" 1008 (.ref 591),hE P "pairs" 1009 (.ref 598),hE P "steps" 1010 (.ref 605),hE P "below" 1011 (.ref 612)]⟩ 6,⟨[]⟩⟩]),(16,[hZ,⟨(.type "builtin_function_or_method"),none,.fields ⟨[(.builtin "type.__prepare__"),(.type "type")]⟩,⟨[]⟩⟩,⟨(.type "dict"),none,.dict ⟨[hE P "__module__" 1026 (.str "turnsigns.desk" 817),hE P "__qualname__" 1028 (.str "Desk" 1027),hE P "__firstlineno__" 1030 (.int 261 1029),hE P "__init__" 1037 (.ref 628),hE P "say" 1043 (.ref 633),hE P "table_kept" 1051 (.ref 640),hE P "__static_attributes__" 1053 (.ref 641)]⟩ 7,⟨[]⟩⟩,hZ,⟨.none,none,.fields ⟨[(.int 263 0),(.int 4 0),(.ref 627),(.int 266 0),(.int 4 0),(.ref 632),(.int 280 0),(.int 4 0),(.ref 639)]⟩,⟨[]⟩⟩,hC "Desk" 1021 1024 261 0 0 618 false 619 .none .none .none .none,⟨(.type "frame"),none,.plain,⟨[(some (.ref 620)),(some (.ref 3)),(some (.ref 617)),none,(some (.str "turnsigns.desk" 817)),none,(some (.ref 0))]⟩⟩,hZ,hN,hU [(.str "self" 1034)],hZ,⟨.none,none,.func (hX (hM 100 0) "Desk.__init__" 0 [] .none .none .none .none none .none .none 0),⟨[]⟩⟩,⟨(.type "code"),none,.fields ⟨[(.str "__init__" 1031),(.str "Desk.__init__" 1032),(.str "/claim/cut.py" 1033),(.int 263 0),(.int 1 0),(.int 0 0),(.int 0 0),(.int 3 0),(.ref 622),(.bool true),(.int 181 0),(.ref 623),.none,(.ref 624),(.ref 625),(.ref 626),(.int 1035 0),(.int 263 0),(.str "/claim/cut.py" 1036)]⟩,⟨[]⟩⟩,⟨(.type "function"),none,.func (hX (hM 100 0) "Desk.__init__" 3 [] .none .none .none (.str "turnsigns.desk" 817) none (.ref 627) .none 0),⟨[]⟩⟩,hZ,hN]),(16,[⟨.none,none,.func (hX (hM 100 1) "Desk.say" 0 [] .none .none .none .none none .none .none 0),⟨[]⟩⟩,⟨(.type "code"),none,.fields ⟨[(.str "say" 1038),(.str "Desk.say" 1039),(.str "/claim/cut.py" 1040),(.int 266 0),(.int 2 0),(.int 0 0),(.int 0 0),(.int 3 0),(.ref 629),(.bool true),(.int 181 0),(.ref 630),.none,.none,.none,(.ref 631),(.int 1041 0),(.int 266 0),(.str "/claim/cut.py" 1042)]⟩,⟨[]⟩⟩,⟨(.type "function"),none,.func (hX (hM 100 1) "Desk.say" 3 [] .none .none .none (.str "turnsigns.desk" 817) none (.ref 632) .none 0),⟨[]⟩⟩,hZ,hN,hU [(.str "self" 1047),(.str "name" 1048)],hZ,⟨.none,none,.func (hX (hM 100 2) "Desk.table_kept" 0 [] .none .none .none .none none .none .none 0),⟨[]⟩⟩,⟨(.type "code"),none,.fields ⟨[(.str "table_kept" 1044),(.str "Desk.table_kept" 1045),(.str "/claim/cut.py" 1046),(.int 280 0),(.int 2 0),(.int 0 0),(.int 0 0),(.int 3 0),(.ref 634),(.bool true),(.int 181 0),(.ref 635),.none,(.ref 636),(.ref 637),(.ref 638),(.int 1049 0),(.int 280 0),(.str "/claim/cut.py" 1050)]⟩,⟨[]⟩⟩,⟨(.type "function"),none,.func (hX (hM 100 2) "Desk.table_kept" 3 [] .none .none .none (.str "turnsigns.desk" 817) none (.ref 639) .none 0),⟨[]⟩⟩,hU [(.str "by_name" 1052)],⟨(.type "dict"),none,.dict ⟨[hE P "__module__" 1026 (.str "turnsigns.desk" 817),hE P "__firstlineno__" 1030 (.int 261 1029),hE P "__init__" 1037 (.ref 628),hE P "say" 1043 (.ref 633),hE P "table_kept" 1051 (.ref 640),hE P "__static_attributes__" 1053 (.ref 641),hE P "__dict__" 1055 (.ref 644),hE P "__weakref__" 1057 (.ref 645),hE P "__doc__" 1058 .none]⟩ 4,⟨[]⟩⟩,⟨(.type "type"),none,.cls ⟨"Desk",[(.type "object")],[(.ref 643),(.type "object")],642,"Desk",true,[],[],false,none,false⟩,⟨[none,none,(some (.str "Desk" 1019)),(some (.str "Desk" 1027)),(some (.builtin "object.__new__")),(some (.bool true))]⟩⟩,⟨(.type "getset_descriptor"),none,.fields ⟨[(.str "__dict__" 1054),(.ref 643),(.builtin "function.__dict__"),(.builtin "function.__dict__#set")]⟩,⟨[]⟩⟩,⟨(.type "getset_descriptor"),none,.fields ⟨[(.str "__weakref__" 1056),(.ref 643),(.builtin "ExceptionGroup.__weakref__"),.none]⟩,⟨[]⟩⟩,⟨(.type "super"),none,.fields ⟨[(.ref 643),(.ref 643),(.ref 643)]⟩,⟨[]⟩⟩]),(1,[⟨(.type "builtin_function_or_method"),none,.fields ⟨[(.builtin "object.__init_subclass__"),(.ref 643)]⟩,⟨[]⟩⟩]),(7,iQ (hS 102) 648 1063 285 2 pM ["_law_script","_law_k"]),(7,iQ (hS 103) 655 1071 289 2 pM ["_law_script","_law_k","_law_cell"]),(7,iQ (hS 104) 662 1080 294 2 pM ["_law_state_here","_law_many","_law_found","_law_mixed"]),(5,j9 (hS 105) 669 1090 303 1 pM),(7,iQ (hS 106) 674 1096 319 1 pM ["_law_k","_law_some"]),(7,iQ (hS 107) 681 1104 331 1 pM ["_law_k","_law_some"])]
def Mi(P:Params):List (Nat×List Obj):=[(7,[hZ,hN,hU [(.str "_law_script" 1115),(.str "_law_cell" 1116),(.str "_law_number" 1117),(.str "_law_due_here" 1118)],hU [(.str "_law_desk" 1119),(.str "_law_line" 1120)],hR (hS 108),hC "law" 1112 1121 338 1 3 688 true 689 .none (.ref 690) (.ref 691) (.ref 692),hF (hS 108) (.str "law_turnsigns_k94_desk_refuses" 1061) (.ref 693)])]
def hB(P:Params):Nat->Obj:=tI (hc0 P++hc1 P++hc2 P++hc3 P++hc4 P++hc5 P++hc6 P++tL P++tM P++tN P++Mh P++Mi P)
def Mj(P:Params)(v:Value):List DictEntry:=[hE P "__name__" 165 v,hE P "__doc__" 166 .none,hE P "__package__" 167 .none,hE P "__loader__" 168 (.builtin "__main__.__loader__#opaque"),hE P "__spec__" 169 .none,hE P "__annotations__" 170 (.ref 6),hE P "__builtins__" 171 (.ref 4),hE P "__file__" 173 (.str "/claim/cut.py" 172),hE P "__cached__" 174 .none,hE P "SignError" 206 (.ref 24),hE P "NoTable" 222 (.ref 37),hE P "NoHeights" 238 (.ref 49),hE P "NoNet" 254 (.ref 61),hE P "NoPlace" 270 (.ref 73),hE P "NoTriangle" 286 (.ref 85),hE P "NoRow" 302 (.ref 97)]
def Ml(P:Params)(v:Value):List DictEntry:=[hE P "NoNumber" 318 (.ref 109),hE P "NoTurn" 334 (.ref 121),hE P "NotAlike" 350 (.ref 133),hE P "NoStep" 366 (.ref 145),hE P "NoRows" 382 (.ref 157),hE P "TooMany" 398 (.ref 169),hE P "BadNote" 414 (.ref 181),hE P "is_whole" 423 (.ref 190),hE P "is_row" 429 (.ref 195),hE P "is_grid" 435 (.ref 200),hE P "is_square" 444 (.ref 207),hE P "flipped" 450 (.ref 212),hE P "running_sums" 459 (.ref 219),hE P "rises" 465 (.ref 224),hE P "sums_across" 471 (.ref 229),hE P "sums_down" 478 (.ref 236)]
def Mm(P:Params)(v:Value):List DictEntry:=[hE P "rises_across" 484 (.ref 241),hE P "rises_down" 491 (.ref 248),hE P "GREATEST_SIDE" 495 (.int 6 494),hE P "takes_turns" 504 (.ref 255),hE P "is_table" 510 (.ref 260),hE P "must_be_table" 517 (.ref 267),hE P "summed" 524 (.ref 274),hE P "unsummed" 531 (.ref 281),hE P "rows_on" 539 (.ref 286),hE P "added" 545 (.ref 291),hE P "choices_on" 551 (.ref 296),hE P "ways_on" 557 (.ref 301),hE P "number_of" 563 (.ref 306),hE P "SIGNS" 576 (.ref 307),hE P "NUMBERS" 587 (.ref 308),hE P "table_text" 593 (.ref 313)]
def Mn(P:Params)(v:Value):List DictEntry:=[hE P "unwritten" 599 (.ref 318),hE P "is_note" 605 (.ref 323),hE P "table_read" 612 (.ref 330),hE P "heights_of_both" 622 (.ref 337),hE P "pairs_of" 628 (.ref 342),hE P "is_below" 634 (.ref 347),hE P "both_below" 640 (.ref 352),hE P "both_above" 646 (.ref 357),hE P "can_fall" 658 (.ref 364),hE P "steps_in" 664 (.ref 369),hE P "fallen" 676 (.ref 376),hE P "stepped" 685 (.ref 383),hE P "lowest_total" 691 (.ref 388),hE P "steps_from_lowest" 697 (.ref 393),hE P "stayed" 706 (.ref 400),hE P "turned_left" 713 (.ref 407)]
def Mp(P:Params)(v:Value):List DictEntry:=[hE P "turned_half" 720 (.ref 414),hE P "turned_right" 727 (.ref 421),hE P "told_upright" 733 (.ref 426),hE P "told_flat" 740 (.ref 433),hE P "told_slant" 747 (.ref 440),hE P "told_other" 754 (.ref 447),hE P "TURNS" 771 (.ref 448),hE P "is_turn" 778 (.ref 455),hE P "must_be_turn" 785 (.ref 462),hE P "brought" 794 (.ref 469),hE P "turned" 802 (.ref 476),hE P "minus_many" 810 (.ref 481),hE P "turned_pairs" 816 (.ref 486),hE P "LETTERS" 820 (.str "abcdefghijklmnopqrstuvwxyz" 819),hE P "FIGURES" 822 (.str "0123456789" 821),hE P "LONGEST_NAME" 824 (.int 8 823)]
def Mq(P:Params)(v:Value):List DictEntry:=[hE P "LINES" 871 (.ref 487),hE P "is_name" 877 (.ref 504),hE P "is_figure" 884 (.ref 511),hE P "is_part" 892 (.ref 518),hE P "is_line" 898 (.ref 523),hE P "words_of" 906 (.ref 530),hE P "words_as" 912 (.ref 535),hE P "read_table" 920 (.ref 542),hE P "turn_table" 928 (.ref 549),hE P "step_table" 936 (.ref 556),hE P "join_tables" 944 (.ref 563),hE P "meet_tables" 952 (.ref 570),hE P "tell_text" 959 (.ref 577),hE P "tell_number" 966 (.ref 584),hE P "tell_minus" 973 (.ref 591),hE P "tell_pairs" 980 (.ref 598)]
def Mr(P:Params)(v:Value):List DictEntry:=[hE P "tell_steps" 987 (.ref 605),hE P "tell_below" 994 (.ref 612),hE P "MAKING" 1005 (.ref 613),hE P "TELLING" 1018 (.ref 614),hE P "Desk" 1060 (.ref 643),hE P "_law_cell_at" 1070 (.ref 654),hE P "_law_state" 1079 (.ref 661),hE P "_law_take" 1089 (.ref 668),hE P "_law_refused" 1095 (.ref 673),hE P "_law_bad" 1103 (.ref 680),hE P "_law_due" 1111 (.ref 687),hE P "law" 1123 (.ref 694)]
def qP(P:Params)(v:Value):List DictEntry:=Mj P v++Ml P v++Mm P v++Mn P v++Mp P v++Mq P v++Mr P v
def rK(k:Nat):Nat×Nat×Value:=nN [(9,9,(.str "__main__" 164)),(9,9,(.str "turnsigns.errors" 187)),(10,10,(.str "turnsigns.errors" 187)),(11,11,(.str "turnsigns.errors" 187)),(12,12,(.str "turnsigns.errors" 187)),(13,13,(.str "turnsigns.errors" 187)),(14,14,(.str "turnsigns.errors" 187)),(15,15,(.str "turnsigns.errors" 187)),(16,16,(.str "turnsigns.errors" 187)),(17,17,(.str "turnsigns.errors" 187)),(18,18,(.str "turnsigns.errors" 187)),(19,19,(.str "turnsigns.errors" 187)),(20,20,(.str "turnsigns.errors" 187)),(21,21,(.str "turnsigns.errors" 187)),(22,22,(.str "turnsigns.errors" 187)),(23,23,(.str "turnsigns.errors" 187)),(28,28,(.str "turnsigns.grids" 415)),(33,33,(.str "turnsigns.grids" 415)),(38,38,(.str "turnsigns.tables" 492)),(43,43,(.str "turnsigns.counts" 532)),(46,46,(.str "turnsigns.notes" 564)),(50,50,(.str "turnsigns.notes" 564)),(55,55,(.str "turnsigns.orders" 613)),(59,59,(.str "turnsigns.orders" 613)),(64,64,(.str "turnsigns.turned" 698)),(69,69,(.str "turnsigns.turned" 698)),(70,70,(.str "turnsigns.turned" 698)),(71,71,(.str "turnsigns.turned" 698)),(75,75,(.str "turnsigns.weights" 803)),(80,80,(.str "turnsigns.desk" 817)),(81,81,(.str "turnsigns.desk" 817)),(86,86,(.str "turnsigns.desk" 817)),(91,91,(.str "turnsigns.desk" 817)),(96,96,(.str "turnsigns.desk" 817)),(99,99,(.str "turnsigns.desk" 817)),(100,100,(.str "turnsigns.desk" 817)),(101,101,(.str "turnsigns.desk" 817)),(105,105,(.str "law_turnsigns_k94_desk_refuses" 1061)),(108,108,(.str "law_turnsigns_k94_desk_refuses" 1061))] k (0,0,.none)
def tO(P:Params)(k:Nat):Obj:=⟨(.type "dict"),none,.dict ⟨(qP P (rK k).2.2).take (rK k).1⟩ (rK k).2.1,⟨[]⟩⟩
def Ms:List Value:=tJ [(2,20),(4,33),(6,45),(8,57),(10,69),(12,81),(14,93),(16,105),(18,117),(20,129),(22,141),(24,153),(26,165),(28,177),(31,189),(33,194),(37,199),(41,206),(45,211),(47,218),(52,223),(54,228),(56,235),(58,240),(60,247),(64,254),(71,259),(75,266),(78,273),(80,280),(83,285),(88,290),(90,295),(92,300),(98,305),(108,312),(111,317),(113,322),(119,329),(124,336),(130,341),(132,346),(135,351),(138,356),(141,363),(146,368),(149,375),(154,382),(160,387),(163,392),(167,399),(169,406),(171,413),(173,420),(175,425),(177,432),(179,439),(181,446),(184,454),(186,461),(189,468),(192,475),(197,480),(200,485),(209,503),(211,510),(213,517),(221,522),(228,529),(235,534),(237,541),(239,548),(241,555),(243,562),(245,569),(247,576),(249,583),(251,590),(253,597),(255,604),(257,611),(261,620),(285,653),(289,660),(294,667),(303,672),(319,679),(331,686),(338,693)]
def Mt(_:Params)(k:Nat):Obj:=⟨.none,none,.fields ⟨Ms.take (nN [0,0,3,6,9,12,15,18,21,24,27,30,33,36,39,42,57,72,84,99,105,114,129,141,156,171,174,174,186,192,192,207,222,237,243,243,246,258,267] k 0)⟩,⟨[]⟩⟩
def Mv:List Value:=[(.ref 37),(.ref 49),(.ref 61),(.ref 73),(.ref 85),(.ref 97),(.ref 109),(.ref 121),(.ref 133),(.ref 145),(.ref 157),(.ref 169),(.ref 181)]
def Mw(_:Params)(k:Nat):Obj:=⟨(.type "type"),none,.cls ⟨"SignError",[(.type "ValueError")],[(.ref 24),(.type "ValueError"),(.type "Exception"),(.type "BaseException"),(.type "object")],23,"SignError",true,[],Mv.take (nN [0,0,0,1,2,3,4,5,6,7,8,9,10,11,12,13,13,13,13,13,13,13,13,13,13,13,13,13,13,13,13,13,13,13,13,13,13,13,13] k 0),false,none,false⟩,⟨[(some (.ref 15)),none,(some (.str "SignError" 189)),(some (.str "SignError" 197)),(some (.builtin "ValueError.__new__")),(some (.bool true))]⟩⟩
def hO(P:Params)(k b:Nat):Obj:=match Nat.beq b 3 with|true=>tO P k|false=>match Nat.beq b 12 with|true=>Mt P k|false=>match Nat.beq b 24 with|true=>Mw P k|false=>hB P b
def hn(k:Nat):Nat:=nN [15,15,28,40,52,64,76,88,100,112,124,136,148,160,172,184,213,242,268,297,308,324,353,377,408,441,448,449,477,487,500,531,564,599,614,615,648,674,695] k 0
noncomputable def hT (k:Nat) (P:Params):BT:=rG (hO P k) (hn k) 12 1 0
def hV:Env:=rH pw_turnsigns_k94_desk_refuses (.ref 13) 14
def hQ:Program:=tK pw_turnsigns_k94_desk_refuses [1,2,3,4,5,6,7,8,9,10,11,12,13,14,16,17,18,19,20,21,22,23,24,25,26,28,29,30,31,32,33,35,36,37,38,39,41,42,43,44,45,46,48,49,50,51,52,53,54,55,56,57,58,60,61,62,63,64,65,66,67,68,69,70,71,72,74,75,77,78,79,80,81,82,83,84,85,86,87,88,89,90,91,92,93,94,95,96,97,98,99,100,102,103,104,105,106,107,108]
def hA:List Nat:=[2,3,15,22,23,24,25,28,35,36,37,40,47,48,49,52,59,60,61,64,71,72,73,76,83,84,85,88,95,96,97,100,107,108,109,112,119,120,121,124,131,132,133,136,143,144,145,148,155,156,157,160,167,168,169,172,179,180,181,184,186,187,189,190,191,194,195,196,199,200,201,203,204,206,207,208,211,212,213,215,216,218,219,220,223,224,225,228,229,230,232,233,235,236,237,240,241,242,244,245,247,248,249,251,252,254,255,256,259,260,261,263,264,266,267,268,270,271,273,274,275,277,278,280,281,282,285,286,287,290,291,292,295,296,297,300,301,302,305,306,307,308,309,312,313,314,317,318,319,322,323,324,326,327,329,330,331,333,334,336,337,338,341,342,343,346,347,348,351,352,353,356,357,358,360,361,363,364,365,368,369,370,372,373,375,376,377,379,380,382,383,384,387,388,389,392,393,394,396,397,399,400,401,403,404,406,407,408,410,411,413,414,415,417,418,420,421,422,425,426,427,429,430,432,433,434,436,437,439,440,441,443,444,446,447,448,449,451,452,454,455,456,458,459,461,462,463,465,466,468,469,470,472,473,475,476,477,480,481,482,485,486,487,488,489,490,491,492,493,494,495,496,497,498,499,500,503,504,505,507,508,510,511,512,514,515,517,518,519,522,523,524,526,527,529,530,531,534,535,536,538,539,541,542,543,545,546,548,549,550,552,553,555,556,557,559,560,562,563,564,566,567,569,570,571,573,574,576,577,578,580,581,583,584,585,587,588,590,591,592,594,595,597,598,599,601,602,604,605,606,608,609,611,612,613,614,622,624,625,627,628,629,632,633,634,636,637,639,640,641,642,643,644,645,669,672,673,674,676,677,679,680,681,683,684,686,687,688,690,691,693,694]
def hK(P:Params):Frag:=hA.map fun a=>(a,hO P 38 a)
def hH(P:Params):Heap:=absHeap (hT 38 P) 695 {}
theorem htw:(m9 hT&&m9 hH&&m9 hV&&m9 hQ&&m9 hK&&m9 pw_turnsigns_k94_desk_refuses)=true:=by k_qdec
abbrev jF:=pw_turnsigns_k94_desk_refuses
noncomputable abbrev fb:=tw14364793385576792824
noncomputable abbrev fp:=tw18160184751941884717
noncomputable abbrev ft:=tw1365888209660547128
noncomputable abbrev fv:=tw6444238432781053784
theorem My:o3 11 (some (.ref 6)) 12 15 187 ⟨0,0,0,0⟩ ⟨0,0,0,0⟩ tw15667345088766844465 tw11892475500146522536 fb fp ft fv:=fun w=>by kernel_rfl
theorem hpre:o3 11 (some (.ref 6)) 12 15 187 ⟨0,0,0,0⟩ ⟨0,0,0,0⟩ topGo denote treeTable pw_turnsigns_k94_desk_refuses hT hV:=by rw[te15667345088766844465,te11892475500146522536,Yw,te18160184751941884717,te1365888209660547128,te6444238432781053784];exact My
theorem Mz:o4 11 (some (.ref 6)) 1 15 187 ⟨0,0,0,0⟩ ⟨0,0,0,0⟩ ⟨0,0,0,0⟩ tw14374325043358763698 fb fp ft fv:=fun w=>by kernel_rfl
theorem rL:o4 11 (some (.ref 6)) 1 15 187 ⟨0,0,0,0⟩ ⟨0,0,0,0⟩ ⟨0,0,0,0⟩ segRun treeTable pw_turnsigns_k94_desk_refuses hT hV:=by rw[te14374325043358763698,Yw,te18160184751941884717,te1365888209660547128,te6444238432781053784];exact Mz
theorem i9{m0:Nat}{ann:Option Value}{n i j k n0 t0 n1 t1:Nat}{q q0 q1:Pos}(h:iC m0 ann n i j k n0 t0 n1 t1 q q0 q1 tw10110043849684766642 fb fp ft fv):iC m0 ann n i j k n0 t0 n1 t1 q q0 q1 segRunT treeTable pw_turnsigns_k94_desk_refuses hT hV:=by rw[te10110043849684766642,Yw,te18160184751941884717,te1365888209660547128,te6444238432781053784];exact h
theorem hp0:iC 11 (some (.ref 6)) 10 0 1 0 15 187 15 189 ⟨0,0,0,0⟩ ⟨0,0,0,0⟩ ⟨1,0,1,8⟩ segRunT treeTable jF hT hV:=i9 fun w=>by kernel_rfl
theorem hp1:iC 11 (some (.ref 6)) 187 1 1 1 15 189 28 207 ⟨0,0,0,0⟩ ⟨1,0,1,8⟩ ⟨2,0,3,8⟩ segRunT treeTable jF hT hV:=i9 fun w=>by kernel_rfl
theorem hp2:iC 11 (some (.ref 6)) 214 2 1 2 28 207 40 223 ⟨0,0,0,0⟩ ⟨2,0,3,8⟩ ⟨4,0,5,8⟩ segRunT treeTable jF hT hV:=i9 fun w=>by kernel_rfl
theorem hp3:iC 11 (some (.ref 6)) 214 3 1 3 40 223 52 239 ⟨0,0,0,0⟩ ⟨4,0,5,8⟩ ⟨6,0,7,8⟩ segRunT treeTable jF hT hV:=i9 fun w=>by kernel_rfl
theorem tP:iC 11 (some (.ref 6)) 214 4 1 4 52 239 64 255 ⟨0,0,0,0⟩ ⟨6,0,7,8⟩ ⟨8,0,9,8⟩ segRunT treeTable jF hT hV:=i9 fun w=>by kernel_rfl
theorem qQ:iC 11 (some (.ref 6)) 214 5 1 5 64 255 76 271 ⟨0,0,0,0⟩ ⟨8,0,9,8⟩ ⟨10,0,11,8⟩ segRunT treeTable jF hT hV:=i9 fun w=>by kernel_rfl
theorem tQ:iC 11 (some (.ref 6)) 214 6 1 6 76 271 88 287 ⟨0,0,0,0⟩ ⟨10,0,11,8⟩ ⟨12,0,13,8⟩ segRunT treeTable jF hT hV:=i9 fun w=>by kernel_rfl
theorem qA:iC 11 (some (.ref 6)) 214 7 1 7 88 287 100 303 ⟨0,0,0,0⟩ ⟨12,0,13,8⟩ ⟨14,0,15,8⟩ segRunT treeTable jF hT hV:=i9 fun w=>by kernel_rfl
theorem tR:iC 11 (some (.ref 6)) 214 8 1 8 100 303 112 319 ⟨0,0,0,0⟩ ⟨14,0,15,8⟩ ⟨16,0,17,8⟩ segRunT treeTable jF hT hV:=i9 fun w=>by kernel_rfl
theorem tS:iC 11 (some (.ref 6)) 214 9 1 9 112 319 124 335 ⟨0,0,0,0⟩ ⟨16,0,17,8⟩ ⟨18,0,19,8⟩ segRunT treeTable jF hT hV:=i9 fun w=>by kernel_rfl
theorem NA:iC 11 (some (.ref 6)) 214 10 1 10 124 335 136 351 ⟨0,0,0,0⟩ ⟨18,0,19,8⟩ ⟨20,0,21,8⟩ segRunT treeTable jF hT hV:=i9 fun w=>by kernel_rfl
theorem NB:iC 11 (some (.ref 6)) 214 11 1 11 136 351 148 367 ⟨0,0,0,0⟩ ⟨20,0,21,8⟩ ⟨22,0,23,8⟩ segRunT treeTable jF hT hV:=i9 fun w=>by kernel_rfl
theorem NC:iC 11 (some (.ref 6)) 214 12 1 12 148 367 160 383 ⟨0,0,0,0⟩ ⟨22,0,23,8⟩ ⟨24,0,25,8⟩ segRunT treeTable jF hT hV:=i9 fun w=>by kernel_rfl
theorem ND:iC 11 (some (.ref 6)) 214 13 1 13 160 383 172 399 ⟨0,0,0,0⟩ ⟨24,0,25,8⟩ ⟨26,0,27,8⟩ segRunT treeTable jF hT hV:=i9 fun w=>by kernel_rfl
theorem NF:iC 11 (some (.ref 6)) 214 14 1 14 172 399 184 415 ⟨0,0,0,0⟩ ⟨26,0,27,8⟩ ⟨28,0,29,8⟩ segRunT treeTable jF hT hV:=i9 fun w=>by kernel_rfl
theorem NG:iC 11 (some (.ref 6)) 148 15 6 15 184 415 213 451 ⟨0,0,0,0⟩ ⟨28,0,29,8⟩ ⟨45,0,46,82⟩ segRunT treeTable jF hT hV:=i9 fun w=>by kernel_rfl
theorem NH:iC 11 (some (.ref 6)) 139 21 5 16 213 451 242 485 ⟨0,0,0,0⟩ ⟨45,0,46,82⟩ ⟨58,0,59,46⟩ segRunT treeTable jF hT hV:=i9 fun w=>by kernel_rfl
theorem NI:iC 11 (some (.ref 6)) 134 26 6 17 242 485 268 518 ⟨0,0,0,0⟩ ⟨58,0,59,46⟩ ⟨75,0,77,41⟩ segRunT treeTable jF hT hV:=i9 fun w=>by kernel_rfl
theorem NJ:iC 11 (some (.ref 6)) 146 32 6 18 268 518 297 552 ⟨0,0,0,0⟩ ⟨75,0,77,41⟩ ⟨90,0,91,77⟩ segRunT treeTable jF hT hV:=i9 fun w=>by kernel_rfl
theorem NK:iC 11 (some (.ref 6)) 116 38 4 19 297 552 308 577 ⟨0,0,0,0⟩ ⟨90,0,91,77⟩ ⟨106,0,106,5⟩ segRunT treeTable jF hT hV:=i9 (by unfold iC;refine kF "special-get-raises" fun b w=>?_;cases b<;>kernel_rfl)
theorem NL:iC 11 (some (.ref 6)) 139 42 4 20 308 577 324 606 ⟨0,0,0,0⟩ ⟨106,0,106,5⟩ ⟨113,0,118,37⟩ segRunT treeTable jF hT hV:=i9 (by unfold iC;refine kF "special-get-raises" fun b w=>?_;cases b<;>kernel_rfl)
theorem NM:iC 11 (some (.ref 6)) 147 46 6 21 324 606 353 641 ⟨0,0,0,0⟩ ⟨113,0,118,37⟩ ⟨135,0,137,101⟩ segRunT treeTable jF hT hV:=i9 fun w=>by kernel_rfl
theorem NN:iC 11 (some (.ref 6)) 121 52 4 22 353 641 377 677 ⟨0,0,0,0⟩ ⟨135,0,137,101⟩ ⟨149,0,153,55⟩ segRunT treeTable jF hT hV:=i9 fun w=>by kernel_rfl
theorem NO:iC 11 (some (.ref 6)) 151 56 6 23 377 677 408 714 ⟨0,0,0,0⟩ ⟨149,0,153,55⟩ ⟨169,0,170,31⟩ segRunT treeTable jF hT hV:=i9 fun w=>by kernel_rfl
theorem NP:iC 11 (some (.ref 6)) 143 62 5 24 408 714 441 748 ⟨0,0,0,0⟩ ⟨169,0,170,31⟩ ⟨179,0,180,25⟩ segRunT treeTable jF hT hV:=i9 fun w=>by kernel_rfl
theorem NQ:iC 11 (some (.ref 6)) 30 67 1 25 441 748 448 755 ⟨0,0,0,0⟩ ⟨179,0,180,25⟩ ⟨181,0,182,41⟩ segRunT treeTable jF hT hV:=i9 fun w=>by kernel_rfl
theorem NR:iC 11 (some (.ref 6)) 139 68 1 26 448 755 449 772 ⟨0,0,0,0⟩ ⟨181,0,182,41⟩ ⟨183,0,183,5⟩ segRunT treeTable jF hT hV:=i9 (by unfold iC;refine kF "special-get-raises" fun b w=>?_;cases b<;>kernel_rfl)
theorem NS:iC 11 (some (.ref 6)) 129 69 5 27 449 772 477 805 ⟨0,0,0,0⟩ ⟨183,0,183,5⟩ ⟨196,0,196,8⟩ segRunT treeTable jF hT hV:=i9 fun w=>by kernel_rfl
theorem NU:iC 11 (some (.ref 6)) 89 74 6 28 477 805 487 825 ⟨0,0,0,0⟩ ⟨196,0,196,8⟩ ⟨207,0,207,12⟩ segRunT treeTable jF hT hV:=i9 fun w=>by kernel_rfl
theorem NV:iC 11 (some (.ref 6)) 225 80 1 29 487 825 500 872 ⟨0,0,0,0⟩ ⟨207,0,207,12⟩ ⟨208,0,208,5⟩ segRunT treeTable jF hT hV:=i9 (by unfold iC;refine kF "special-get-raises" fun b w=>?_;cases b<;>kernel_rfl)
theorem NW:iC 11 (some (.ref 6)) 142 81 5 30 500 872 531 907 ⟨0,0,0,0⟩ ⟨208,0,208,5⟩ ⟨228,0,234,16⟩ segRunT treeTable jF hT hV:=i9 fun w=>by kernel_rfl
theorem NX:iC 11 (some (.ref 6)) 147 86 5 31 531 907 564 945 ⟨0,0,0,0⟩ ⟨228,0,234,16⟩ ⟨243,0,244,43⟩ segRunT treeTable jF hT hV:=i9 fun w=>by kernel_rfl
theorem NY:iC 11 (some (.ref 6)) 147 91 5 32 564 945 599 981 ⟨0,0,0,0⟩ ⟨243,0,244,43⟩ ⟨253,0,254,39⟩ segRunT treeTable jF hT hV:=i9 fun w=>by kernel_rfl
theorem NZ:iC 11 (some (.ref 6)) 149 96 3 33 599 981 614 1006 ⟨0,0,0,0⟩ ⟨253,0,254,39⟩ ⟨259,0,259,6⟩ segRunT treeTable jF hT hV:=i9 (by unfold iC;refine kF "special-get-raises" fun b w=>?_;cases b<;>kernel_rfl)
theorem Na:iC 11 (some (.ref 6)) 107 99 1 34 614 1006 615 1019 ⟨0,0,0,0⟩ ⟨259,0,259,6⟩ ⟨260,0,260,7⟩ segRunT treeTable jF hT hV:=i9 (by unfold iC;refine kF "special-get-raises" fun b w=>?_;cases b<;>kernel_rfl)
theorem Nb:iC 11 (some (.ref 6)) 282 100 1 35 615 1019 648 1061 ⟨0,0,0,0⟩ ⟨260,0,260,7⟩ ⟨261,0,283,33⟩ segRunT treeTable jF hT hV:=i9 fun w=>by kernel_rfl
theorem Nc:iC 11 (some (.ref 6)) 129 101 5 36 648 1061 674 1096 ⟨0,0,0,0⟩ ⟨261,0,283,33⟩ ⟨303,0,318,33⟩ segRunT treeTable jF hT hV:=i9 fun w=>by kernel_rfl
theorem Nd:iC 11 (some (.ref 6)) 95 106 3 37 674 1096 695 1124 ⟨0,0,0,0⟩ ⟨303,0,318,33⟩ ⟨338,0,352,120⟩ segRunT treeTable jF hT hV:=i9 fun w=>by kernel_rfl
theorem Nf:o5 11 (some (.ref 6)) 2 38 695 1124 ⟨0,0,0,0⟩ ⟨338,0,352,120⟩ tw14082659384304107361 fb fp ft fv:=fun w=>by kernel_rfl
theorem rM:o5 11 (some (.ref 6)) 2 38 695 1124 ⟨0,0,0,0⟩ ⟨338,0,352,120⟩ topRun treeTable pw_turnsigns_k94_desk_refuses hT hV:=by rw[te14082659384304107361,Yw,te18160184751941884717,te1365888209660547128,te6444238432781053784];exact Nf
theorem o6(w:World)(os:OsState):topRun treeTable pw_turnsigns_k94_desk_refuses w 11 (some (.ref 6)) (Nat.add 12 (Nat.add 1 (Nat.add 10 (Nat.add 187 (Nat.add 214 (Nat.add 214 (Nat.add 214 (Nat.add 214 (Nat.add 214 (Nat.add 214 (Nat.add 214 (Nat.add 214 (Nat.add 214 (Nat.add 214 (Nat.add 214 (Nat.add 214 (Nat.add 214 (Nat.add 148 (Nat.add 139 (Nat.add 134 (Nat.add 146 (Nat.add 116 (Nat.add 139 (Nat.add 147 (Nat.add 121 (Nat.add 151 (Nat.add 143 (Nat.add 30 (Nat.add 139 (Nat.add 129 (Nat.add 89 (Nat.add 225 (Nat.add 142 (Nat.add 147 (Nat.add 147 (Nat.add 149 (Nat.add 107 (Nat.add 282 (Nat.add 129 (Nat.add 95 (2))))))))))))))))))))))))))))))))))))))))) ⟨boot_heap w.params,⟨[]⟩,boot_drawn,boot_toks,os⟩ (topStub pw_turnsigns_k94_desk_refuses)=some (SharedT.abs ⟨hT 38 w.params,695,{},⟨[]⟩,{},1124,os⟩):=hgo hpre w os (pS rL w os (gF hp0 w os (gF hp1 w os (gF hp2 w os (gF hp3 w os (gF tP w os (gF qQ w os (gF tQ w os (gF qA w os (gF tR w os (gF tS w os (gF NA w os (gF NB w os (gF NC w os (gF ND w os (gF NF w os (gF NG w os (gF NH w os (gF NI w os (gF NJ w os (gF NK w os (gF NL w os (gF NM w os (gF NN w os (gF NO w os (gF NP w os (gF NQ w os (gF NR w os (gF NS w os (gF NU w os (gF NV w os (gF NW w os (gF NX w os (gF NY w os (gF NZ w os (gF Na w os (gF Nb w os (gF Nc w os (gF Nd w os (pT (by kernel_rfl) rM w os))))))))))))))))))))))))))))))))))))))))
theorem Ng:pU tw18160184751941884717 tw18197430885342532964 tw5470450885566289541 tw14788062289967892879 hA [689] 1124 ["SIGNS","NUMBERS","TURNS","LINES","MAKING","TELLING"]:=by unfold pU;intro w;kernel_rfl
theorem Nh:pV tw18160184751941884717 tw18197430885342532964 tw5470450885566289541 tw14788062289967892879 hA [689] 1124 ["SIGNS","NUMBERS","TURNS","LINES","MAKING","TELLING"]:=by unfold pV;intro w;kernel_rfl
theorem Ni:pW tw18160184751941884717 tw18197430885342532964 tw5470450885566289541 tw14788062289967892879 hA [689] 1124 ["SIGNS","NUMBERS","TURNS","LINES","MAKING","TELLING"]:=by unfold pW;intro w;kernel_rfl
theorem Nj:pX tw18160184751941884717 tw18197430885342532964 tw5470450885566289541 tw14788062289967892879 hA [689] 1124 ["SIGNS","NUMBERS","TURNS","LINES","MAKING","TELLING"]:=by unfold pX;intro w;kernel_rfl
theorem Nk:pY tw18160184751941884717 tw18197430885342532964 tw5470450885566289541 tw14788062289967892879 hA [689] 1124 ["SIGNS","NUMBERS","TURNS","LINES","MAKING","TELLING"]:=by unfold pY;intro w;kernel_rfl
theorem Nl:pZ tw18160184751941884717 tw18197430885342532964 tw5470450885566289541 tw14788062289967892879 hA [689] 1124 ["SIGNS","NUMBERS","TURNS","LINES","MAKING","TELLING"]:=by unfold pZ;intro w;kernel_rfl
theorem Nm:p6 tw18160184751941884717 tw18197430885342532964 tw5470450885566289541 tw14788062289967892879 hA [689] 1124 ["SIGNS","NUMBERS","TURNS","LINES","MAKING","TELLING"]:=by unfold p6;intro w;kernel_rfl
theorem Nn:p7 tw18160184751941884717 tw18197430885342532964 tw5470450885566289541 tw14788062289967892879 hA [689] 1124 ["SIGNS","NUMBERS","TURNS","LINES","MAKING","TELLING"]:=by unfold p7;intro w;kernel_rfl
theorem Np:p8 tw18160184751941884717 tw18197430885342532964 tw5470450885566289541 tw14788062289967892879 hA [689] 1124 ["SIGNS","NUMBERS","TURNS","LINES","MAKING","TELLING"]:=by unfold p8;intro w;kernel_rfl
theorem Nq:oN tw18160184751941884717 tw18197430885342532964 tw5470450885566289541 tw14788062289967892879 hA [689] 1124 ["SIGNS","NUMBERS","TURNS","LINES","MAKING","TELLING"]:=by unfold oN;intro w;kernel_rfl
theorem Nr:oO tw18160184751941884717 tw18197430885342532964 tw5470450885566289541 tw14788062289967892879 hA [689] 1124 ["SIGNS","NUMBERS","TURNS","LINES","MAKING","TELLING"]:=by unfold oO;intro w;kernel_rfl
theorem Nt:oP tw18160184751941884717 tw18197430885342532964 tw5470450885566289541 tw14788062289967892879 hA [689] 1124 ["SIGNS","NUMBERS","TURNS","LINES","MAKING","TELLING"]:=by unfold oP;intro w;kernel_rfl
theorem Nu:rJ tw18160184751941884717 tw18197430885342532964 tw5470450885566289541 tw14788062289967892879 hA [689] 1124 ["SIGNS","NUMBERS","TURNS","LINES","MAKING","TELLING"]:=⟨Ng,Nh,Ni,Nj,Nk,Nl,Nm,Nn,Np,Nq,Nr,Nt⟩
theorem hlk:rJ pw_turnsigns_k94_desk_refuses hQ hH hK hA [689] 1124 ["SIGNS","NUMBERS","TURNS","LINES","MAKING","TELLING"]:=by rw[te18160184751941884717,te18197430885342532964,te5470450885566289541,te14788062289967892879];exact Nu
abbrev o7:Hook:=kmHook hK hA (fun _=>by kernel_rfl) [689]
theorem tT:LeftO pw_turnsigns_k94_desk_refuses hQ ["SIGNS","NUMBERS","TURNS","LINES","MAKING","TELLING"] (fun s=>xlAt hQ [] s&&recOk [] s) (Hook.obs o7) (Hook.val o7) 12396:=hleft (fun _=>by kernel_rfl) (by kernel_rfl) (fun _=>by kernel_rfl) (by decide) (by decide) o6 hlk
abbrev tU:DefRec:=⟨"law",sF (hS 108),sG (hS 108),sH (hS 108),tG (hS 108)⟩
end
end K94
namespace K94
open PySem PySem.W PyProof.Rows
theorem Nv(hc:WalkO hQ ["SIGNS","NUMBERS","TURNS","LINES","MAKING","TELLING"] (XL hQ []) (Hook.says o7) PySem.Challenge.rw_turnsigns_k94_desk_refuses.row.toRowW tU [] fun f vs=>call f vs):PySem.Challenge.rw_turnsigns_k94_desk_refuses.Holds:=by
 o_law
 exact holds_open (Xt:=fun s=>xlAt hQ [] s&&recOk [] s) (Yf:=Hook.obs o7) (Ya:=Hook.val o7) (N:=12396) tT (Hook.of o7) (Hook.keeps o7) (fun s e=>xl_of s (Bool.and_eq_true_iff.mp e).1) XL.keeps (by kernel_rfl) (by kernel_rfl) (by kernel_rfl) (fun s e=>recFacts_of (Bool.and_eq_true_iff.mp e).2) rfl (by assumption) (by rfl') ⟨rfl,rfl,rfl,rfl,rfl,by rfl'⟩ ⟨[.list []],by rfl',by rfl'⟩ hc
end K94
namespace L2
open PySem PySem.Spec PyProof.Rows
abbrev Key:=Sum Int Str
def AE:Key->Value->Bool
 |.inl k,v=>Value.isInt k v
 |.inr x,v=>Value.isStrOf x v
def Nw(w:World):Key->Int
 |.inl k=>hashInt k
 |.inr x=>hashStr w x
theorem V3:∀{k:Key}{v:Value},AE k v=true->(∃i t,k=Sum.inl i/\v=Value.int i t)\/(∃x t,k=Sum.inr x/\v=Value.str x t)
 |.inl i,v,h=>by
  obtain⟨t,e⟩:=Value.isInt_shape (k:=i) (v:=v) h;exact .inl ⟨i,t,rfl,e⟩
 |.inr x,v,h=>by
  obtain⟨t,e⟩:=Value.isStrOf_shape (x:=x) (v:=v) h;exact .inr ⟨x,t,rfl,e⟩
theorem Nx(i:Int)(t:Tok):AE (.inl i) (.int i t)=true:=by simp[AE,Value.isInt]
theorem Ny(x:Str)(t:Tok):AE (.inr x) (.str x t)=true:=by simp[AE,Value.isStrOf]
theorem Nz(a b:Int):decide ((Sum.inl a:Key)=Sum.inl b)=(a==b):=by
 by_cases e:a=b
 ·subst e;simp
 ·have h:¬ (Sum.inl a:Key)=Sum.inl b:=fun q=>e (Sum.inl.inj q)
  rw[Yd h];exact(Jb.mpr e).symm
theorem OB(a b:Str):decide ((Sum.inr a:Key)=Sum.inr b)=decide (a=b):=by
 by_cases e:a=b
 ·subst e;simp
 ·have h:¬ (Sum.inr a:Key)=Sum.inr b:=fun q=>e (Sum.inr.inj q)
  rw[Yd h,Yd e]
theorem OC(a:Int)(b:Str):decide ((Sum.inl a:Key)=Sum.inr b)=false:=Yd (fun q=>nomatch q)
theorem OD(a:Str)(b:Int):decide ((Sum.inr a:Key)=Sum.inl b)=false:=Yd (fun q=>nomatch q)
def F7(prog:Program)(w:World):PySem.KeyKind prog w Key where
 is:=AE
 hash:=Nw w
 inj:=fun v a b ha hb=>by
  rcases V3 ha with⟨i,t,rfl,rfl⟩|⟨x,t,rfl,rfl⟩
  ·rcases V3 hb with⟨j,u,rfl,e⟩|⟨y,u,rfl,e⟩
   ·injection e with e1 _;rw[e1]
   ·exact nomatch e
  ·rcases V3 hb with⟨j,u,rfl,e⟩|⟨y,u,rfl,e⟩
   ·exact nomatch e
   ·injection e with e1 _;rw[e1]
 byValue:=fun k v h=>by
  rcases V3 h with⟨i,t,rfl,rfl⟩|⟨x,t,rfl,rfl⟩<;>rfl
 pyHash:=fun hv h=>by
  rcases V3 hv with⟨i,t,rfl,rfl⟩|⟨x,t,rfl,rfl⟩
  ·exact wpAny_pyHash_int h
  ·exact wpAny_pyHash_str h
 eqBool:=fun hu hv h=>by
  rcases V3 hu with⟨i,t,rfl,rfl⟩|⟨x,t,rfl,rfl⟩
  ·rcases V3 hv with⟨j,u,rfl,rfl⟩|⟨y,u,rfl,rfl⟩
   ·rw[Nz]at h;exact wpAny_eqBool_int h
   ·rw[OC]at h;exact SeqAt.EqAt.int_str i t y u _ _ _ _ h
  ·rcases V3 hv with⟨j,u,rfl,rfl⟩|⟨y,u,rfl,rfl⟩
   ·rw[OD]at h;exact SeqAt.EqAt.str_int x t j u _ _ _ _ h
   ·rw[OB]at h;exact wpAny_eqBool_str h
 «strs»:=fun k x t v h=>by
  rcases V3 h with⟨i,u,rfl,e⟩|⟨y,u,rfl,e⟩
  ·exact nomatch e
  ·injection e with e1 _
   subst e1;cases v<;>rfl
theorem OF(prog:Program)(w:World)(i:Int)(t:Tok):(F7 prog w).is (.inl i) (.int i t)=true:=Nx i t
theorem OG(prog:Program)(w:World)(x:Str)(t:Tok):(F7 prog w).is (.inr x) (.str x t)=true:=Ny x t
inductive V where
 |non|bl (b:Bool)|int (i:Int)|str (x:Str)|byt (b:Array UInt8)|flt (b:UInt64)|ref (a:Addr)|ty (n:String)
 deriving DecidableEq
def E3:V->Value->Prop
 |.non,u=>u=Value.none
 |.bl b,u=>u=Value.bool b
 |.int i,u=>∃t,u=Value.int i t
 |.str x,u=>∃t,u=Value.str x t
 |.byt b,u=>∃t,u=Value.bytes b t
 |.flt b,u=>∃t,u=Value.float b t
 |.ref a,u=>u=Value.ref a
 |.ty n,u=>u=Value.type n
abbrev D6:List V->List Value->Prop:=Paired E3
theorem D6.length{xs:List V}{us:List Value}(r:D6 xs us):xs.length=us.length:=Paired.length r
theorem D6.get:∀{xs:List V}{us:List Value}{i:Nat}{x:V},D6 xs us->xs[i]? =some x->∃u,us[i]? =some u/\E3 x u
 |_,_,_,_,.nil,e=>by simp at e
 |_,_,0,_,.cons r _,e=>by simp at e;subst e;exact⟨_,rfl,r⟩
 |_,_,i+1,x,.cons _ t,e=>by
  obtain⟨u,h1,h2⟩:=D6.get (i:=i) (x:=x) t (by simpa using e)
  exact⟨u,by simpa using h1,h2⟩
theorem D6.append:∀{xs ys:List V}{us ws:List Value},D6 xs us->D6 ys ws->D6 (xs++ys) (us++ws)
 |_,_,_,_,.nil,s=>s
 |_,_,_,_,.cons r t,s=>.cons r (D6.append t s)
theorem D6.take:∀{xs:List V}{us:List Value}(n:Nat),D6 xs us->D6 (xs.take n) (us.take n)
 |_,_,0,_=>.nil
 |_,_,_+1,.nil=>.nil
 |_,_,n+1,.cons r t=>.cons r (D6.take n t)
theorem D6.drop:∀{xs:List V}{us:List Value}(n:Nat),D6 xs us->D6 (xs.drop n) (us.drop n)
 |_,_,0,r=>r
 |_,_,_+1,.nil=>.nil
 |_,_,n+1,.cons _ t=>D6.drop n t
def N8:Option V->Option Value->Prop
 |some v,some u=>E3 v u
 |none,none=>True
 |_,_=>False
def KV{κ:Type}:List (κ×V)->List (κ×Value)->Prop:=Paired fun(p:κ×V) (q:κ×Value)=>p.1=q.1/\E3 p.2 q.2
def kV:Key->V
 |.inl i=>.int i
 |.inr x=>.str x
inductive HO where
 |lst (xs:List V)
 |tup (xs:List V)
 |dK (kvs:List (Key×V))|dT (C:Addr->List Key->Prop) (kvs:List (List Key×V))|dX (es:Array DictEntry) (ep:Nat)
 |set (S:Int->Bool) (n:Nat)
 |ins (C dx:Addr) (fs:List (Str×V))
 |own (x:Addr)
 |xd (fs:List (Str×V))
 |met (f x:Addr)
 |rng (lo hi:Int)
 |frz (o:Obj) (u:HO)
 |tbl (ps:Array Value)
 |ext (φ:Heap->Prop)
abbrev Hp:=Addr->Option HO
def upd(H:Hp)(a:Addr)(o:HO):Hp:=fun b=>if b=a then some o else H b
theorem D9{H:Hp}{a:Addr}{o:HO}:upd H a o a=some o:=by unfold upd;rw[Qt rfl]
theorem C4{H:Hp}{a b:Addr}{o:HO}(h:b≠a):upd H a o b=H b:=by unfold upd;rw[Qd h]
theorem CS{H:Hp}{a:Addr}{o u:HO}:upd (upd H a o) a u=upd H a u:=by
 funext b;unfold upd;split<;>rfl
theorem J5{H:Hp}{a b:Addr}{o:HO}(h:H a=some o)(h':H b=none):a≠b:=by
 intro e;subst e;rw[h]at h';cases h'
def S9(h:Heap)(a:Addr)(items:Array Value):Prop:=∃o,h.get? a=some o/\o.cls=.type "tuple"/\o.dict=none/\∃n,o.data=.seq items n
theorem S9.tup{h:Heap}{a:Addr}{items:Array Value}:S9 h a items->IsTup h a items:=fun⟨o,e,c,_,d⟩=>⟨o,e,c,d⟩
theorem S9.lt{h:Heap}{a:Addr}{items:Array Value}(p:S9 h a items):a<h.objs.size:=p.tup.lt
theorem S9.new(h:Heap)(items:Array Value):S9 (h.push {cls:=.type "tuple",data:=.seq items}) h.objs.size items:=⟨_,Qw _ rfl,rfl,rfl,_,rfl⟩
section
variable(P:Program)(w:World)
def J3(H:Hp)(h:Heap)(a:Addr):HO->Prop
 |.lst xs=>xs.length≤sizeLine/\∃(its:List Value) (n:Nat),D6 xs its/\h.get? a=some {cls:=.type "list",data:=.seq its.toArray n}
 |.tup xs=>xs.length≤sizeLine/\∃its:List Value,D6 xs its/\S9 h a its.toArray
 |.dK kvs=>kvs.length≤sizeLine/\(a==sysModules)=false/\∃vs,KV kvs vs/\h.DictOf (F7 P w) a vs
 |.dT C kvs=>kvs.length≤sizeLine/\(a==sysModules)=false/\∃xs:List (List Key×Addr×Value),
   Paired (fun(p:List Key×V) (q:List Key×Addr×Value)=>p.1=q.1/\(H q.2.1=some (.tup (p.1.map kV))\/C q.2.1 p.1)/\E3 p.2 q.2.2) kvs xs/\
   ∃o es ep,h.get? a=some o/\o.ExactDict/\o.data=.dict es ep/\es.toList=xs.map (entryOfKey (tupleKind (F7 P w)))/\(xs.map (·.1)).Nodup
 |.dX es ep=>es.size≤sizeLine/\(a==sysModules)=false/\∃o,h.get? a=some o/\o.ExactDict/\o.data=.dict es ep
 |.set S n=>h.SetOf (intKind P w) a S n
 |.ins C dx fs=>H dx=some (.own a)/\fs.length≤1000/\dx≠a/\h.get? a=some (PySem.W.instObj C dx)/\
   ∃mA,h.Ns1 dx mA/\(∀f,N8 (fs.lookup f) (mA f))/\PySem.Within mA (fs.map (·.1))
 |.own _=>∃o,h.get? a=some o
 |.xd fs=>∃mA,h.Ns1 a mA/\∀f,N8 (fs.lookup f) (mA f)
 |.rng lo hi=>∃t u v,h.get? a=some {cls:=.type "range",data:=.fields #[.int lo t,.int hi u,.int 1 v]}
 |.frz o u=>h.get? a=some o/\J3 H h a u
 |.tbl ps=>h.get? a=some {cls:=.none,data:=.fields ps}
 |.met f x=>h.get? a=some (PySem.W.methodObj (.ref f) (.ref x))
 |.ext φ=>φ h/\(∃o,h.get? a=some o)/\∀h1 h2:Heap,φ h1->(∀o,h1.get? a=some o->h2.get? a=some o)->φ h2
def j6(H:Hp)(h:Heap):Prop:=∀a o,H a=some o->J3 P w H h a o
end
section
variable{P:Program}{w:World}{H H':Hp}{h h':Heap}{a:Addr}{o:HO}
theorem J3.lt(x:J3 P w H h a o):a<h.objs.size:=by
 cases o with
 |lst xs=>obtain⟨_,_,_,_,e⟩:=x;exact Qk e
 |tup xs=>obtain⟨_,_,_,p⟩:=x;exact p.lt
 |dK kvs=>obtain⟨_,_,_,_,o,_,_,e,_⟩:=x;exact Qk e
 |dT C kvs=>obtain⟨_,_,_,_,o,_,_,e,_⟩:=x;exact Qk e
 |dX es ep=>obtain⟨_,_,o,e,_⟩:=x;exact Qk e
 |set S n=>obtain⟨o,_,_,_,e,_⟩:=x;exact Qk e
 |ins C dx fs=>obtain⟨_,_,_,e,_⟩:=x;exact Qk e
 |own y=>obtain⟨_,e⟩:=x;exact Qk e
 |xd fs=>obtain⟨_,⟨_,_,_,e,_⟩,_⟩:=x;exact Qk e
 |rng lo hi=>obtain⟨_,_,_,e⟩:=x;exact Qk e
 |frz ob u=>obtain⟨e,_⟩:=x;exact Qk e
 |tbl ps=>exact Qk (show h.get? a=some _ from x)
 |met f y=>exact Qk (show h.get? a=some _ from x)
 |ext φ=>obtain⟨_,⟨_,e⟩,_⟩:=x;exact Qk e
theorem Paired.mapP{α β:Type}{F G:α->β->Prop}:∀{l₁:List α}{l₂:List β},Paired F l₁ l₂->(∀a b,F a b->G a b)->Paired G l₁ l₂
 |_,_,.nil,_=>.nil
 |_,_,.cons r t,f=>.cons (f _ _ r) (Paired.mapP t f)
theorem J3.stay(x:J3 P w H h a o)(k:∀b u,(b=a\/H b=some (.own a))->h.get? b=some u->h'.get? b=some u)
  (ho:∀b,H b=some (.own a)->H' b=some (.own a))(ht:∀b xs,H b=some (.tup xs)->H' b=some (.tup xs)):J3 P w H' h' a o:=by
 induction o with
 |lst xs=>obtain⟨z,its,n,r,e⟩:=x;exact⟨z,its,n,r,k _ _ (.inl rfl) e⟩
 |tup xs=>obtain⟨z,its,r,ob,e,c⟩:=x;exact⟨z,its,r,ob,k _ _ (.inl rfl) e,c⟩
 |dK kvs=>obtain⟨z,y,vs,r,ob,es,ep,e,c⟩:=x;exact⟨z,y,vs,r,ob,es,ep,k _ _ (.inl rfl) e,c⟩
 |dT C kvs=>
  obtain⟨z,y,xs,r,ob,es,ep,e,c⟩:=x;exact⟨z,y,xs,Paired.mapP r fun p q z=>⟨z.1,z.2.1.imp (ht _ _) id,z.2.2⟩,ob,es,ep,k _ _ (.inl rfl) e,c⟩
 |dX es ep=>obtain⟨z,y,ob,e,c⟩:=x;exact⟨z,y,ob,k _ _ (.inl rfl) e,c⟩
 |set S n=>obtain⟨ob,es,ep,t,e,c⟩:=x;exact⟨ob,es,ep,t,k _ _ (.inl rfl) e,c⟩
 |ins C dx fs=>
  obtain⟨d,z,ne,e,mA,⟨od,es,ep,e2,c⟩,r⟩:=x;exact⟨ho _ d,z,ne,k _ _ (.inl rfl) e,mA,⟨od,es,ep,k _ _ (.inr d) e2,c⟩,r⟩
 |own y=>obtain⟨ob,e⟩:=x;exact⟨ob,k _ _ (.inl rfl) e⟩
 |xd fs=>obtain⟨mA,⟨od,es,ep,e,c⟩,r⟩:=x;exact⟨mA,⟨od,es,ep,k _ _ (.inl rfl) e,c⟩,r⟩
 |rng lo hi=>obtain⟨t,u,v,e⟩:=x;exact⟨t,u,v,k _ _ (.inl rfl) e⟩
 |frz ob u ih=>obtain⟨e,q⟩:=x;exact⟨k _ _ (.inl rfl) e,ih q⟩
 |tbl ps=>
  have e:h.get? a=some {cls:=.none,data:=.fields ps}:=x
  show h'.get? a=some {cls:=.none,data:=.fields ps};exact k a _ (.inl rfl) e
 |met f y=>
  have e:h.get? a=some (PySem.W.methodObj (.ref f) (.ref y)):=x
  show h'.get? a=some (PySem.W.methodObj (.ref f) (.ref y));exact k a _ (.inl rfl) e
 |ext φ=>obtain⟨p,⟨o,e⟩,st⟩:=x;exact⟨st _ _ p fun o q=>k _ _ (.inl rfl) q,⟨o,k _ _ (.inl rfl) e⟩,st⟩
theorem j6.lt(x:j6 P w H h)(e:H a=some o):a<h.objs.size:=(x a o e).lt
theorem j6.fresh(x:j6 P w H h)(e:h.objs.size≤a):H a=none:=by
 cases q:H a with
 |none=>rfl
 |some u=>exact absurd (Qu (x.lt q) e) (Za _)
theorem j6.kept(x:j6 P w H h)(k:∀b u,h.get? b=some u->h'.get? b=some u):j6 P w H h':=fun a o e=>
 (x a o e).stay (fun b u _ q=>k b u q) (fun _ q=>q) fun _ _ q=>q
theorem j6.laid(x:j6 P w H h)(k:∀b u,h.get? b=some u->h'.get? b=some u)(hp:h.objs.size≤a)(new:J3 P w (upd H a o) h' a o):j6 P w (upd H a o) h':=fun b u e=>by
 have hn:=x.fresh hp
 by_cases hb:b=a
 ·subst hb;rw[D9]at e;cases e;exact new
 ·rw[C4 hb]at e
  exact(x b u e).stay (fun c v _ q=>k c v q) (fun c q=>by rw[C4 (J5 q hn)];exact q) fun c xs q=>by rw[C4 (J5 q hn)];exact q
end
def Rd(H:Hp)(a:Addr)(u:HO):Prop:=H a=some u\/ ∃o,H a=some (.frz o u)
theorem Rd.ok{P:Program}{w:World}{H:Hp}{h:Heap}{a:Addr}{u:HO}(r:Rd H a u)(x:j6 P w H h):J3 P w H h a u:=by
 rcases r with r|⟨o,r⟩
 ·exact x a u r
 ·obtain⟨_,q⟩:=x a _ r
  exact q
def qB:Option HO->Prop
 |some (.lst _)=>True
 |some (.dK _)=>True
 |some (.dT _ _)=>True
 |some (.dX _ _)=>True
 |some (.set _ _)=>True
 |some (.ins _ _ _)=>True
 |some (.ext _)=>True
 |_=>False
section
variable{P:Program}{w:World}{H:Hp}{h h':Heap}{x e:Addr}{o':HO}
theorem j6.write(ok:j6 P w H h)(mu:qB (H x))(he:e=x\/H e=some (.own x))(k:∀b u,b≠e->h.get? b=some u->h'.get? b=some u)(heo:∃u,h'.get? e=some u)
  (new:J3 P w (upd H x o') h' x o'):j6 P w (upd H x o') h':=fun b u q=>by
 have nown:∀c y,H c=some (.own y)->c≠x:=fun c y r z=>by subst z;rw[r]at mu;exact mu
 have ntup:∀c xs,H c=some (.tup xs)->c≠x:=fun c xs r z=>by subst z;rw[r]at mu;exact mu
 by_cases hb:b=x
 ·subst hb;rw[D9]at q;cases q;exact new
 ·rw[C4 hb]at q
  by_cases hbe:b=e
  ·have q':H b=some (.own x):=by
    rcases he with z|z
    ·exact absurd (hbe.trans z) hb
    ·rw[hbe];exact z
   rw[q]at q';cases q';obtain⟨v,hv⟩:=heo;exact⟨v,by rw[hbe];exact hv⟩
  ·refine(ok b u q).stay (fun c v hc r=>k c v ?_ r) (fun c r=>by rw[C4 (nown c b r)];exact r) fun c xs r=>by rw[C4 (ntup c xs r)];exact r
   rcases hc with rfl|hc
   ·exact hbe
   ·rintro rfl
    rcases he with z|z
    ·exact nown c b hc z
    ·rw[hc]at z;cases z;exact hb rfl
end
structure Un(fs ex:List Addr)(H H':Hp)(h h':Heap):Prop where
 keep:∀b o,h.get? b=some o->H b=none->b∉fs->b∉ex->h'.get? b=some o
 slot:∀b o,h.get? b=some o->H b=none->b∈fs->b∉ex->∃sl,h'.get? b=some {o with slots:=sl}
 free:∀b o,h.get? b=some o->H b=none->b∉ex->H' b=none
 there:∀b o,h.get? b=some o->b∉ex->∃o',h'.get? b=some o'
 tups:∀b xs,H b=some (.tup xs)->H' b=some (.tup xs)
 frzs:∀b o u,H b=some (.frz o u)->H' b=some (.frz o u)
 tbls:∀b ps,H b=some (.tbl ps)->∃more,H' b=some (.tbl (ps++more))
section
variable{fs fs' ex ex':List Addr}{H H1 H2:Hp}{h h1 h2 h':Heap}{a x e:Addr}{o:HO}
theorem Un.any(u:Un fs ex H H1 h h1){b:Addr}{ob:Obj}(q:h.get? b=some ob)(n:H b=none)(hx:b∉ex):∃sl,h1.get? b=some {ob with slots:=sl}:=by
 by_cases hb:b∈fs
 ·exact u.slot b ob q n hb hx
 ·exact⟨ob.slots,u.keep b ob q n hb hx⟩
theorem Un.kept(k:∀b u,h.get? b=some u->h'.get? b=some u):Un fs ex H H h h':=
 ⟨fun b ob q _ _ _=>k b ob q,fun b ob q _ _ _=>⟨ob.slots,k b ob q⟩,fun _ _ _ n _=>n,fun b ob q _=>⟨ob,k b ob q⟩,fun _ _ q=>q,fun _ _ _ q=>q,fun _ ps q=>⟨#[],by rw[q];simp⟩⟩
theorem Un.refl:Un fs ex H H h h:=Un.kept fun _ _ q=>q
theorem Un.laid(k:∀b u,h.get? b=some u->h'.get? b=some u)(hp:h.objs.size≤a)(hn:H a=none):Un fs ex H (upd H a o) h h' where
 keep:=fun b u q _ _ _=>k b u q
 slot:=fun b u q _ _ _=>⟨u.slots,k b u q⟩
 free:=fun b u q n _=>by rw[C4 (Qh (Qu (Qk q) hp))];exact n
 there:=fun b u q _=>⟨u,k b u q⟩
 tups:=fun b xs q=>by rw[C4 (J5 q hn)];exact q
 frzs:=fun b u xs q=>by rw[C4 (J5 q hn)];exact q
 tbls:=fun b ps q=>⟨#[],by rw[C4 (J5 q hn),q];simp⟩
theorem Un.write(mu:qB (H x))(he:e=x\/H e=some (.own x))(k:∀b u,b≠e->h.get? b=some u->h'.get? b=some u)(heo:∃u,h'.get? e=some u):Un fs ex H (upd H x o) h h':=by
 have hx:∀b,H b=none->b≠x:=fun b n z=>by subst z;rw[n]at mu;exact mu
 have hb:∀b,H b=none->b≠e:=fun b n z=>by
  subst z
  rcases he with r|r
  ·exact hx b n r
  ·rw[n]at r;cases r
 have hm:∀b u,H b=some u-> ¬ qB (some u)->b≠x:=fun b u q nm z=>by subst z;rw[q]at mu;exact nm mu
 refine⟨fun b u q n _ _=>k b u (hb b n) q,fun b u q n _ _=>⟨u.slots,k b u (hb b n) q⟩,fun b u q n _=>by rw[C4 (hx b n)];exact n,fun b u q _=>?_,
  fun b xs q=>by rw[C4 (hm b _ q fun z=>z)];exact q,fun b u xs q=>by rw[C4 (hm b _ q fun z=>z)];exact q,fun b ps q=>⟨#[],by rw[C4 (hm b _ q fun z=>z),q];simp⟩⟩
 by_cases hbe:b=e
 ·subst hbe;exact heo
 ·exact⟨u,k b u hbe q⟩
end
def qR(h:Heap)(H:Hp):List Addr:=(List.range h.objs.size).filter fun a=>(H a).isSome
def U0(h:Heap)(H:Hp):Heap:=PySem.W.hideAll h (qR h H)
theorem OH(h:Heap)(H:Hp):(U0 h H).objs.size=h.objs.size:=PySem.W.hideAll_size _ _
theorem OJ{h:Heap}{H:Hp}{b:Addr}{o:Obj}(e:h.get? b=some o)(n:H b=none):(U0 h H).get? b=some o:=
 PySem.W.hideAll_get _ e fun hm=>by
  have q:(H b).isSome=true:=(List.mem_filter.mp hm).2
  rw[n]at q;simp at q
theorem OK{h:Heap}{H:Hp}{b:Addr}{o:Obj}(e:(U0 h H).get? b=some o):h.get? b=some o/\H b=none:=by
 have e':h.get? b=some o:=PySem.W.of_hideAll (qR h H) e
 refine⟨e',?_⟩;cases q:H b with
 |none=>rfl
 |some x=>
  have hm:b∈qR h H:=List.mem_filter.mpr ⟨List.mem_range.mpr (Qk e'),by simp[q]⟩
  have z:(U0 h H).get? b=none:=PySem.W.hideAll_none (qR h H) hm
  rw[z]at e;cases e
def OL(g h:Heap)(L:Addr):OA:=(List.range h.objs.size).filterMap fun a=>if a=L\/(g.get? a).isSome=true then none else(h.get? a).map fun o=>(a,o)
def rest(g h:Heap)(L d:Addr):OA:=(OL g h L).filter fun p=>decide (p.1≠d)
structure Mod(K:Qq)(mg:OI)(base:Heap):Prop where
 kin:K.In base
 glob:base.Ns mainGlobals mg
 blt:∃mb,base.Ns builtinsNs mb/\∀x:Str,x≠"__name__"->mb x=bootBuiltins x
 nolimit:base.NoLimit
structure Cx where
 prog:Program
 w:World
 K:Qq
 mg:OI
 base:Heap
 A:Around
 N:List Str
 s₀:Shared
 H₀:Hp
 env:Env
 outer:List Env
 stack:List Env
 ex:List Addr
 fn:Str->Bool
 calm:Bool
 pn:OA
 xe:OU
def iN(l:List Env):List Addr:=l.filterMap (·.frame)
abbrev Cx.fs(X:Cx):List Addr:=iN X.outer
def oB(sc:Scope)(x:Str):Prop:=sc.names.lookup x=some .local\/sc.names.lookup x=some .cell\/sc.names.lookup x=some .free
def Loc(sc:Scope)(x:Str):Prop:=sc.names.lookup x=some .local\/sc.names.lookup x=some .cell
def Hv(env:Env)(h:Heap)(m:OI)(x:Str)(u:Value):Prop:=
 (env.kindOf x=some .local/\m x=some u)\/((env.kindOf x=some .cell\/env.kindOf x=some .free)/\∃c,env.cells.lookup x=some c/\h.IsCell c (some u))
structure Cx.Ok(X:Cx):Prop where
 mod:Mod X.K X.mg X.base
 kind:X.env.scope.kind=.function
 glob:X.env.globals=mainGlobals
 blt:X.env.builtins=builtinsNs
 above:X.s₀.heap.objs.size≤X.env.locals
 inj:∀x y c,X.env.cells.lookup x=some c->X.env.cells.lookup y=some c->x=y
 has:∀x,(X.env.kindOf x=some .cell\/X.env.kindOf x=some .free)->∃c,X.env.cells.lookup x=some c
 cab:∀x c,X.fn x=true->X.env.cells.lookup x=some c->X.s₀.heap.objs.size≤c
 hd:X.calm=true->X.A.handled=none
 frames:X.A.frames=some X.stack
 stk:X.stack=X.outer\/(X.stack=X.env::X.outer/\X.env.frame=some X.env.locals)
 exf:∀b∈X.ex,b≠X.env.locals/\∀x c,X.env.cells.lookup x=some c->c≠b
 bs:∀b o,X.base.get? b=some o->X.s₀.heap.get? b=some o/\X.H₀ b=none
 bsz:X.base.objs.size≤X.s₀.heap.objs.size
 noex:∀b o,X.base.get? b=some o->b∉X.ex
 exfs:∀b∈X.ex,b∉X.fs
 funs:X.s₀.heap.FunFrames X.base X.outer
 frf:∀b∈X.fs,X.H₀ b=none
structure Inv(X:Cx)(pins:OA)(σ:List (Option V))(H:Hp)(s:Shared):Prop where
 ok:X.Ok
 os:s.os=X.s₀.os
 bare:AllBare s.gens
 base:Un X.fs X.ex X.H₀ H X.s₀.heap s.heap
 loc:∃m,s.heap.Ns X.env.locals m/\∀(i:Nat) (x:Str) (v:V),X.N[i]? =some x->σ[i]? =some (some v)->oB X.env.scope x->∃u,E3 v u/\Hv X.env s.heap m x u
 cell:∀x c,X.env.cells.lookup x=some c->∃v,s.heap.IsCell c v
 free:H X.env.locals=none
 freeC:∀x c,X.env.cells.lookup x=some c->H c=none
 pin:∀p∈X.pn++pins,s.heap.get? p.1=some p.2/\H p.1=none/\p.1≠X.env.locals/\p.1∉X.fs/\∀v,p.2.data≠.cell v
 hok:j6 X.prog X.w H s.heap
 len:σ.length=X.N.length
section
variable{X:Cx}{pins:OA}{σ:List (Option V)}{H H':Hp}{s:Shared}{h':Heap}
theorem Cx.Ok.nofr(ok:X.Ok){b:Addr}{o:Obj}(e:X.base.get? b=some o):b∉X.fs:=fun hb=>by
 have:=(ok.funs.mem hb).1;rw[e]at this;cases this
theorem Inv.bs(I:Inv X pins σ H s):∀b o,X.base.get? b=some o->s.heap.get? b=some o/\H b=none:=fun b o e=>
 ⟨I.base.keep b o (I.ok.bs b o e).1 (I.ok.bs b o e).2 (I.ok.nofr e) (I.ok.noex b o e),I.base.free b o (I.ok.bs b o e).1 (I.ok.bs b o e).2 (I.ok.noex b o e)⟩
theorem Inv.bk(I:Inv X pins σ H s):∀b o,X.base.get? b=some o->s.heap.get? b=some o:=fun b o e=>(I.bs b o e).1
theorem Inv.mod(I:Inv X pins σ H s):Mod X.K X.mg X.base:=I.ok.mod
theorem Inv.kIn(I:Inv X pins σ H s):X.K.In s.heap:=I.ok.mod.kin.keeps I.bk
theorem Inv.fr(I:Inv X pins σ H s):∃m,Fr X.base X.env.locals s.heap m:=
 let ⟨m,hn,_⟩:=I.loc
 ⟨m,hn,I.bk,Qe I.ok.bsz I.ok.above⟩
theorem Inv.lt(I:Inv X pins σ H s):X.env.locals<s.heap.objs.size:=let ⟨_,hn,_⟩:=I.loc;hn.lt
theorem Inv.sz(I:Inv X pins σ H s):X.s₀.heap.objs.size≤s.heap.objs.size:=Qe I.ok.above (Ju I.lt)
theorem Inv.nofs(I:Inv X pins σ H s){a:Addr}(h:s.heap.objs.size≤a):a∉X.fs:=fun hb=>by
 obtain⟨_,o,ho,_⟩:=I.ok.funs.mem hb;exact absurd (Qu (Qk ho) (Qe I.sz h)) (Za _)
theorem Inv.cne(I:Inv X pins σ H s):∀x c,X.env.cells.lookup x=some c->c≠X.env.locals:=fun x c e z=>by
 obtain⟨v,o,ho,hd⟩:=I.cell x c e;obtain⟨m,⟨o',es,ep,ho',hd',_⟩,_⟩:=I.loc;rw[z,ho']at ho;cases ho;rw[hd']at hd;cases hd
theorem Inv.funs(I:Inv X pins σ H s):s.heap.FunFrames X.base X.outer:=by
 have all:∀(l:List Env),(∀b∈iN l,b∈X.fs)->X.s₀.heap.FunFrames X.base l->s.heap.FunFrames X.base l:=by
  intro l
  induction l with
  |nil=>intro _ _;trivial
  |cons env r ih=>
   intro hs hl;obtain⟨hk,⟨L,o,hf,hn,ho,hd⟩,hr⟩:=hl;have hL:L∈X.fs:=hs L (by unfold iN;rw[Jq,hf];exact Yx)
   obtain⟨sl,e⟩:=I.base.slot L o ho (I.ok.frf L hL) hL fun z=>I.ok.exfs L z hL
   exact⟨hk,⟨L,_,hf,hn,e,hd⟩,ih (fun b hb=>hs b (by unfold iN;rw[Jq,hf];exact Qi _ hb)) hr⟩
 exact all X.outer (fun _ hb=>hb) I.ok.funs
theorem Inv.stack(I:Inv X pins σ H s):s.heap.FunFrames X.base X.stack:=by
 rcases I.ok.stk with e|⟨e,hf⟩
 ·rw[e];exact I.funs
 ·rw[e]
  obtain⟨m,hn,_⟩:=I.loc;refine .cons (by rw[I.ok.kind];decide) hf hn ?_ I.funs
  exact Heap.get?_none_of_le (Qe I.ok.bsz I.ok.above)
theorem Inv.stkSub(I:Inv X pins σ H s):∀b∈iN X.stack,b∈X.env.locals::X.fs:=fun b hb=>by
 rcases I.ok.stk with e|⟨e,hf⟩
 ·rw[e]at hb;exact Qi _ hb
 ·rw[e]at hb
  unfold iN at hb;rw[Jq,hf]at hb;exact hb
theorem Inv.stkFree(I:Inv X pins σ H s):∀b∈iN X.stack,H b=none:=fun b hb=>by
 rcases Qg.mp (I.stkSub b hb)with e|hb
 ·rw[e];exact I.free
 ·obtain⟨_,o,ho,_⟩:=I.ok.funs.mem hb
  exact I.base.free b o ho (I.ok.frf b hb) fun z=>I.ok.exfs b z hb
theorem Inv.step{g':Array GenState}{t':Nat}{d':Drawn}{ch:List Addr}(I:Inv X pins σ H s)
  (hch:∀b∈ch,(b∈X.ex\/X.s₀.heap.objs.size≤b)/\b≠X.env.locals/\(∀x c,X.env.cells.lookup x=some c->c≠b)/\∀p∈X.pn++pins,p.1≠b)
  (keep:∀b o,b≠X.env.locals->b∉X.fs->b∉ch->s.heap.get? b=some o->H b=none->h'.get? b=some o)
  (slot:∀b o,b≠X.env.locals->b∈X.fs->b∉ch->s.heap.get? b=some o->H b=none->∃sl,h'.get? b=some {o with slots:=sl})(free:∀b o,b∉ch->s.heap.get? b=some o->H b=none->H' b=none)
  (there:∀b o,b∉ch->s.heap.get? b=some o->∃o',h'.get? b=some o')
  (tups:∀b xs,H b=some (.tup xs)->H' b=some (.tup xs))(frzs:∀b o u,H b=some (.frz o u)->H' b=some (.frz o u))(tbls:∀b ps,H b=some (.tbl ps)->∃more,H' b=some (.tbl (ps++more)))
  (ns:∀m,s.heap.Ns X.env.locals m->h'.Ns X.env.locals m)(hok:j6 X.prog X.w H' h')(hg:AllBare g'):
  Inv X pins σ H' {s with heap:=h',gens:=g',drawn:=d',toks:=t'}:=by
 have neL:∀b o,X.s₀.heap.get? b=some o->b≠X.env.locals:=fun b o e=>Qh (Qu (Qk e) I.ok.above)
 have neC:∀b o,X.s₀.heap.get? b=some o->b∉X.ex->b∉ch:=fun b o e hx hb=>by
  rcases(hch b hb).1 with z|z
  ·exact hx z
  ·exact absurd (Qu (Qk e) z) (Za _)
 have cellK:∀x c,X.env.cells.lookup x=some c->∀v,s.heap.IsCell c v->h'.IsCell c v:=fun x c e v ⟨o,ho,hd⟩=>by
  have nch:c∉ch:=fun z=>(hch c z).2.2.1 x c e rfl
  by_cases hc:c∈X.fs
  ·obtain⟨sl,q⟩:=slot c o (I.cne x c e) hc nch ho (I.freeC x c e)
   exact⟨_,q,hd⟩
  ·exact⟨o,keep c o (I.cne x c e) hc nch ho (I.freeC x c e),hd⟩
 refine⟨I.ok,I.os,hg,⟨fun b o e n hb hx=>?_,fun b o e n hb hx=>?_,fun b o e n hx=>?_,fun b o e hx=>?_,fun b xs e=>tups b xs (I.base.tups b xs e),fun b o xs e=>frzs b o xs (I.base.frzs b o xs e),fun b ps e=>?_⟩,?_,fun x c e=>?_,?_,fun x c e=>?_,fun p hp=>?_,hok,I.len⟩
 ·exact keep b o (neL b o e) hb (neC b o e hx) (I.base.keep b o e n hb hx) (I.base.free b o e n hx)
 ·obtain⟨sl,e1⟩:=I.base.slot b o e n hb hx
  obtain⟨sl',e2⟩:=slot b _ (neL b o e) hb (neC b o e hx) e1 (I.base.free b o e n hx);exact⟨sl',e2⟩
 ·obtain⟨o',e1⟩:=I.base.there b o e hx
  exact free b o' (neC b o e hx) e1 (I.base.free b o e n hx)
 ·obtain⟨o',e1⟩:=I.base.there b o e hx
  exact there b o' (neC b o e hx) e1
 ·obtain⟨m1,e1⟩:=I.base.tbls b ps e
  obtain⟨m2,e2⟩:=tbls b _ e1;exact⟨m1++m2,by rw[e2,Array.append_assoc]⟩
 ·obtain⟨m,hn,hl⟩:=I.loc
  refine⟨m,ns m hn,fun i x v e1 e2 e3=>?_⟩
  obtain⟨u,r,l⟩:=hl i x v e1 e2 e3;refine⟨u,r,?_⟩
  rcases l with l|⟨k,c,e,z⟩
  ·exact .inl l
  ·exact .inr ⟨k,c,e,cellK x c e _ z⟩
 ·obtain⟨v,z⟩:=I.cell x c e
  exact⟨v,cellK x c e v z⟩
 ·obtain⟨m,⟨o,_,_,ho,_⟩,_⟩:=I.loc
  exact free _ o (fun z=>(hch _ z).2.1 rfl) ho I.free
 ·obtain⟨v,o,ho,hd⟩:=I.cell x c e
  exact free c o (fun z=>(hch c z).2.2.1 x c e rfl) ho (I.freeC x c e)
 ·obtain⟨e,n,ne,nf,d⟩:=I.pin p hp
  have nch:p.1∉ch:=fun z=>(hch p.1 z).2.2.2 p hp rfl
  exact⟨keep p.1 p.2 ne nf nch e n,free p.1 p.2 nch e n,ne,nf,d⟩
theorem Inv.un{t':Nat}(I:Inv X pins σ H s)(u:Un X.fs [] H H' s.heap h')(hok:j6 X.prog X.w H' h'):Inv X pins σ H' {s with heap:=h',toks:=t'}:=by
 obtain⟨m,⟨o,es,ep,ho,r⟩,_⟩:=id I.loc;obtain⟨sl,hL⟩:=u.any ho I.free (by simp)
 exact I.step (g':=s.gens) (d':=s.drawn) (ch:=[]) (fun _ z=>nomatch z) (fun b o _ hb _ e n=>u.keep b o e n hb (by simp)) (fun b o _ hb _ e n=>u.slot b o e n hb (by simp)) (fun b o _ e n=>u.free b o e n (by simp)) (fun b o _ e=>u.there b o e (by simp)) u.tups u.frzs u.tbls (fun m' hm=>by
  obtain⟨o',es',ep',ho',r'⟩:=hm;rw[ho]at ho';cases ho';exact⟨_,es',ep',hL,r'⟩) hok I.bare
theorem Inv.call{g':Array GenState}{t':Nat}{d':Drawn}{ch:List Addr}(I:Inv X pins σ H s)(u:Un (iN X.stack) ch H H' s.heap h')(hok:j6 X.prog X.w H' h')(hg:AllBare g')
  (hch:∀b∈ch,(b∈X.ex\/X.s₀.heap.objs.size≤b)/\b≠X.env.locals/\(∀x c,X.env.cells.lookup x=some c->c≠b)/\∀p∈X.pn++pins,p.1≠b):
  Inv X pins σ H' {s with heap:=h',gens:=g',drawn:=d',toks:=t'}:=by
 obtain⟨m,⟨o,es,ep,ho,r⟩,_⟩:=id I.loc;obtain⟨sl,hL⟩:=u.any ho I.free fun z=>(hch _ z).2.1 rfl
 exact I.step (ch:=ch) hch (fun b o hL hb hc e n=>u.keep b o e n (fun z=>(Qg.mp (I.stkSub b z)).elim hL hb) hc) (fun b o _ _ hc e n=>u.any e n hc) (fun b o hc e n=>u.free b o e n hc) (fun b o hc e=>u.there b o e hc) u.tups u.frzs u.tbls (fun m' hm=>by
  obtain⟨o',es',ep',ho',r'⟩:=hm;rw[ho]at ho';cases ho';exact⟨_,es',ep',hL,r'⟩) hok hg
theorem Inv.turned{t':Nat}{it:Addr}(I:Inv X pins σ H s)(k:∀b o,b≠it->s.heap.get? b=some o->h'.get? b=some o)(hn:H it=none)(hL:it≠X.env.locals)
  (h1:it∈X.ex\/X.s₀.heap.objs.size≤it)(h2:∀x c,X.env.cells.lookup x=some c->c≠it)(h3:∀p∈X.pn++pins,p.1≠it):Inv X pins σ H {s with heap:=h',toks:=t'}:=by
 have nit:∀b u,H b=some u->b≠it:=fun b u e z=>by rw[z,hn]at e;cases e
 refine I.step (g':=s.gens) (d':=s.drawn) (ch:=[it]) (fun b hb=>?_) (fun b o _ _ hc e _=>k b o (fun z=>hc (by simp[z])) e) (fun b o _ _ hc e _=>⟨o.slots,k b o (fun z=>hc (by simp[z])) e⟩) (fun _ _ _ _ n=>n)
  (fun b o hc e=>⟨o,k b o (fun z=>hc (by simp[z])) e⟩) (fun _ _ e=>e) (fun _ _ _ e=>e) (fun b ps e=>⟨#[],by rw[e];simp⟩) (fun m hm=>?_) (fun b u e=>?_) I.bare
 ·have e:b=it:=by simpa using hb
  subst e;exact⟨h1,hL,h2,h3⟩
 ·obtain⟨o,es,ep,ho,r⟩:=hm
  exact⟨o,es,ep,k _ o (Qa hL) ho,r⟩
 ·refine(I.hok b u e).stay (fun c v hc q=>k c v ?_ q) (fun _ q=>q) fun _ _ q=>q
  rcases hc with z|z
  ·rw[z];exact nit b u e
  ·exact nit c _ z
theorem Inv.tok(I:Inv X pins σ H s)(t:Nat):Inv X pins σ H {s with toks:=t}:=I.un (h':=s.heap) (t':=t) Un.refl I.hok
theorem Inv.kept{t':Nat}(I:Inv X pins σ H s)(k:∀b u,s.heap.get? b=some u->h'.get? b=some u):Inv X pins σ H {s with heap:=h',toks:=t'}:=I.un (Un.kept k) (I.hok.kept k)
theorem Inv.laid{a:Addr}{o:HO}{t':Nat}(I:Inv X pins σ H s)(k:∀b u,s.heap.get? b=some u->h'.get? b=some u)(hp:s.heap.objs.size≤a)(new:J3 X.prog X.w (upd H a o) h' a o):
  Inv X pins σ (upd H a o) {s with heap:=h',toks:=t'}:=I.un (Un.laid k hp (I.hok.fresh hp)) (I.hok.laid k hp new)
theorem Inv.write{x e:Addr}{o:HO}{t':Nat}(I:Inv X pins σ H s)(mu:qB (H x))(he:e=x\/H e=some (.own x))(k:∀b u,b≠e->s.heap.get? b=some u->h'.get? b=some u)(heo:∃u,h'.get? e=some u)
  (new:J3 X.prog X.w (upd H x o) h' x o):Inv X pins σ (upd H x o) {s with heap:=h',toks:=t'}:=I.un (Un.write mu he k heo) (I.hok.write mu he k heo new)
theorem Inv.pins_of{pins':OA}(I:Inv X pins σ H s)(h:∀p∈pins',s.heap.get? p.1=some p.2/\H p.1=none/\p.1≠X.env.locals/\p.1∉X.fs/\∀v,p.2.data≠.cell v):Inv X pins' σ H s:=
 ⟨I.ok,I.os,I.bare,I.base,I.loc,I.cell,I.free,I.freeC,fun p hp=>(Vg.mp hp).elim (fun z=>I.pin p (List.mem_append_left _ z)) (h p),I.hok,I.len⟩
theorem EH{N:List Str}(hN:N.Nodup){i j:Nat}{x:Str}(a:N[i]? =some x)(b:N[j]? =some x):i=j:=by
 obtain⟨h1,e1⟩:=Qy.mp a;obtain⟨h2,e2⟩:=Qy.mp b;exact(List.getElem_inj hN).mp (e1.trans e2.symm)
theorem CT{M:Model}{A:Around}{E:OU}{i:Nat}{x:Str}{v:V}{u:Value}{Q:Unit->Shared->Prop}(I:Inv X pins σ H s)(hN:X.N.Nodup)(hi:X.N[i]? =some x)(hx:Loc X.env.scope x)(r:E3 v u)
  (h:∀s',Inv X pins (σ.set i (some v)) H s'->(∃a,Heap.SameBut a s.heap s'.heap/\(a=X.env.locals\/X.env.cells.lookup x=some a))->Q () s')(hf:X.fn x=true\/X.env.scope.names.lookup x=some .local:=by first|exact .inl rfl|exact .inr rfl|assumption):wpAny M A (storeName X.env x u) Q E s:=by
 obtain⟨m,hn,hl⟩:=id I.loc;have hcls:(X.env.scope.kind==.class||(X.env.scope.kind==.module&&X.env.locals !=X.env.globals))=false:=by rw[I.ok.kind];rfl
 have hiσ:i<σ.length:=by rw[I.len];exact(Qy.mp hi).1
 have cne:=I.cne
 have tracked:∀{a:Addr}{h':Heap},(∃o,s.heap.get? a=some o/\H a=none)->Heap.SameBut a s.heap h'->j6 X.prog X.w H h':=fun{a h'} ha hs b ob e=>by
  obtain⟨_,_,hfree⟩:=ha;refine(I.hok b ob e).stay (fun c w' hc q=>(hs.2 c ?_).trans q) (fun _ q=>q) fun _ _ q=>q
  rintro rfl
  rcases hc with rfl|hc
  ·rw[hfree]at e;cases e
  ·rw[hfree]at hc;cases hc
 rcases hx with hk|hk
 ·refine wpAny_storeName_local hk hn (fun h' hn' hs=>?_) hcls
  obtain⟨oL,_,_,hoL,_⟩:=id hn;refine h _ ⟨I.ok,I.os,I.bare,⟨fun b o e n hb hx=>?_,fun b o e n hb hx=>?_,I.base.free,fun b o e hx=>?_,I.base.tups,I.base.frzs,I.base.tbls⟩,⟨_,hn',fun j y v' e1 e2 e3=>?_⟩,fun y c e=>?_,I.free,I.freeC,fun p hp=>?_,tracked ⟨oL,hoL,I.free⟩ hs,by simpa using I.len⟩ ⟨_,hs,.inl rfl⟩
  ·exact(hs.2 b (Qh (Qu (Qk e) I.ok.above))).trans (I.base.keep b o e n hb hx)
  ·obtain⟨sl,e1⟩:=I.base.slot b o e n hb hx
   exact⟨sl,(hs.2 b (Qh (Qu (Qk e) I.ok.above))).trans e1⟩
  ·obtain⟨o',e1⟩:=I.base.there b o e hx
   exact⟨o',(hs.2 b (Qh (Qu (Qk e) I.ok.above))).trans e1⟩
  ·by_cases hj:j=i
   ·subst hj
    rw[hi]at e1;cases e1;rw[Zw hiσ]at e2;cases e2;exact⟨u,r,.inl ⟨hk,by simp⟩⟩
   ·rw[Qp (Qa hj)]at e2
    obtain⟨u',r',q⟩:=hl j y v' e1 e2 e3;refine⟨u',r',?_⟩
    rcases q with⟨k,e⟩|⟨k,c,e,z⟩
    ·refine .inl ⟨k,?_⟩
     have:y≠x:=fun e=>hj (EH hN e1 (e ▸ hi))
     simp[this,e]
    ·exact .inr ⟨k,c,e,z.sameBut hs (cne y c e)⟩
  ·obtain⟨w',z⟩:=I.cell y c e
   exact⟨w',z.sameBut hs (cne y c e)⟩
  ·obtain⟨e,n,ne,nf,d⟩:=I.pin p hp
   exact⟨(hs.2 p.1 ne).trans e,n,ne,nf,d⟩
 ·have hfn:X.fn x=true:=by
   rcases hf with z|z
   ·exact z
   ·rw[z]at hk;cases hk
  obtain⟨c,hc⟩:=I.ok.has x (.inl hk);obtain⟨w',z⟩:=I.cell x c hc;refine wpAny_storeName_cell I.ok.kind hk hc z (fun h' hc' hs=>?_)
  obtain⟨oc,hoc,hocd⟩:=id z;refine h {s with heap:=h'} ⟨I.ok,I.os,I.bare,⟨fun b o e n hb hx=>?_,fun b o e n hb hx=>?_,I.base.free,fun b o e hx=>?_,I.base.tups,I.base.frzs,I.base.tbls⟩,⟨m,hn.sameBut hs (Qa (cne x c hc)),fun j y v' e1 e2 e3=>?_⟩,fun y c' e=>?_,I.free,I.freeC,fun p hp=>?_,tracked ⟨oc,hoc,I.freeC x c hc⟩ hs,by simpa using I.len⟩ ⟨c,hs,.inr hc⟩
  ·exact(hs.2 b (Qh (Qu (Qk e) (I.ok.cab x c hfn hc)))).trans (I.base.keep b o e n hb hx)
  ·obtain⟨sl,e1⟩:=I.base.slot b o e n hb hx
   exact⟨sl,(hs.2 b (Qh (Qu (Qk e) (I.ok.cab x c hfn hc)))).trans e1⟩
  ·obtain⟨o',e1⟩:=I.base.there b o e hx
   exact⟨o',(hs.2 b (Qh (Qu (Qk e) (I.ok.cab x c hfn hc)))).trans e1⟩
  ·by_cases hj:j=i
   ·subst hj
    rw[hi]at e1;cases e1;rw[Zw hiσ]at e2;cases e2;exact⟨u,r,.inr ⟨.inl hk,c,hc,hc'⟩⟩
   ·rw[Qp (Qa hj)]at e2
    obtain⟨u',r',q⟩:=hl j y v' e1 e2 e3;refine⟨u',r',?_⟩
    rcases q with q|⟨k,c',e,z'⟩
    ·exact .inl q
    ·refine .inr ⟨k,c',e,z'.sameBut hs ?_⟩
     rintro rfl;exact hj (EH hN e1 (I.ok.inj _ _ _ e hc ▸ hi))
  ·by_cases hcc:c'=c
   ·subst hcc;exact⟨_,hc'⟩
   ·obtain⟨w2,z2⟩:=I.cell y c' e
    exact⟨w2,z2.sameBut hs hcc⟩
  ·obtain⟨e,n,ne,nf,d⟩:=I.pin p hp
   refine⟨(hs.2 p.1 ?_).trans e,n,ne,nf,d⟩;intro q;rw[q,hoc]at e;have q':oc=p.2:=Zs e;exact d w' (by rw[←q'];exact hocd)
theorem Br{M:Model}{A:Around}{E:OU}{i:Nat}{x:Str}{v:V}{u:Value}{Q:Unit->Shared->Prop}(I:Inv X pins σ H s)(hN:X.N.Nodup)(hi:X.N[i]? =some x)(hx:Loc X.env.scope x)(r:E3 v u)
  (h:∀s',Inv X pins (σ.set i (some v)) H s'->Q () s')(hf:X.fn x=true\/X.env.scope.names.lookup x=some .local:=by first|exact .inl rfl|exact .inr rfl|assumption):wpAny M A (storeName X.env x u) Q E s:=
 CT I hN hi hx r (fun s' I' _=>h s' I') hf
theorem Inv.call'{s':Shared}{ch:List Addr}(I:Inv X pins σ H s)(ho:s'.os=s.os)(u:Un (iN X.stack) ch H H' s.heap s'.heap)(hok:j6 X.prog X.w H' s'.heap)(hg:AllBare s'.gens)
  (hch:∀b∈ch,(b∈X.ex\/X.s₀.heap.objs.size≤b)/\b≠X.env.locals/\(∀x c,X.env.cells.lookup x=some c->c≠b)/\∀p∈X.pn++pins,p.1≠b):Inv X pins σ H' s':=by
 obtain⟨h',g',d',t',o'⟩:=s';have e:o'=s.os:=ho;subst e;exact I.call (g':=g') (t':=t') (d':=d') u hok hg hch
end
abbrev XK:=Value->Option Addr->Hp->Prop
abbrev St:=List (Option V)
abbrev VK:=V->Hp->Prop
abbrev TE:=St->Hp->VK->Prop
abbrev TT:=St->Hp->(Bool->Hp->Prop)->Prop
abbrev TA:=St->Hp->(List V->Hp->Prop)->Prop
structure Ends where
 nx:St->Hp->Prop
 rt:VK
 bk:St->Hp->Prop:=fun _ _=>False
 ct:St->Hp->Prop:=fun _ _=>False
abbrev TS:=Ends->St->Hp->Prop
def EP(X:Cx)(pins:OA)(σ:St)(Q:VK)(u:Value)(s':Shared):Prop:=∃v H',Inv X pins σ H' s'/\E3 v u/\Q v H'
def TP(X:Cx)(pins:OA)(σ:St)(Q:Bool->Hp->Prop)(b:Bool)(s':Shared):Prop:=∃H',Inv X pins σ H' s'/\Q b H'
def AP(X:Cx)(pins:OA)(σ:St)(Q:List V->Hp->Prop)(us:List Value)(s':Shared):Prop:=∃vs H',Inv X pins σ H' s'/\D6 vs us/\Q vs H'
def SP(X:Cx)(pins:OA)(D:Ends)(f:Flow)(s':Shared):Prop:=
 match f with
 |.next=>∃σ' H',Inv X pins σ' H' s'/\D.nx σ' H'
 |.brk=>∃σ' H',Inv X pins σ' H' s'/\D.bk σ' H'
 |.cont=>∃σ' H',Inv X pins σ' H' s'/\D.ct σ' H'
 |.ret u=>∃v σ' H',Inv X pins σ' H' s'/\E3 v u/\D.rt v H'
def PE(X:Cx)(e:Expr)(t:TE):Prop:=
 ∀(pins:OA) (s:Shared) (σ:St) (H:Hp) (Q:VK),Inv X pins σ H s->t σ H Q->wpAny (model X.prog X.w) X.A (eval e X.env) (EP X pins σ Q) X.xe s
def PT(X:Cx)(e:Expr)(t:TT):Prop:=
 ∀(pins:OA) (s:Shared) (σ:St) (H:Hp) (Q:Bool->Hp->Prop),Inv X pins σ H s->t σ H Q->wpAny (model X.prog X.w) X.A (isTrue e X.env (eval e X.env)) (TP X pins σ Q) X.xe s
def PW(X:Cx)(e:Expr)(t:TT):Prop:=
 ∀(whole:Sem Value) (pins:OA) (s:Shared) (σ:St) (H:Hp) (Q:Bool->Hp->Prop),Inv X pins σ H s->t σ H Q->wpAny (model X.prog X.w) X.A (isTrue e X.env whole) (TP X pins σ Q) X.xe s
theorem PW.pt{X:Cx}{e:Expr}{t:TT}(h:PW X e t):PT X e t:=h _
def PA(X:Cx)(es:List Expr)(t:TA):Prop:=
 ∀(pos:Pos) (pins:OA) (s:Shared) (σ:St) (H:Hp) (Q:List V->Hp->Prop),Inv X pins σ H s->t σ H Q->wpAny (model X.prog X.w) X.A (spliced (backTo pos (starEach es X.env))) (AP X pins σ Q) X.xe s
def PS(X:Cx)(st:Stmt)(t:TS):Prop:=
 ∀(pins:OA) (s:Shared) (σ:St) (H:Hp) (D:Ends),Inv X pins σ H s->t D σ H->wpAny (model X.prog X.w) X.A (exec st X.env) (SP X pins D) X.xe s
def j7(X:Cx)(st:List Stmt)(t:TS):Prop:=
 ∀(pins:OA) (s:Shared) (σ:St) (H:Hp) (D:Ends),Inv X pins σ H s->t D σ H->wpAny (model X.prog X.w) X.A (execs st X.env) (SP X pins D) X.xe s
theorem eV{α:Type}{t:Sem α}{Q Q':α->Shared->Prop}{M:Model}{A:Around}{E:OU}{s:Shared}(h:wpAny M A t Q E s)(hQ:∀a s,Q a s->Q' a s):wpAny M A t Q' E s:=Qb h hQ fun _ _ x=>x
section
variable{X:Cx}
theorem bin{a b:Expr}{ta tb:TE}(ha:PE X a ta)(hb:PE X b tb){pins:OA}{s:Shared}{σ:St}{H:Hp}{R:V->V->Hp->Prop}(I:Inv X pins σ H s)(h:ta σ H fun x H1=>tb σ H1 fun y H2=>R x y H2)
  {α:Type}{Q:α->Shared->Prop}{f:Value->Value->Sem α}
  (hf:∀v u s2 x y H2,Inv X pins σ H2 s2->E3 x v->E3 y u->R x y H2->wpAny (model X.prog X.w) X.A (f v u) Q X.xe s2):
  wpAny (model X.prog X.w) X.A (eval a X.env) (fun v s₁=>wpAny (model X.prog X.w) X.A (eval b X.env) (fun u s₂=>wpAny (model X.prog X.w) X.A (f v u) Q X.xe s₂) X.xe s₁) X.xe s:=by
 refine eV (ha pins s σ H _ I h) fun v s1 ⟨x,H1,I1,r1,q1⟩=>?_
 refine eV (hb pins s1 σ H1 _ I1 q1) fun u s2 ⟨y,H2,I2,r2,q2⟩=>?_
 exact hf v u s2 x y H2 I2 r1 r2 q2
def O9(i:Nat):TE:=fun σ H Q=>∃v,σ[i]? =some (some v)/\Q v H
def tC(v:V):TE:=fun _ H Q=>Q v H
theorem EJ{i:Nat}{x:Str}{pos:Pos}(hN:X.N[i]? =some x)(hv:oB X.env.scope x)(hd:(x==("__debug__":Str))=false:=by decide)(hcd:(x==("__classdict__":Str))=false:=by decide):PE X (.Name x pos) (O9 i):=by
 intro pins s σ H Q I h;obtain⟨v,e,h⟩:=h;obtain⟨m,hn,hl⟩:=I.loc;obtain⟨u,r,l⟩:=hl i x v hN e hv;have fin:EP X pins σ Q u s:=⟨v,H,I,r,h⟩
 rcases l with⟨hk,hm⟩|⟨hk,c,hc,hcell⟩
 ·exact wpAny_Name (wpAny_loadName_local I.ok.kind hk hn hm fin) hd
 ·rcases hk with hk|hk
  ·exact wpAny_Name (wpAny_loadName_cell I.ok.kind hk hc hcell fin) hd
  ·exact wpAny_Name (wpAny_loadName_free I.ok.kind hk hc hcell fin hcd) hd
theorem OM{i j pos}:PE X (.Constant (.int i) j pos) (tC (.int i)):=fun _ _ _ H _ I h=>wpAny_Constant_int ⟨.int i,H,I.tok _,⟨_,rfl⟩,h⟩
theorem ON{b j pos}:PE X (.Constant (.bool b) j pos) (tC (.bl b)):=fun _ _ _ H _ I h=>Constant_bool ⟨.bl b,H,I,rfl,h⟩
theorem Hw{j pos}:PE X (.Constant .none j pos) (tC .non):=fun _ _ _ H _ I h=>Constant_none ⟨.non,H,I,rfl,h⟩
theorem Hx{x j pos}:PE X (.Constant (.str x) j pos) (tC (.str x)):=fun _ _ _ H _ I h=>Calls.Constant_str ⟨.str x,H,I.tok _,⟨_,rfl⟩,h⟩
def Gl(X:Cx)(x:Str):Prop:=X.env.kindOf x=some .globalImplicit
theorem BF{E:OU}{pins:OA}{s:Shared}{σ:St}{H:Hp}{x:Str}{u:Value}{pos:Pos}{Q:OU}(I:Inv X pins σ H s)(hg:Gl X x)(hm:X.mg x=some u)(h:Q u s)
  (hd:(x==("__debug__":Str))=false:=by decide):wpAny (model X.prog X.w) X.A (eval (.Name x pos) X.env) Q E s:=
 Calls.Name_function_global I.ok.kind hg (Calls.loadGlobal_global (by rw[I.ok.glob];exact I.mod.glob.keeps I.bk) hm h) hd
theorem AF{E:OU}{pins:OA}{s:Shared}{σ:St}{H:Hp}{x:Str}{u:Value}{pos:Pos}{Q:OU}(I:Inv X pins σ H s)(hg:Gl X x)(hm:X.mg x=none)(hv:bootBuiltins x=some u)(h:Q u s)
  (hn:x≠"__name__":=by decide)(hd:(x==("__debug__":Str))=false:=by decide):wpAny (model X.prog X.w) X.A (eval (.Name x pos) X.env) Q E s:=by
 obtain⟨mb,h1,h2⟩:=I.mod.blt;exact Calls.Name_function_global I.ok.kind hg (Calls.loadGlobal_builtin (by rw[I.ok.glob];exact I.mod.glob.keeps I.bk) hm (by rw[I.ok.blt];exact h1.keeps I.bk) ((h2 x hn).trans hv) h) hd
theorem V4{x:Str}{v:V}{u:Value}{pos:Pos}(hg:Gl X x)(hm:X.mg x=some u)(r:E3 v u)(hd:(x==("__debug__":Str))=false:=by decide):PE X (.Name x pos) (tC v):=
 fun _ _ _ H _ I h=>BF I hg hm ⟨v,H,I,r,h⟩ hd
theorem Hy{x:Str}{v:V}{u:Value}{pos:Pos}(hg:Gl X x)(hm:X.mg x=none)(hv:bootBuiltins x=some u)(r:E3 v u)(hn:x≠"__name__":=by decide)(hd:(x==("__debug__":Str))=false:=by decide):PE X (.Name x pos) (tC v):=
 fun _ _ _ H _ I h=>AF I hg hm hv ⟨v,H,I,r,h⟩ hn hd
variable{a b:Expr}{ta tb:TE}{pos:Pos}
def PC(X:Cx)(op:CmpOp)(a b:Expr)(t:TE):Prop:=
 ∀(pins:OA) (s:Shared) (σ:St) (H:Hp) (Q:VK),Inv X pins σ H s->t σ H Q->
  wpAny (model X.prog X.w) X.A (eval a X.env) (fun v s₁=>wpAny (model X.prog X.w) X.A (eval b X.env) (fun u s₂=>wpAny (model X.prog X.w) X.A (compareOp op v u) (EP X pins σ Q) X.xe s₂) X.xe s₁) X.xe s
theorem lV(b:Expr){op:CmpOp}(h:op≠.In)(h2:op≠.NotIn):behindInMarks op b=false:=by
 have e1:(op==CmpOp.In)=false:=by cases op<;>first|rfl|exact absurd rfl h
 have e2:(op==CmpOp.NotIn)=false:=by cases op<;>first|rfl|exact absurd rfl h2
 cases b<;>simp[behindInMarks,e1,e2]
def tB(t:TE):TT:=fun σ H Q=>t σ H fun x H1=>∃c,x=.bl c/\Q c H1
theorem Hz{op:CmpOp}{t:TE}(h:PC X op a b t)(h1:behindInMarks op b=false:=by first|exact lV _ (by decide) (by decide)|rfl):PE X (.Compare a [op] [b] pos) t:=fun pins s σ H Q I hw=>wpAny_Compare1 (h pins s σ H Q I hw) h1
theorem EK{op:CmpOp}{t:TE}(h:PC X op a b t)(h1:behindInMarks op b=false:=by first|exact lV _ (by decide) (by decide)|rfl):PT X (.Compare a [op] [b] pos) (tB t):=by
 intro pins s σ H Q I hw;refine wpAny_isTrue_Compare1 (eV (h pins s σ H _ I hw) fun v s1 h1=>eV h1 fun u s2 h2=>eV h2 fun c s3 ⟨x,H1,I1,r1,q1⟩=>?_) h1
 obtain⟨d,rfl,q⟩:=q1;cases r1;exact Zn ⟨H1,I1,q⟩
theorem IA{e:Expr}{t:TE}(h:PE X e t)(he:∀whole,isTrue e X.env whole=(do let v←whole;standAt e.pos;holding [v] (truthy v)):=by intro _;rfl):PT X e (tB t):=by
 intro pins s σ H Q I hw;refine isTrue_plain (eV (h pins s σ H _ I hw) fun v s1 ⟨x,H1,I1,r1,q1⟩=>?_) (he _)
 obtain⟨d,rfl,q⟩:=q1;cases r1;exact Zn ⟨H1,I1,q⟩
variable{tA tB':TT}{rest:List Expr}
def sJ(t u:TT):TT:=fun σ H Q=>t σ H fun c H1=>if c=true then Q true H1 else u σ H1 Q
def OP(t:TT):TT:=fun σ H Q=>t σ H fun c H1=>Q (!c) H1
theorem OQ(ha:PT X a tA):PW X (.BoolOp .Or [a] pos) tA:=by
 intro wh pins s σ H Q I h;refine isTrue_or (eV (ha pins s σ H Q I h) fun c s1 e=>?_)
 cases c with
 |false=>exact isTrue_or_nil e
 |true=>exact e
theorem OR(ha:PT X a tA)(hb:PW X (.BoolOp .Or (b::rest) pos) tB'):PW X (.BoolOp .Or (a::b::rest) pos) (sJ tA tB'):=by
 intro wh pins s σ H Q I h;refine isTrue_or (eV (ha pins s σ H _ I h) fun c s1 ⟨H1,I1,q1⟩=>?_)
 cases c with
 |true=>exact⟨H1,I1,q1⟩
 |false=>exact hb wh pins s1 σ H1 Q I1 q1
theorem OS(ha:PT X a tA):PT X (.UnaryOp .Not a pos) (OP tA):=by
 intro pins s σ H Q I h;exact isTrue_not (ha pins s σ H (fun c H1=>Q (!c) H1) I h)
def OT(ta tb:TE):TE:=fun σ H Q=>ta σ H fun x H1=>∃c,x=.bl c/\if c=true then tb σ H1 Q else Q (.bl false) H1
def OV(ta tb:TE):TE:=fun σ H Q=>ta σ H fun x H1=>∃c,x=.bl c/\if c=true then Q (.bl true) H1 else tb σ H1 Q
def OW(ta:TE):TE:=fun σ H Q=>ta σ H fun x H1=>∃c,x=.bl c/\Q (.bl (!c)) H1
theorem OY{op}{t:TE}(h:PE X a t):PE X (.BoolOp op [a] pos) t:=fun pins s σ H Q I hw=>BoolOp_one (h pins s σ H Q I hw)
theorem OZ(ha:PE X a ta)(hb:PE X (.BoolOp .And (b::rest) pos) tb):PE X (.BoolOp .And (a::b::rest) pos) (OT ta tb):=by
 intro pins s σ H Q I h;refine BoolOp_and (eV (ha pins s σ H _ I h) fun v s1 ⟨x,H1,I1,r1,q1⟩=>?_)
 obtain⟨c,rfl,q1⟩:=q1;cases r1;refine Zn ?_
 cases c with
 |true=>exact hb pins s1 σ H1 Q I1 q1
 |false=>exact⟨.bl false,H1,I1,rfl,q1⟩
theorem IB(ha:PE X a ta)(hb:PE X (.BoolOp .Or (b::rest) pos) tb):PE X (.BoolOp .Or (a::b::rest) pos) (OV ta tb):=by
 intro pins s σ H Q I h;refine BoolOp_or (eV (ha pins s σ H _ I h) fun v s1 ⟨x,H1,I1,r1,q1⟩=>?_)
 obtain⟨c,rfl,q1⟩:=q1;cases r1;refine Zn ?_
 cases c with
 |false=>exact hb pins s1 σ H1 Q I1 q1
 |true=>exact⟨.bl true,H1,I1,rfl,q1⟩
theorem Oa(ha:PE X a ta):PE X (.UnaryOp .Not a pos) (OW ta):=by
 intro pins s σ H Q I h;refine UnaryOp_ (eV (ha pins s σ H _ I h) fun v s1 ⟨x,H1,I1,r1,q1⟩=>?_)
 obtain⟨c,rfl,q1⟩:=q1;cases r1;exact not_of (Zn ⟨.bl (!c),H1,I1,rfl,q1⟩)
def tV(t:TT)(ta tb:TE):TE:=fun σ H Q=>t σ H fun c H1=>if c=true then ta σ H1 Q else tb σ H1 Q
theorem IC{c:Expr}(hc:PT X c tA)(ha:PE X a ta)(hb:PE X b tb):PE X (.IfExp c a b pos) (tV tA ta tb):=by
 intro pins s σ H Q I h;refine wpAny_IfExp (eV (hc pins s σ H _ I h) fun d s1 ⟨H1,I1,q1⟩=>?_)
 cases d with
 |true=>exact ha pins s1 σ H1 Q I1 q1
 |false=>exact hb pins s1 σ H1 Q I1 q1
end
def kA(K:Qq)(H:Hp)(a:Addr)(xs:List V):Prop:=
 Rd H a (.lst xs)\/
  ∃(o:Obj) (its:Array Value) (n:Nat),K.lookup a=some o/\o.cls=.type "list"/\o.dict=none/\o.data=.seq its n/\its.size≤sizeLine/\D6 xs its.toList
def kN(K:Qq)(H:Hp)(a:Addr)(xs:List V):Prop:=
 Rd H a (.tup xs)\/
  ∃(o:Obj) (its:Array Value) (n:Nat),K.lookup a=some o/\o.cls=.type "tuple"/\o.dict=none/\o.data=.seq its n/\its.size≤sizeLine/\D6 xs its.toList
def Oc:Value->Option V
 |.none=>some .non
 |.bool b=>some (.bl b)
 |.int i _=>some (.int i)
 |.str x _=>some (.str x)
 |.bytes b _=>some (.byt b)
 |.float b _=>some (.flt b)
 |.ref a=>some (.ref a)
 |.type n=>some (.ty n)
 |_=>none
theorem E3.abs{x:V}{u:Value}(r:E3 x u):Oc u=some x:=by
 cases x with
 |non=>cases r;rfl
 |bl _=>cases r;rfl
 |int _=>obtain⟨t,rfl⟩:=r;rfl
 |str _=>obtain⟨t,rfl⟩:=r;rfl
 |byt _=>obtain⟨t,rfl⟩:=r;rfl
 |flt _=>obtain⟨t,rfl⟩:=r;rfl
 |ref _=>cases r;rfl
 |ty _=>cases r;rfl
theorem E3.inj{x y:V}{u:Value}(r:E3 x u)(q:E3 y u):x=y:=Zs (r.abs.symm.trans q.abs)
theorem D6.inj:∀{xs ys:List V}{us:List Value},D6 xs us->D6 ys us->xs=ys
 |_,_,_,.nil,.nil=>rfl
 |_,_,_,.cons r t,.cons r' t'=>by rw[r.inj r',D6.inj t t']
section
variable{X:Cx}{pins:OA}{σ:St}{H:Hp}{s:Shared}{a:Addr}{xs ys:List V}
theorem Inv.list(I:Inv X pins σ H s)(h:kA X.K H a xs):∃its:List Value,D6 xs its/\PlainL s.heap a its.toArray/\xs.length≤sizeLine:=by
 rcases h with h|⟨o,its,n,hk,hc,hd,hs,hz,r⟩
 ·obtain⟨z,its,n,r,e⟩:=h.ok I.hok
  exact⟨its,r,⟨_,n,e,rfl,rfl,rfl⟩,z⟩
 ·refine⟨its.toList,r,⟨o,n,I.kIn a o hk,hc,hd,by simpa using hs⟩,?_⟩
  have e:=r.length
  simp only[Jg]at e
  omega
theorem Inv.tupleD(I:Inv X pins σ H s)(h:kN X.K H a xs):∃its:List Value,D6 xs its/\S9 s.heap a its.toArray/\xs.length≤sizeLine:=by
 rcases h with h|⟨o,its,n,hk,hc,hd,hs,hz,r⟩
 ·obtain⟨z,its,r,p⟩:=h.ok I.hok
  exact⟨its,r,p,z⟩
 ·refine⟨its.toList,r,⟨o,I.kIn a o hk,hc,hd,n,by simpa using hs⟩,?_⟩
  have e:=r.length
  simp only[Jg]at e
  omega
theorem Inv.tuple(I:Inv X pins σ H s)(h:kN X.K H a xs):∃its:List Value,D6 xs its/\IsTup s.heap a its.toArray/\xs.length≤sizeLine:=
 let ⟨its,r,p,z⟩:=I.tupleD h
 ⟨its,r,p.tup,z⟩
theorem Inv.list_inj(I:Inv X pins σ H s)(h:kA X.K H a xs)(h':kA X.K H a ys):xs=ys:=by
 obtain⟨its,r,⟨o,n,e,_,_,d⟩,_⟩:=I.list h;obtain⟨its',r',⟨o',n',e',_,_,d'⟩,_⟩:=I.list h';rw[e]at e';cases e';rw[d]at d';injection d' with d1 _
 have:its=its':=by simpa using Yy Array.toList d1
 subst this;exact r.inj r'
theorem Inv.tuple_inj(I:Inv X pins σ H s)(h:kN X.K H a xs)(h':kN X.K H a ys):xs=ys:=by
 obtain⟨its,r,⟨o,e,_,n,d⟩,_⟩:=I.tuple h;obtain⟨its',r',⟨o',e',_,n',d'⟩,_⟩:=I.tuple h';rw[e]at e';cases e';rw[d]at d';injection d' with d1 _
 have:its=its':=by simpa using Yy Array.toList d1
 subst this;exact r.inj r'
end
abbrev Cx.wish(X:Cx)(E:OU):Cx:={X with xe:=E}
abbrev Cx.nox(X:Cx):Cx:=X.wish fun _ _=>False
theorem Cx.Ok.wish{X:Cx}(ok:X.Ok)(E:OU):(X.wish E).Ok:=
 ⟨ok.mod,ok.kind,ok.glob,ok.blt,ok.above,ok.inj,ok.has,ok.cab,ok.hd,ok.frames,ok.stk,ok.exf,ok.bs,ok.bsz,ok.noex,ok.exfs,ok.funs,ok.frf⟩
theorem Cx.Ok.unwish{X:Cx}{E:OU}(ok:(X.wish E).Ok):X.Ok:=
 ⟨ok.mod,ok.kind,ok.glob,ok.blt,ok.above,ok.inj,ok.has,ok.cab,ok.hd,ok.frames,ok.stk,ok.exf,ok.bs,ok.bsz,ok.noex,ok.exfs,ok.funs,ok.frf⟩
section
variable{X:Cx}{pins:OA}{σ:St}{H:Hp}{s:Shared}{E:OU}
theorem Inv.wish(I:Inv X pins σ H s)(E:OU):Inv (X.wish E) pins σ H s:=⟨I.ok.wish E,I.os,I.bare,I.base,I.loc,I.cell,I.free,I.freeC,I.pin,I.hok,I.len⟩
theorem Inv.unwish(I:Inv (X.wish E) pins σ H s):Inv X pins σ H s:=⟨I.ok.unwish,I.os,I.bare,I.base,I.loc,I.cell,I.free,I.freeC,I.pin,I.hok,I.len⟩
theorem SP.unwish{D:Ends}{f:Flow}{s':Shared}(h:SP (X.wish E) pins D f s'):SP X pins D f s':=by
 cases f with
 |next=>obtain⟨σ',H',I,q⟩:=h;exact⟨σ',H',I.unwish,q⟩
 |brk=>obtain⟨σ',H',I,q⟩:=h;exact⟨σ',H',I.unwish,q⟩
 |cont=>obtain⟨σ',H',I,q⟩:=h;exact⟨σ',H',I.unwish,q⟩
 |ret u=>obtain⟨v,σ',H',I,r,q⟩:=h;exact⟨v,σ',H',I.unwish,r,q⟩
theorem PE.nox{e:Expr}{t:TE}(h:PE X.nox e t):PE X e t:=fun pins s σ H Q I hw=>
 Qb (h pins s σ H Q (I.wish _) hw) (fun _ _ ⟨v,H',I',r,q⟩=>⟨v,H',I'.unwish,r,q⟩) fun _ _ z=>False.elim z
theorem PT.nox{e:Expr}{t:TT}(h:PT X.nox e t):PT X e t:=fun pins s σ H Q I hw=>
 Qb (h pins s σ H Q (I.wish _) hw) (fun _ _ ⟨H',I',q⟩=>⟨H',I'.unwish,q⟩) fun _ _ z=>False.elim z
theorem j7.nox{st:List Stmt}{t:TS}(h:j7 X.nox st t):j7 X st t:=fun pins s σ H D I hw=>
 Qb (h pins s σ H D (I.wish _) hw) (fun _ _ q=>q.unwish) fun _ _ z=>False.elim z
end
section
variable{X:Cx}{st:Stmt}{rest:List Stmt}{t u:TS}{e:Expr}{te:TE}{pos:Pos}
def Od:TS:=fun D σ H=>D.nx σ H
def ID(t u:TS):TS:=fun D σ H=>t {D with nx:=u D} σ H
theorem Oe:j7 X [] Od:=fun _ _ σ H _ I h=>Ja ⟨σ,H,I,h⟩
theorem U1(h1:PS X st t)(h2:j7 X rest u):j7 X (st::rest) (ID t u):=by
 intro pins s σ H D I h;refine wpAny_execs_cons (eV (h1 pins s σ H {D with nx:=u D} I h) fun f s1 q=>?_)
 cases f with
 |next=>
  obtain⟨σ',H',I',q⟩:=q;exact h2 pins s1 σ' H' D I' q
 |ret v=>exact q
 |brk=>exact q
 |cont=>exact q
theorem Bs(h1:PS X st t):j7 X [st] t:=by
 intro pins s σ H D I h;refine wpAny_execs_cons (eV (h1 pins s σ H D I h) fun f s1 q=>?_)
 cases f with
 |next=>exact Ja q
 |ret v=>exact q
 |brk=>exact q
 |cont=>exact q
theorem Inv.quiet{pins:OA}{σ:St}{H:Hp}{s:Shared}(I:Inv X pins σ H s):interactive X.env=false:=by simp[interactive,I.ok.kind]
def IE(te:TE):TS:=fun D σ H=>te σ H fun _ H1=>D.nx σ H1
theorem CU(he:PE X e te)(hs:swapsWith e none pos.line X.env=pure false:=by rfl):PS X (.Expr e pos) (IE te):=by
 intro pins s σ H D I h;exact wpAny_Expr_any (eV (he pins s σ H _ I h) fun v s1 ⟨x,H1,I1,r1,q1⟩=>⟨σ,H1,I1,q1⟩) I.quiet hs
def IF(te:TE):TS:=fun D σ H=>te σ H D.rt
theorem CV(he:PE X e te):PS X (.Return (some e) pos) (IF te):=by
 intro pins s σ H D I h;exact wpAny_Return_some (eV (he pins s σ H _ I h) fun v s1 ⟨x,H1,I1,r1,q1⟩=>⟨x,σ,H1,I1,r1,q1⟩)
def Of(c:TT)(t u:TS):TS:=fun D σ H=>c σ H fun b H1=>if b=true then t D σ H1 else u D σ H1
theorem IG{c:Expr}{a b:List Stmt}{tc:TT}(hc:PT X c tc)(ha:j7 X a t)(hb:j7 X b u):PS X (.If c a b pos) (Of tc t u):=by
 intro pins s σ H D I h;refine wpAny_If (eV (hc pins s σ H _ I h) fun d s1 ⟨H1,I1,q1⟩=>?_)
 cases d with
 |true=>exact ha pins s1 σ H1 D I1 q1
 |false=>exact hb pins s1 σ H1 D I1 q1
def IH:TS:=fun _ _ _=>False
theorem Og:PS X st IH:=fun _ _ _ _ _ _ h=>h.elim
theorem II{sts:List Stmt}:j7 X sts IH:=fun _ _ _ _ _ _ h=>h.elim
end
abbrev TG:=V->St->Hp->(St->Hp->Prop)->Prop
abbrev oE:=List V->St->Hp->(St->Hp->Prop)->Prop
def PG(X:Cx)(target:Expr)(t:TG):Prop:=
 ∀(pins:OA) (s:Shared) (σ:St) (H:Hp) (v:V) (u:Value) (Q:St->Hp->Prop),Inv X pins σ H s->E3 v u->t v σ H Q->
  wpAny (model X.prog X.w) X.A (assign target X.env u) (fun _ s'=>∃σ' H',Inv X pins σ' H' s'/\Q σ' H') X.xe s
def oQ(X:Cx)(ts:List Expr)(t:oE):Prop:=
 ∀(pins:OA) (s:Shared) (σ:St) (H:Hp) (vs:List V) (us:List Value) (Q:St->Hp->Prop),Inv X pins σ H s->D6 vs us->t vs σ H Q->
  wpAny (model X.prog X.w) X.A (assignInOrder ((assignEach ts X.env).map (·.2)) us) (fun _ s'=>∃σ' H',Inv X pins σ' H' s'/\Q σ' H') X.xe s
abbrev rN:=V->V->Hp->VK->Prop
def tW(X:Cx)(op:Operator)(t:rN):Prop:=
 ∀(pins:OA) (s:Shared) (σ:St) (H:Hp) (x y:V) (v u:Value) (Q:VK),Inv X pins σ H s->E3 x v->E3 y u->t x y H Q->
  wpAny (model X.prog X.w) X.A (inplaceOp op v u) (EP X pins σ Q) X.xe s
section
variable{X:Cx}{pos:Pos}
def Bt(i:Nat):TG:=fun v σ H Q=>Q (σ.set i (some v)) H
theorem Oh{i:Nat}{x:Str}(hN:X.N.Nodup)(hi:X.N[i]? =some x)(hx:Loc X.env.scope x)(hf:X.fn x=true\/X.env.scope.names.lookup x=some .local:=by first|exact .inl rfl|exact .inr rfl|assumption):PG X (.Name x pos) (Bt i):=by
 intro pins s σ H v u Q I r h;exact Uw (Br I hN hi hx r (fun s' I'=>⟨_,H,I',h⟩) hf)
def Oi:oE:=fun vs σ H Q=>vs=[]/\Q σ H
def Oj(t:TG)(u:oE):oE:=fun vs σ H Q=>∃v r,vs=v::r/\t v σ H fun σ' H'=>u r σ' H' Q
theorem Ol:oQ X [] Oi:=by
 intro pins s σ H vs us Q I r h;obtain⟨e,h⟩:=h;subst e;cases r;exact assignInOrder_nil ⟨σ,H,I,h⟩
theorem Om{e:Expr}{es:List Expr}{t:TG}{u:oE}(h1:PG X e t)(h2:oQ X es u)
  (hs:(assignEach (e::es) X.env).map (·.2)=assign e X.env::(assignEach es X.env).map (·.2):=by rfl):oQ X (e::es) (Oj t u):=by
 intro pins s σ H vs us Q I r h;obtain⟨v,vr,e1,h⟩:=h;subst e1;cases r with
 |cons r rr=>
  rw[hs];refine assignInOrder_cons (eV (h1 pins s σ H _ _ _ I r h) fun _ s1 ⟨σ1,H1,I1,q1⟩=>?_)
  exact h2 pins s1 σ1 H1 _ _ Q I1 rr q1
def Oo(K:Qq)(n:Nat)(t:oE):TG:=fun v σ H Q=>∃a xs,v=.ref a/\kN K H a xs/\xs.length=n/\t xs σ H Q
theorem Oq{es:List Expr}{k:Nat}{t:oE}{n:Nat}(hc:X.calm=true)(h:oQ X es t)
  (hn:(assignEach es X.env).length=n:=by rfl)(hst:(assignEach es X.env).findIdx? (·.1)=none:=by rfl):PG X (.Tuple es k pos) (Oo X.K n t):=by
 intro pins s σ H v u Q I r hw;obtain⟨a,xs,e1,hq,hl,hw⟩:=hw;subst e1;cases r;obtain⟨its,rv,ht,hz⟩:=I.tuple hq;refine assign_Tuple_tuple (I.ok.hd hc) ht (by simp[hn,←hl,rv.length]) hst fun h' hx=>?_
 have I1:Inv X pins σ H {s with heap:=h'}:=I.kept (t':=s.toks) fun b o e=>hx b o (Qh (Qk e)) e
 exact h pins _ σ H xs _ Q I1 (by simpa using rv) hw
def Bu(te:TE)(g:TG):TS:=fun D σ H=>te σ H fun x H1=>g x σ H1 D.nx
theorem IJ{tg e:Expr}{te:TE}{g:TG}(he:PE X e te)(hg:PG X tg g)(hs:swapsWithSole [tg] e pos.line X.env=pure false:=by rfl)(hw:swappedStores [tg] e X.env=pure none:=by rfl)
  (h1:(assignEach [tg] X.env).map (·.2)=[assign tg X.env]:=by rfl):PS X (.Assign [tg] e pos) (Bu te g):=by
 intro pins s σ H D I h;refine wpAny_Assign_stores (eV (he pins s σ H _ I h) fun v s1 ⟨x,H1,I1,r1,q1⟩=>?_) hs hw
 rw[h1];exact eV (hg pins s1 σ H1 x v _ I1 r1 q1) fun _ s2 q=>q
theorem BG{i:Nat}{x:Str}{e:Expr}{te:TE}{pos':Pos}(hN:X.N.Nodup)(hi:X.N[i]? =some x)(hx:Loc X.env.scope x)(he:PE X e te)(hs:swapsWith e (some (.Name x pos')) pos.line X.env=pure false:=by rfl)(hf:X.fn x=true\/X.env.scope.names.lookup x=some .local:=by first|exact .inl rfl|exact .inr rfl|assumption):
  PS X (.Assign [.Name x pos'] e pos) (Bu te (Bt i)):=by
 intro pins s σ H D I h;refine wpAny_Assign_Name (eV (he pins s σ H _ I h) fun v s1 ⟨y,H1,I1,r1,q1⟩=>?_) hs
 exact Br I1 hN hi hx r1 (fun s2 I2=>⟨_,H1,I2,q1⟩) hf
def Ot(i:Nat)(te:TE)(ti:rN):TS:=fun D σ H=>∃x,σ[i]? =some (some x)/\te σ H fun y H1=>ti x y H1 fun z H2=>D.nx (σ.set i (some z)) H2
theorem Ou{i:Nat}{x:Str}{e:Expr}{te:TE}{op:Operator}{ti:rN}{pos':Pos}(hN:X.N.Nodup)(hi:X.N[i]? =some x)(hx:Loc X.env.scope x)(he:PE X e te)(ho:tW X op ti)(hf:X.fn x=true\/X.env.scope.names.lookup x=some .local:=by first|exact .inl rfl|exact .inr rfl|assumption):
  PS X (.AugAssign (.Name x pos') op e pos) (Ot i te ti):=by
 intro pins s σ H D I h;obtain⟨v,e1,h⟩:=h;obtain⟨m,hn,hl⟩:=I.loc;have vis:oB X.env.scope x:=by rcases hx with k|k;exact .inl k;exact .inr (.inl k)
 obtain⟨u,r,l⟩:=hl i x v hi e1 vis;refine wpAny_AugAssign_Name ?_
 have go:wpAny (model X.prog X.w) X.A (eval e X.env) (fun w s₂=>wpAny (model X.prog X.w) X.A (inplaceOp op u w) (fun r s₃=>wpAny (model X.prog X.w) X.A (storeName X.env x r) (fun _=>SP X pins D .next) X.xe s₃) X.xe s₂) X.xe s:=by
  refine eV (he pins s σ H _ I h) fun w s1 ⟨y,H1,I1,r1,q1⟩=>?_
  refine eV (ho pins s1 σ H1 v y u w _ I1 r r1 q1) fun z s2 ⟨zv,H2,I2,r2,q2⟩=>?_
  exact Br I2 hN hi hx r2 (fun s3 I3=>⟨_,H2,I3,q2⟩) hf
 rcases l with⟨hk,hm⟩|⟨hk,c,hc,hcell⟩
 ·exact wpAny_loadName_local I.ok.kind hk hn hm go
 ·rcases hk with hk|hk
  ·exact wpAny_loadName_cell I.ok.kind hk hc hcell go
  ·rcases hx with k|k
   ·have:X.env.scope.names.lookup x=some .free:=hk
    rw[k]at this;cases this
   ·have:X.env.scope.names.lookup x=some .free:=hk
    rw[k]at this;cases this
end
section
variable{X:Cx}{pos:Pos}
end
structure It where
 go:Nat->Hp->Prop
 yld:Nat->Hp->V->Hp->Prop
 stop:Nat->Hp->Prop
def J4(X:Cx)(pins:OA)(H:Hp)(b:Addr):Prop:=
 H b=none/\b≠X.env.locals/\b∉X.fs/\(b∈X.ex\/X.s₀.heap.objs.size≤b)/\(∀x c,X.env.cells.lookup x=some c->c≠b)/\∀p∈X.pn++pins,p.1≠b
theorem Inv.fpOk{X:Cx}{pins:OA}{σ:St}{H H':Hp}{s:Shared}{b:Addr}(I:Inv X pins σ H s)(hb:s.heap.objs.size≤b)(hn:H' b=none):J4 X pins H' b:=by
 refine⟨hn,Js (Qu I.lt hb),I.nofs hb,.inr (Qe I.sz hb),fun x c e z=>?_,fun p hp z=>?_⟩
 ·obtain⟨v,q⟩:=I.cell x c e
  exact absurd (Qu q.lt (by rw[z];exact hb)) (Za _)
 ·exact absurd (Qu (Qk (I.pin p hp).1) (by rw[z];exact hb)) (Za _)
structure Turn(P:Program)(w:World)(K:Qq)(tg:Expr)(J:It)(fp:List Addr)(it:Addr)(tn:Nat->Heap->Prop):Prop where
 mem:it∈fp
 obj:∀i h,tn i h->∀b∈fp,∃o,h.get? b=some o/\∀v,o.data≠.cell v
 keep:∀i h h',tn i h->(∀b∈fp,∀o,h.get? b=some o->h'.get? b=some o)->tn i h'
 item:∀(X:Cx),X.prog=P->X.w=w->X.K=K->X.calm=true->∀(i:Nat) (pins:OA) (s:Shared) (σ:St) (H:Hp) (E:OU),Inv X pins σ H s->(∀b∈fp,J4 X pins H b)->tn i s.heap->J.go i H->
  wpAny (model P w) X.A (pyNext (.ref it)) (fun r s1=>∃u,r=some u/\
   wpAny (model P w) X.A (letOwnedTupleGo tg (.ref it) u) (fun _ s2=>∃x H',Inv X pins σ H' s2/\E3 x u/\J.yld i H x H'/\tn (i+1) s2.heap/\∀b∈fp,H' b=none) E s1) E s
 done:∀(X:Cx),X.prog=P->X.w=w->X.K=K->X.calm=true->∀(i:Nat) (pins:OA) (s:Shared) (σ:St) (H:Hp) (E:OU),Inv X pins σ H s->(∀b∈fp,J4 X pins H b)->tn i s.heap->J.stop i H->
  wpAny (model P w) X.A (pyNext (.ref it)) (fun r s1=>r=none/\Inv X pins σ H s1) E s
 self:∀(A:Around) (i:Nat) (s:Shared) (Q:OU) (E:OU),tn i s.heap->Q (.ref it) s->wpAny (model P w) A (pyIter (.ref it)) Q E s
abbrev TI:=St->Hp->(It->Hp->Prop)->Prop
def sK(X:Cx)(pins:OA)(σ:St)(tg:Expr)(R:It->Hp->Prop)(itv:Value)(s2:Shared):Prop:=
 ∃(it:Addr) (fp:List Addr) (tn:Nat->Heap->Prop) (J:It) (H':Hp),itv=.ref it/\Inv X pins σ H' s2/\Turn X.prog X.w X.K tg J fp it tn/\tn 0 s2.heap/\(∀b∈fp,J4 X pins H' b)/\R J H'
def PI(X:Cx)(tg iter:Expr)(wi:TI):Prop:=
 ∀(pins:OA) (s:Shared) (σ:St) (H:Hp) (R:It->Hp->Prop),Inv X pins σ H s->wi σ H R->
  wpAny (model X.prog X.w) X.A (eval iter X.env) (fun v s1=>wpAny (model X.prog X.w) X.A (pyIter v) (sK X pins σ tg R) X.xe s1) X.xe s
theorem CW{M:Model}{A:Around}{E:OU}{s:Shared}{tg:Expr}{it:Addr}{u:Value}{o:Obj}{n:String}{vs:Array Value}{Q:Unit->Shared->Prop}(ho:s.heap.get? it=some o)(hc:o.cls=.type n)(hd:o.data=.fields vs)
    (hn:["enumerate","zip","dict_itemiterator","dict_reverseitemiterator","odict_iterator","itertools.zip_longest","itertools.pairwise"].contains n=false)(hQ:Q () s):wpAny M A (letOwnedTupleGo tg (.ref it) u) Q E s:=by
  unfold letOwnedTupleGo;cases tg<;>first
    |exact Qx hQ
    | (cases u<;>first
        |exact Qx hQ
        | (refine Qz (wpAny_load ho ?_)
           rw[hc,hd];show wpAny M A (if(["enumerate","zip","dict_itemiterator","dict_reverseitemiterator","odict_iterator","itertools.zip_longest","itertools.pairwise"].contains n&&vs[0]? ==some (rawInt _))=true then _ else _) Q E s
           rw[Qd (by intro h;rw[hn,Bool.false_and]at h;cases h)]
           exact Qx hQ))
def rO(K:Qq)(a:Addr):It:=
 ⟨fun i H=>∃xs x,kA K H a xs/\xs[i]? =some x,fun i H x H'=>H'=H/\∀xs,kA K H a xs->xs[i]? =some x,fun i H=>∃xs,kA K H a xs/\xs.length≤i⟩
def rP(K:Qq)(a:Addr):It:=
 ⟨fun i H=>∃xs x,kN K H a xs/\xs[i]? =some x,fun i H x H'=>H'=H/\∀xs,kN K H a xs->xs[i]? =some x,fun i H=>∃xs,kN K H a xs/\xs.length≤i⟩
def qS(lo:Int)(n:Nat):It:=⟨fun i _=>i<n,fun i H x H'=>H'=H/\x=.int (lo+i),fun i _=>n≤i⟩
theorem Ov{P:Program}{w:World}{K:Qq}{tg:Expr}(a it:Addr):Turn P w K tg (rO K a) [it] it (fun i h=>h.IsListIter it a i)where
 mem:=by simp
 obj:=fun i h st b hb=>by
  have e:b=it:=by simpa using hb
  subst e;obtain⟨o,e,c,d⟩:=st;exact⟨o,e,fun v z=>by rw[d]at z;cases z⟩
 keep:=fun i h h' st k=>st.at fun o e=>k it (by simp) o e
 item:=by
  intro X hP hw hK hc i pins s σ H E I hf st hg;subst hP hw hK;obtain⟨xs,x,hq,hx⟩:=hg;obtain⟨its,rv,p,hz⟩:=I.list hq;obtain⟨u,hu,ru⟩:=rv.get hx;obtain⟨f0,f1,f2,f3,f4,f5⟩:=hf it (by simp)
  refine wpAny_pyNext_list_item st p.isList (x:=u) (by simpa using hu) fun h' st' sb=>?_
  have I1:Inv X pins σ H {s with heap:=h'}:=I.turned (t':=s.toks) (fun b o hb e=>(sb.2 b hb).trans e) f0 f1 f3 f4 f5
  obtain⟨o,e,c,d⟩:=id st';exact⟨u,rfl,CW (s:={s with heap:=h'}) e c d (by decide) ⟨x,H,I1,ru,⟨rfl,fun ys hy=>by rw[I.list_inj hy hq];exact hx⟩,st',fun b hb=>(hf b hb).1⟩⟩
 done:=by
  intro X hP hw hK hc i pins s σ H E I hf st hg;subst hP hw hK;obtain⟨xs,hq,hx⟩:=hg;obtain⟨its,rv,p,hz⟩:=I.list hq;obtain⟨f0,f1,f2,f3,f4,f5⟩:=hf it (by simp)
  have hl:=rv.length
  exact wpAny_pyNext_list_end (I.ok.hd hc) st p.isList (by simp;omega) fun h' eb=>⟨rfl,I.turned (t':=s.toks) (fun b o hb e=>eb b o hb e) f0 f1 f3 f4 f5⟩
 self:=fun _ _ _ _ _ st h=>wpAny_pyIter_listiter st h
theorem Ow{P:Program}{w:World}{K:Qq}{tg:Expr}(a it:Addr):Turn P w K tg (rP K a) [it] it (fun i h=>h.IsTupleIter it a i)where
 mem:=by simp
 obj:=fun i h st b hb=>by
  have e:b=it:=by simpa using hb
  subst e;obtain⟨o,e,c,d⟩:=st;exact⟨o,e,fun v z=>by rw[d]at z;cases z⟩
 keep:=fun i h h' st k=>st.at fun o e=>k it (by simp) o e
 item:=by
  intro X hP hw hK hc i pins s σ H E I hf st hg;subst hP hw hK;obtain⟨xs,x,hq,hx⟩:=hg;obtain⟨its,rv,p,hz⟩:=I.tuple hq;obtain⟨u,hu,ru⟩:=rv.get hx;obtain⟨f0,f1,f2,f3,f4,f5⟩:=hf it (by simp)
  refine wpAny_pyNext_tuple_item st (show s.heap.IsTuple a its.toArray from p) (x:=u) (by simpa using hu) fun h' st' sb=>?_
  have I1:Inv X pins σ H {s with heap:=h'}:=I.turned (t':=s.toks) (fun b o hb e=>(sb.2 b hb).trans e) f0 f1 f3 f4 f5
  obtain⟨o,e,c,d⟩:=id st';exact⟨u,rfl,CW (s:={s with heap:=h'}) e c d (by decide) ⟨x,H,I1,ru,⟨rfl,fun ys hy=>by rw[I.tuple_inj hy hq];exact hx⟩,st',fun b hb=>(hf b hb).1⟩⟩
 done:=by
  intro X hP hw hK hc i pins s σ H E I hf st hg;subst hP hw hK;obtain⟨xs,hq,hx⟩:=hg;obtain⟨its,rv,p,hz⟩:=I.tuple hq;obtain⟨f0,f1,f2,f3,f4,f5⟩:=hf it (by simp)
  have hl:=rv.length
  exact wpAny_pyNext_tuple_end (I.ok.hd hc) st (show s.heap.IsTuple a its.toArray from p) (by simp;omega) fun h' eb=>⟨rfl,I.turned (t':=s.toks) (fun b o hb e=>eb b o hb e) f0 f1 f3 f4 f5⟩
 self:=fun _ _ _ _ _ st h=>wpAny_pyIter_tupleiter st h
theorem Ox{P:Program}{w:World}{K:Qq}{tg:Expr}(it:Addr)(lo:Int)(n:Nat):Turn P w K tg (qS lo n) [it] it (fun i h=>IsRangeIter h it (lo+(i:Nat) * 1) ((n:Int)-(i:Nat)) 1)where
 mem:=by simp
 obj:=fun i h st b hb=>by
  have e:b=it:=by simpa using hb
  subst e;exact⟨_,st,fun v z=>by
   have z':Data.fields _=Data.cell v:=z
   cases z'⟩
 keep:=fun i h h' st k=>k it (by simp) _ st
 item:=by
  intro X hP hw hK hc i pins s σ H E I hf st hg;subst hP hw hK;obtain⟨f0,f1,f2,f3,f4,f5⟩:=hf it (by simp)
  have W:=Walks.range (prog:=X.prog) (w:=X.w) (I.ok.hd hc) it lo 1 n
  refine W.item i s _ _ hg st fun v h' tk hv st' kk=>?_
  obtain⟨t,rfl⟩:=hv;have I1:Inv X pins σ H {s with heap:=h',toks:=tk}:=I.turned (fun b o hb e=>kk b o (by simpa using hb) e) f0 f1 f3 f4 f5
  refine⟨_,rfl,CW (s:={s with heap:=h',toks:=tk}) (n:="range_iterator") st' rfl rfl (by decide) ⟨.int (lo+i),H,I1,⟨t,?_⟩,⟨rfl,rfl⟩,st',fun b hb=>(hf b hb).1⟩⟩
  rw[Int.mul_one]
 done:=by
  intro X hP hw hK hc i pins s σ H E I hf st hg;subst hP hw hK;obtain⟨f0,f1,f2,f3,f4,f5⟩:=hf it (by simp)
  exact wpAny_pyNext_range_end (I.ok.hd hc) st (by have:n≤i:=hg;omega) fun h' eb=>⟨rfl,I.turned (t':=s.toks) (fun b o hb e=>eb b o hb e) f0 f1 f3 f4 f5⟩
 self:=fun _ _ _ _ _ st h=>wpAny_pyIter_rangeiter st h
section
variable{X:Cx}{tg:Expr}
theorem Oy{pins:OA}{σ:St}{H:Hp}{s:Shared}{R:It->Hp->Prop}{E:OU}{lo hi:Int}{t u v:Tok}{tk:Nat}(I:Inv X pins σ H s)(h1: -(2^62)≤lo)(h2:lo<2^62)(h3: -(2^62)≤hi)(h4:hi<2^62)
  (q:R (qS lo (hi-lo).toNat) H):wpAny (model X.prog X.w) X.A (pyIter (.ref s.heap.objs.size)) (sK X pins σ tg R) E {s with heap:=s.heap.push {cls:=.type "range",data:=.fields #[.int lo t,.int hi u,.int 1 v]},toks:=tk}:=by
 refine wpAny_pyIter_range (IsRange.new ..) (small_one h1 h2 h3 h4) ?_
 have I1:Inv X pins σ H {s with heap:=s.heap.push {cls:=.type "range",data:=.fields #[.int lo t,.int hi u,.int 1 v]},toks:=tk}:=I.kept fun b o e=>Qj _ e
 refine⟨(s.heap.push {cls:=.type "range",data:=.fields #[.int lo t,.int hi u,.int 1 v]}).objs.size,[(s.heap.push {cls:=.type "range",data:=.fields #[.int lo t,.int hi u,.int 1 v]}).objs.size],_,_,H,rfl,
  I1.kept (t':=tk) fun b o e=>Qj _ e,Ox _ lo (hi-lo).toNat,?_,fun b hb=>?_,q⟩
 ·have e1:lo+((0:Nat):Int) * 1=lo:=by simp
  have e2:(((hi-lo).toNat:Nat):Int)-((0:Nat):Int)=Builtin.Range.rangeSize lo hi 1:=by rw[rangeSize_one];split<;>omega
  show IsRangeIter _ _ (lo+((0:Nat):Int) * 1) ((((hi-lo).toNat:Nat):Int)-((0:Nat):Int)) 1;rw[e1,e2];exact Qw _ rfl
 ·have e:b=(s.heap.push {cls:=.type "range",data:=.fields #[.int lo t,.int hi u,.int 1 v]}).objs.size:=by simpa using hb
  subst e;exact I1.fpOk (Qv _) (I1.hok.fresh (Qv _))
def Oz(ta:TA):TI:=fun σ H R=>ta σ H fun vs H1=>∃j:Int,vs=[.int j]/\ -(2^62)≤j/\j<2^62/\R (qS 0 j.toNat) H1
theorem PB{a:Expr}{ta:TA}{p pos:Pos}(hg:Gl X "range")(hm:X.mg "range"=none)(ha:PA X [a] ta)(hs:starEach [a] X.env=[(false,eval a X.env)]:=by rfl):PI X tg (.Call (.Name "range" p) [a] [] pos) (Oz ta):=by
 intro pins s σ H R I h;refine Call_ (AF I hg hm boot_range (Yp (eV (ha pos pins s σ H _ I h) fun us s1 ⟨vs,H1,I1,r1,q1⟩=>?_) hs rfl))
 obtain⟨j,e,q1,q2,q⟩:=q1;subst e;cases r1 with
 |cons r rr=>
  cases rr;obtain⟨t,rfl⟩:=r;exact call_range_1 (Oy I1 (by omega) (by omega) q1 q2 (by simpa using q))
def IK(wi:TI)(g:TG)(tb:TS):TS:=fun D σ H=>wi σ H fun J H1=>∃W:Nat->Nat->St->Hp->Prop,(∃m,W 0 m σ H1)/\∀i m σ H,W i m σ H->
 (J.stop i H/\D.nx σ H)\/(J.go i H/\∃N:St->Hp->Prop,(∀σ' H',N σ' H'->∃m',m'<m/\W (i+1) m' σ' H')/\∀x H',J.yld i H x H'->g x σ H' fun σ2 H2=>tb {D with nx:=N,ct:=N,bk:=D.nx} σ2 H2)
def X4(fp:List Addr)(h:Heap):OA:=fp.filterMap fun b=>(h.get? b).map fun o=>(b,o)
theorem U2{fp:List Addr}{h:Heap}{b:Addr}{o:Obj}(hb:b∈fp)(e:h.get? b=some o):(b,o)∈X4 fp h:=List.mem_filterMap.mpr ⟨b,hb,by rw[e];rfl⟩
theorem PD{fp:List Addr}{h:Heap}{p:Addr×Obj}(hp:p∈X4 fp h):p.1∈fp/\h.get? p.1=some p.2:=by
 obtain⟨b,hb,e⟩:=List.mem_filterMap.mp hp;cases q:h.get? b with
 |none=>rw[q]at e;cases e
 |some o=>
  rw[q]at e;have e':(b,o)=p:=Zs e;subst e';exact⟨hb,q⟩
theorem Inv.pinned{pins:OA}{σ:St}{H:Hp}{s:Shared}{fp:List Addr}(I:Inv X pins σ H s)(hf:∀b∈fp,J4 X pins H b)(ho:∀b∈fp,∃o,s.heap.get? b=some o/\∀v,o.data≠.cell v):Inv X (pins++X4 fp s.heap) σ H s:=
 I.pins_of fun p hp=>(Vg.mp hp).elim (fun z=>I.pin p (Qm _ z)) fun z=>by
  obtain⟨hb,e⟩:=PD z;obtain⟨f0,f1,f2,_⟩:=hf p.1 hb;obtain⟨o,e',d⟩:=ho p.1 hb;rw[e]at e';cases e';exact⟨e,f0,f1,f2,d⟩
theorem Inv.unpinned{pins pl:OA}{σ:St}{H:Hp}{s:Shared}(I:Inv X (pins++pl) σ H s):Inv X pins σ H s:=I.pins_of fun p hp=>I.pin p (Qm _ (List.mem_append_left _ hp))
theorem IL{iter:Expr}{body:List Stmt}{wi:TI}{g:TG}{tb:TS}{pos:Pos}(hp:PassesOwn (model X.prog X.w) X.A X.env X.xe)(hc:X.calm=true)(hi:PI X tg iter wi)(hg:PG X tg g)(hb:j7 X body tb)
  (hs:∀x,foldedSetIterable iter X.env x=pure x:=by intro _;rfl):PS X (.For tg iter body [] pos) (IK wi g tb):=by
 intro pins s σ H D I h;refine wpAny_For (eV (hi pins s σ H _ I h) fun v s1 h1=>eV h1 fun itv s2 h2=>?_) hs
 obtain⟨it,fp,tn,J,H2,e,I2,T,st2,f2,W,⟨m0,w0⟩,turn⟩:=h2;subst e;have stat:∀{H':Hp},(∀b∈fp,H' b=none)->∀b∈fp,J4 X pins H' b:=fun hn b hb=>⟨hn b hb,(f2 b hb).2⟩
 refine codeAny_forLoop_any (fun n s'=>∃i σ' H',Inv X pins σ' H' s'/\tn i s'.heap/\(∀b∈fp,H' b=none)/\W i n σ' H') ?_ m0 ⟨0,σ,H2,I2,st2,fun b hb=>(f2 b hb).1,w0⟩
 rintro n s3 ⟨i,σ3,H3,I3,st3,fr3,w3⟩
 rcases turn i n σ3 H3 w3 with⟨stop,qn⟩|⟨go,N,hN,step⟩
 ·refine Je hp (eV (T.done X rfl rfl rfl hc i pins s3 σ3 H3 X.xe I3 (stat fr3) st3 stop) fun r s4 ⟨hr,I4⟩=>?_)
  subst hr;exact Ja ⟨σ3,H3,I4,qn⟩
 ·refine Je hp (eV (T.item X rfl rfl rfl hc i pins s3 σ3 H3 X.xe I3 (stat fr3) st3 go) fun r s4 ⟨u,hr,h4⟩=>?_)
  subst hr;refine Je hp (eV h4 fun _ s5 ⟨x,H5,I5,r5,y5,st5,fr5⟩=>?_)
  have I5':=I5.pinned (stat fr5) (T.obj _ _ st5)
  refine Je hp (eV (hg _ s5 σ3 H5 x u _ I5' r5 (step x H5 y5)) fun _ s6 ⟨σ6,H6,I6,q6⟩=>?_)
  refine Je hp (eV (hb _ s6 σ6 H6 _ I6 q6) fun f s7 q7=>?_)
  have again:∀{σ7:St}{H7:Hp},Inv X (pins++X4 fp s5.heap) σ7 H7 s7->N σ7 H7->∃m,m<n/\∃i σ' H',Inv X pins σ' H' s7/\tn i s7.heap/\(∀b∈fp,H' b=none)/\W i m σ' H':=fun{σ7 H7} I7 n7=>by
   obtain⟨m',hm,w7⟩:=hN σ7 H7 n7;refine⟨m',hm,i+1,σ7,H7,I7.unpinned,T.keep _ _ _ st5 fun b hb o e=>(I7.pin (b,o) (Qm _ (Qm _ (U2 hb e)))).1,fun b hb=>?_,w7⟩
   obtain⟨o,e,d⟩:=T.obj _ _ st5 b hb;exact(I7.pin (b,o) (Qm _ (Qm _ (U2 hb e)))).2.1
  cases f with
  |next=>obtain⟨σ7,H7,I7,n7⟩:=q7;exact again I7 n7
  |cont=>obtain⟨σ7,H7,I7,n7⟩:=q7;exact again I7 n7
  |brk=>obtain⟨σ7,H7,I7,q7⟩:=q7;exact⟨σ7,H7,I7.unpinned,q7⟩
  |ret v=>obtain⟨x7,σ7,H7,I7,r7,q7⟩:=q7;exact⟨x7,σ7,H7,I7.unpinned,r7,q7⟩
end
abbrev R2:=V->V->Hp->VK->Prop
def i5(X:Cx)(f:Value->Value->Sem Value)(r:R2):Prop:=
 ∀(pins:OA) (s:Shared) (σ:St) (H:Hp) (x y:V) (v u:Value) (Q:VK),Inv X pins σ H s->E3 x v->E3 y u->r x y H Q->
  wpAny (model X.prog X.w) X.A (f v u) (EP X pins σ Q) X.xe s
def rQ(X:Cx)(f:Value->Sem Value)(r:V->Hp->VK->Prop):Prop:=
 ∀(pins:OA) (s:Shared) (σ:St) (H:Hp) (x:V) (v:Value) (Q:VK),Inv X pins σ H s->E3 x v->r x H Q->
  wpAny (model X.prog X.w) X.A (f v) (EP X pins σ Q) X.xe s
def M3(X:Cx)(f:Value)(r:List V->Hp->VK->Prop):Prop:=
 ∀(pins:OA) (s:Shared) (σ:St) (H:Hp) (xs:List V) (us:List Value) (Q:VK),Inv X pins σ H s->D6 xs us->r xs H Q->
  wpAny (model X.prog X.w) X.A (call f us) (EP X pins σ Q) X.xe s
def qC(r:R2)(ta tb:TE):TE:=fun σ H Q=>ta σ H fun x H1=>tb σ H1 fun y H2=>r x y H2 Q
def tX(r:V->Hp->VK->Prop)(ta:TE):TE:=fun σ H Q=>ta σ H fun x H1=>r x H1 Q
def rI(C:Int->Int->Prop)(g:Int->Int->V):R2:=fun x y H Q=>∃i j,x=.int i/\y=.int j/\C i j/\Q (g i j) H
def mX(g:Int->Int->V):R2:=fun x y H Q=>∃i j,x=.int i/\y=.int j/\Q (g i j) H
def rU(g:Int->V):V->Hp->VK->Prop:=fun x H Q=>∃i,x=.int i/\Q (g i) H
section
variable{X:Cx}{a b c:Expr}{ta tb tc:TE}{pos:Pos}
theorem EM(ha:PE X a ta)(hb:PE X b tb){pins:OA}{s:Shared}{σ:St}{H:Hp}{R:V->V->Hp->Prop}(I:Inv X pins σ H s)
  (h:ta σ H fun x H1=>tb σ H1 fun y H2=>R x y H2){Q:OU}{f:Value->Value->Sem Value}
  (hf:∀v u s2 x y H2,Inv X pins σ H2 s2->E3 x v->E3 y u->R x y H2->wpAny (model X.prog X.w) X.A (f v u) Q X.xe s2):
  wpAny (model X.prog X.w) X.A (eval a X.env) (fun v s₁=>wpAny (model X.prog X.w) X.A (eval b X.env) (fun u s₂=>wpAny (model X.prog X.w) X.A (f v u) Q X.xe s₂) X.xe s₁) X.xe s:=by
 refine eV (ha pins s σ H _ I h) fun v s1 ⟨x,H1,I1,r1,q1⟩=>?_
 refine eV (hb pins s1 σ H1 _ I1 q1) fun u s2 ⟨y,H2,I2,r2,q2⟩=>?_
 exact hf v u s2 x y H2 I2 r1 r2 q2
theorem IM{op:Operator}{r:R2}(ho:i5 X (binaryOp op) r)(ha:PE X a ta)(hb:PE X b tb):PE X (.BinOp a op b pos) (qC r ta tb):=by
 intro pins s σ H Q I h;exact wpAny_BinOp (EM ha hb I h fun v u s2 x y H2 I2 rx ry q=>ho pins s2 σ H2 x y v u Q I2 rx ry q)
theorem PF{op:UnaryOp}{r:V->Hp->VK->Prop}(ho:rQ X (unaryOp op) r)(ha:PE X a ta):PE X (.UnaryOp op a pos) (tX r ta):=by
 intro pins s σ H Q I h;exact UnaryOp_ (eV (ha pins s σ H _ I h) fun v s1 ⟨x,H1,I1,r1,q1⟩=>ho pins s1 σ H1 x v Q I1 r1 q1)
theorem sL{f:Value->Value->Sem Value}{C:Int->Int->Prop}{g:Int->Int->Int}
  (rule:∀(i j:Int) (t u:Tok) (s:Shared) (Q:OU) (E:OU),C i j->Q (.int (g i j) s.toks) {s with toks:=s.toks+1}->wpAny (model X.prog X.w) X.A (f (.int i t) (.int j u)) Q E s):
  i5 X f (rI C fun i j=>.int (g i j)):=by
 intro pins s σ H x y v u Q I rx ry h;obtain⟨i,j,rfl,rfl,hc,q⟩:=h;obtain⟨t,rfl⟩:=rx;obtain⟨t',rfl⟩:=ry;exact rule i j t t' s _ _ hc ⟨.int (g i j),H,I.tok _,⟨_,rfl⟩,q⟩
theorem EN{f:Value->Value->Sem Value}{g:Int->Int->Int}
  (rule:∀(i j:Int) (t u:Tok) (s:Shared) (Q:OU) (E:OU),Q (.int (g i j) s.toks) {s with toks:=s.toks+1}->wpAny (model X.prog X.w) X.A (f (.int i t) (.int j u)) Q E s):
  i5 X f (mX fun i j=>.int (g i j)):=by
 intro pins s σ H x y v u Q I rx ry h;obtain⟨i,j,rfl,rfl,q⟩:=h;obtain⟨t,rfl⟩:=rx;obtain⟨t',rfl⟩:=ry;exact rule i j t t' s _ _ ⟨.int (g i j),H,I.tok _,⟨_,rfl⟩,q⟩
theorem IP{f:Value->Value->Sem Value}{g:Int->Int->Bool}
  (rule:∀(i j:Int) (t u:Tok) (s:Shared) (Q:OU) (E:OU),Q (.bool (g i j)) s->wpAny (model X.prog X.w) X.A (f (.int i t) (.int j u)) Q E s):
  i5 X f (mX fun i j=>.bl (g i j)):=by
 intro pins s σ H x y v u Q I rx ry h;obtain⟨i,j,rfl,rfl,q⟩:=h;obtain⟨t,rfl⟩:=rx;obtain⟨t',rfl⟩:=ry;exact rule i j t t' s _ _ ⟨.bl (g i j),H,I,rfl,q⟩
def ER(i j:Int):Prop:=0<j/\j<1073741824
theorem PH:i5 X (binaryOp .Add) (mX fun i j=>.int (i+j)):=EN fun _ _ _ _ _ _ _ q=>add_int q
theorem PK:i5 X (binaryOp .Sub) (mX fun i j=>.int (i-j)):=EN fun _ _ _ _ _ _ _ q=>sub_int q
theorem IQ:i5 X (binaryOp .FloorDiv) (rI ER fun i j=>.int (i/j)):=sL fun i j _ _ _ _ _ hc q=>by
 have h1:(0:Int)<j:=hc.1
 have h2:j<1073741824:=hc.2
 exact floordiv_int (by omega) (by rw[Int.fdiv_eq_ediv_of_nonneg i (by omega)];exact q) (.inl (PyProof.noPylong_small (by omega)))
theorem EU:i5 X (binaryOp .Mod) (rI (fun _ j=>0<j) fun i j=>.int (i%j)):=sL fun i j _ _ _ _ _ hc q=>by
 have h1:(0:Int)<j:=hc
 exact mod_int' (by omega) (by rw[Int.fmod_eq_emod_of_nonneg i (by omega)];exact q)
theorem PL:i5 X (inplaceOp .Add) (mX fun i j=>.int (i+j)):=EN fun _ _ _ _ _ _ _ q=>iadd_int q
theorem tY{f:Value->Sem Value}{g:Int->Int}
  (rule:∀(i:Int) (t:Tok) (s:Shared) (Q:OU) (E:OU),Q (.int (g i) s.toks) {s with toks:=s.toks+1}->wpAny (model X.prog X.w) X.A (f (.int i t)) Q E s):
  rQ X f (rU fun i=>.int (g i)):=by
 intro pins s σ H x v Q I rx h;obtain⟨i,rfl,q⟩:=h;obtain⟨t,rfl⟩:=rx;exact rule i t s _ _ ⟨.int (g i),H,I.tok _,⟨_,rfl⟩,q⟩
theorem PM:rQ X (unaryOp .USub) (rU fun i=>.int (-i)):=tY fun _ _ _ _ _ q=>neg_int q
end
section
variable{X:Cx}{a b c:Expr}{ta tb tc:TE}{pos:Pos}
theorem IS{pins:OA}{σ:St}{H:Hp}{s:Shared}{Q:VK}{k k':Bool}(I:Inv X pins σ H s)(q:Q (.bl k) H)(e:k=k'):EP X pins σ Q (.bool k') s:=by
 subst e;exact⟨.bl k,H,I,rfl,q⟩
theorem EV:i5 X (compareOp .LtE) (mX fun i j=>.bl (decide (i≤j))):=IP fun _ _ _ _ _ _ _ q=>le_int q
theorem PN:i5 X (compareOp .GtE) (mX fun i j=>.bl (decide (j≤i))):=IP fun _ _ _ _ _ _ _ q=>ge_int q
theorem IT:i5 X (compareOp .In) (fun x y H Q=>∃i j,x=.str i/\y=.str j/\Q (.bl (!(Builtin.Str.occurrences j i 0 j.length 1).isEmpty)) H):=by
 intro pins s σ H x y v u Q I rx ry h;obtain⟨i,j,rfl,rfl,q⟩:=h;obtain⟨t,rfl⟩:=rx;obtain⟨t',rfl⟩:=ry;exact in_str (IS I q rfl)
theorem PQ:i5 X (compareOp .Is) (fun x y H Q=>y=.non/\Q (.bl (decide (x=.non))) H):=by
 intro pins s σ H x y v u Q I rx ry h;obtain⟨rfl,q⟩:=h;cases ry;refine is_none_gen (IS I q ?_);cases x<;>first
  |(cases rx;rfl)
  |(obtain⟨t,rfl⟩:=rx;rfl)
theorem gK(b:Expr){op:CmpOp}(h:op≠.In:=by decide)(h2:op≠.NotIn:=by decide):behindInMarks op b=false:=by
 have e1:(op==CmpOp.In)=false:=by cases op<;>first|rfl|exact absurd rfl h
 have e2:(op==CmpOp.NotIn)=false:=by cases op<;>first|rfl|exact absurd rfl h2
 cases b<;>simp[behindInMarks,e1,e2]
theorem PR{op:CmpOp}{r:R2}(ho:i5 X (compareOp op) r)(ha:PE X a ta)(hb:PE X b tb)(hm:behindInMarks op b=false):PE X (.Compare a [op] [b] pos) (qC r ta tb):=by
 intro pins s σ H Q I h;exact wpAny_Compare1 (EM ha hb I h fun v u s2 x y H2 I2 rx ry q=>ho pins s2 σ H2 x y v u Q I2 rx ry q) hm
def IU(t:TE):TT:=fun σ H Q=>t σ H fun x H'=>∃k,x=.bl k/\Q k H'
theorem PU{op:CmpOp}{r:R2}(ho:i5 X (compareOp op) r)(ha:PE X a ta)(hb:PE X b tb)(hm:behindInMarks op b=false):PT X (.Compare a [op] [b] pos) (IU (qC r ta tb)):=by
 intro pins s σ H Q I h;refine wpAny_isTrue_Compare1 (eV (ha pins s σ H _ I h) fun v s1 ⟨x,H1,I1,r1,q1⟩=>eV (hb pins s1 σ H1 _ I1 q1) fun u s2 ⟨y,H2,I2,r2,q2⟩=>
  eV (ho pins s2 σ H2 x y v u _ I2 r1 r2 q2) fun c s3 ⟨z,H3,I3,r3,k,e,q3⟩=>?_) hm
 subst e;cases r3;exact Zn ⟨H3,I3,q3⟩
def EY(r r':R2)(ta tb tc:TE):TE:=fun σ H Q=>ta σ H fun x H1=>tb σ H1 fun y H2=>r x y H2 fun z H3=>∃k,z=.bl k/\
 (if k=true then tc σ H3 fun w' H4=>r' y w' H4 Q else Q (.bl false) H3)
theorem PV{op op':CmpOp}{r r':R2}(ho:i5 X (compareOp op) r)(ho':i5 X (compareOp op') r')(ha:PE X a ta)(hb:PE X b tb)(hc:PE X c tc)
  (hm:lastMarks [op,op'] [b,c]=false:=by with_unfolding_all rfl):PE X (.Compare a [op,op'] [b,c] pos) (EY r r' ta tb tc):=by
 intro pins s σ H Q I h;refine Compare_chain (eV (ha pins s σ H _ I h) fun v s1 ⟨x,H1,I1,r1,q1⟩=>chain_link (eV (hb pins s1 σ H1 _ I1 q1) fun u s2 ⟨y,H2,I2,r2,q2⟩=>
  eV (ho pins s2 σ H2 x y v u _ I2 r1 r2 q2) fun d s3 ⟨z,H3,I3,r3,k,e,q3⟩=>?_)) hm
 subst e;cases r3;refine Zn ?_
 cases k with
 |false=>exact ite_ff ⟨.bl false,H3,I3,rfl,q3⟩
 |true=>exact ite_tt (chain_last (eV (hc pins s3 σ H3 _ I3 q3) fun w' s4 ⟨z',H4,I4,r4,q4⟩=>ho' pins s4 σ H4 y z' u w' Q I4 r2 r4 q4))
theorem PX{op op':CmpOp}{r r':R2}(ho:i5 X (compareOp op) r)(ho':i5 X (compareOp op') r')(ha:PE X a ta)(hb:PE X b tb)(hc:PE X c tc)
  (hm:lastMarks [op,op'] [b,c]=false:=by with_unfolding_all rfl):PT X (.Compare a [op,op'] [b,c] pos) (IU (EY r r' ta tb tc)):=by
 intro pins s σ H Q I h;refine isTrue_chain (eV (ha pins s σ H _ I h) fun v s1 ⟨x,H1,I1,r1,q1⟩=>test_link (eV (hb pins s1 σ H1 _ I1 q1) fun u s2 ⟨y,H2,I2,r2,q2⟩=>
  eV (ho pins s2 σ H2 x y v u _ I2 r1 r2 q2) fun d s3 ⟨z,H3,I3,r3,k,e,q3⟩=>?_)) hm
 subst e;cases r3;refine Zn ?_
 cases k with
 |false=>
  obtain⟨k',e',q'⟩:=q3;cases e';exact ite_ff ⟨H3,I3,q'⟩
 |true=>
  refine ite_tt (test_last (eV (hc pins s3 σ H3 _ I3 q3) fun w' s4 ⟨z',H4,I4,r4,q4⟩=>eV (ho' pins s4 σ H4 y z' u w' _ I4 r2 r4 q4) fun d' s5 ⟨z2,H5,I5,r5,k2,e2,q5⟩=>?_))
  subst e2;cases r5;exact Zn ⟨H5,I5,q5⟩
theorem Bv:(sizeLine:Nat)<2^63:=by rw[sizeLine_eq];decide
theorem R6{x:V}{us:List Value}(r:D6 [x] us):∃u,us=[u]/\E3 x u:=by
 cases r with
 |cons r1 r2=>cases r2;exact⟨_,rfl,r1⟩
theorem AG{x y:V}{us:List Value}(r:D6 [x,y] us):∃u w',us=[u,w']/\E3 x u/\E3 y w':=by
 cases r with
 |cons r1 r2=>
  cases r2 with
  |cons r3 r4=>cases r4;exact⟨_,_,rfl,r1,r3⟩
theorem IV(hc:X.calm=true):M3 X (.builtin "min") (fun xs H Q=>∃i j,xs=[.int i,.int j]/\Q (.int (if j<i then j else i)) H):=by
 intro pins s σ H xs us Q I r h;obtain⟨i,j,rfl,q⟩:=h;obtain⟨u,w',rfl,⟨t,rfl⟩,⟨t',rfl⟩⟩:=AG r;refine min_two_ints (I.ok.hd hc) fun h' tk k=>⟨_,H,I.kept k,?_,q⟩
 by_cases hj:j<i
 ·rw[Qt hj,Qt hj];exact⟨_,rfl⟩
 ·rw[Qd hj,Qd hj];exact⟨_,rfl⟩
theorem EZ:M3 X (.type "int") (fun xs H Q=>(∃i,xs=[.int i]/\Q (.int i) H)\/ ∃k,xs=[.bl k]/\Q (.int (if k then 1 else 0)) H):=by
 intro pins s σ H xs us Q I r h
 rcases h with⟨i,rfl,q⟩|⟨k,rfl,q⟩
 ·obtain⟨u,rfl,t,rfl⟩:=R6 r
  exact call_int_int ⟨.int i,H,I,⟨_,rfl⟩,q⟩
 ·obtain⟨u,rfl,r1⟩:=R6 r
  cases r1;exact call_int_bool ⟨.int (if k then 1 else 0),H,I.tok _,⟨_,rfl⟩,q⟩
theorem IW:M3 X (.type "str") (fun xs H Q=>∃i,xs=[.int i]/\i.natAbs.log2<1920/\Q (.str (toString i)) H):=by
 intro pins s σ H xs us Q I r h;obtain⟨i,rfl,hz,q⟩:=h;obtain⟨u,rfl,t,rfl⟩:=R6 r;exact PySem.P.str_of_int hz ⟨.str _,H,I.tok _,⟨_,rfl⟩,q⟩
end
structure mH(h:Heap)(x dx C:Addr)(mA:OI):Prop where
 obj:h.get? x=some (PySem.W.instObj C dx)
 ns:h.Ns1 dx mA
 ne:dx≠x
theorem PY{h:Heap}{dx:Addr}{mA:OI}(n:h.Ns1 dx mA):∃od,h.get? dx=some od/\∀name,PySem.W.lookIn name od=some (mA name):=by
 obtain⟨o,es,ep,ho,hd,hk,_,hm⟩:=n;refine⟨o,ho,fun name=>?_⟩
 have e:=hm name
 unfold nsFind findBy at e;rw[←Array.find?_toList]at e;unfold PySem.W.lookIn;rw[hd];dsimp only;split
 ·rename_i y q
  rw[q]at e;exact Yy some e
 ·rename_i q
  rw[q]at e;have a:es.toList.any (·.refKey)=false:=by
   rw[List.any_eq_false];intro y hy;obtain⟨z,t,hkey⟩:=hk y (Array.mem_toList_iff.mp hy)
   simp[DictEntry.refKey,hkey]
  have a':¬ es.toList.any (·.refKey)=true:=by rw[a];exact Zm
  rw[Qd a'];exact Yy some e
theorem mH.look{h:Heap}{x dx C:Addr}{mA:OI}(I:mH h x dx C mA):∃od,PySem.W.InstAt h x (PySem.W.instObj C dx) C (some od)/\∀name,PySem.W.lookIn name od=some (mA name):=
 let ⟨od,ho,hl⟩:=PY I.ns
 ⟨od,⟨I.obj,rfl,rfl,ho⟩,hl⟩
section
variable{prog:Program}{w:World}{A:Around}{E:OU}{s:Shared}{K:Qq}{x dx C f:Addr}{mA:OI}{name:Str}{v:Value}
theorem PZ{expr:Bool}{Q:OU}(X:K.In s.heap)(I:mH s.heap x dx C mA)(hg:PySem.W.plainGet K C name=true)(hh:PySem.W.hasDictIn K C=true)
  (ha:PySem.W.findIn K (.ref C) name=some none)(hv:mA name=some v)(hv':PySem.W.handedIn v=true)(h:Q v {s with toks:=s.toks+1}):
  wpAny (model prog w) A (getAttr (.ref x) name expr) Q E s:=by
 obtain⟨od,J,hl⟩:=I.look;exact PySem.W.get_value X J (PySem.W.plainGet_of hg).1 (PySem.W.findObj_own hh ha rfl (by rw[hl,hv])) hv' h
theorem Pa{pl:Sem Bool}{Q:Value×List Value->Shared->Prop}(X:K.In s.heap)(I:mH s.heap x dx C mA)(hg:PySem.W.plainGet K C name=true)
  (hf:PySem.W.findIn K (.ref C) name=some (some (.ref f)))(ht:PySem.W.isFn K (.ref f)=true)(hv:mA name=none)(h:Q (.ref f,[.ref x]) s):
  wpAny (model prog w) A (getMethod (.ref x) name pl) Q E s:=by
 obtain⟨od,J,hl⟩:=I.look;exact PySem.W.method_fn X J (PySem.W.plainGet_of hg).1 (PySem.W.plainGet_of hg).2 hf (beq_iff_eq.mp ht) (by show(PySem.W.lookIn name od).map (·.isSome)=some false;rw[hl,hv];rfl) h
theorem Pb{ns:List Str}{Q:Unit->Shared->Prop}(X:K.In s.heap)(I:mH s.heap x dx C mA)
  (hs:PySem.W.findIn K (.ref C) "__setattr__"=some (some (.builtin "object.__setattr__")))(hp:PySem.W.plainOver K C=true)(ht:PySem.W.takerIn K C name=some none)(hh:PySem.W.hasDictIn K C=true)
  (hw:PySem.Within mA ns)(hsz:ns.length≤sizeLine)
  (h:∀h',mH h' x dx C (fun y=>if y=name then some v else mA y)->Heap.SameBut dx s.heap h'->Q () {s with heap:=h',toks:=s.toks+2}):
  wpAny (model prog w) A (setAttr (.ref x) name v) Q E s:=by
 obtain⟨od,J,hl⟩:=I.look;refine PySem.W.set_plain X J hs (PySem.W.osa_open (s:={s with toks:=s.toks+1}) (r:=none) X J hp ht fun b=>?_)
 obtain⟨cd,hc,hd'⟩:=PySem.W.any_some hh;have hx:s.heap.get? x=some ⟨.ref C,some dx,.plain,#[]⟩:=I.obj;refine Qz (Qx (Qz (Qz (wpAny_loadPart hx (Qz (PySem.W.Looks.here (s:={s with toks:=s.toks+1}) (PySem.W.looks_clsIn X hc) ?_))))))
 rw[hd'];refine Qx (a:=some dx) (Qz (Qx (Qz ?_)));refine wpAny_nsSet1 (s:={s with toks:=s.toks+1}) I.ns fun h' hn2 hs2=>?_
 obtain⟨oD,esD,epD,hoD,hdD,hcD⟩:=hn2.count (PySem.Within.cons name v hw);refine Qz (wpAny_lookBehind hoD (by rw[hdD];exact pastItsLine_dict (Qe hcD (by rw[Zt];omega))) ?_)
 exact Qx (h _ ⟨(hs2.2 _ (Qa I.ne)).trans I.obj,hn2,I.ne⟩ hs2)
theorem Pc{R:Result->Shared->Prop}{vs:List Value}{kw:List (Str×Value)}(X:K.In s.heap)(hm:PySem.W.makesIn K C=true)
  (hi:PySem.W.findIn K (.ref C) "__init__"=some (some (.ref f)))(hf:PySem.W.typeIn K (.ref f)=some (.type "function"))
  (h:codeAny (model prog w) (A.under (.builtin "type.__call__" ⟨.ref C::vs,kw⟩)) (.call (.ref f) ⟨.ref (s.heap.objs.size+1)::vs,kw⟩) (PySem.W.InitBack (s.heap.objs.size+1) R)
   {s with heap:=(s.heap.push PySem.W.emptyDict).push (PySem.W.instObj C s.heap.objs.size)}):
  codeAny (model prog w) A (.call (.ref C) ⟨vs,kw⟩) R s:=by
 obtain⟨hh,g,d,t,os⟩:=s;exact PySem.W.make_core (PySem.W.makes_of X hm) (PySem.W.looks_findIn X hi) (fun self=>PySem.W.bind_fn X self hf) (.inl rfl) h
end
def O3(f:Str)(v:V):List (Str×V)->List (Str×V)
 |[]=>[(f,v)]
 |(g,x)::r=>if g=f then(g,v)::r else(g,x)::O3 f v r
theorem IY(f g:Str)(v:V):∀fs:List (Str×V),(O3 f v fs).lookup g=if g=f then some v else fs.lookup g
 |[]=>by
  show List.lookup g [(f,v)]=_
  by_cases h:g=f
  ·have hb:(g==f)=true:=beq_iff_eq.mpr h
   simp only[List.lookup,hb,Qt h]
  ·have hb:(g==f)=false:=Jb.mpr h
   simp only[List.lookup,hb,Qd h]
 |(k,x)::r=>by
  have ih:=IY f g v r
  rw[show O3 f v ((k,x)::r)=(if k=f then(k,v)::r else(k,x)::O3 f v r)from rfl]
  by_cases hk:k=f
  ·rw[Qt hk]
   by_cases h:g=k
   ·have hb:(g==k)=true:=beq_iff_eq.mpr h
    simp only[List.lookup,hb,Qt (h.trans hk)]
   ·have hb:(g==k)=false:=Jb.mpr h
    simp only[List.lookup,hb,Qd (fun e:g=f=>h (e.trans hk.symm))]
  ·rw[Qd hk]
   by_cases h:g=k
   ·have hb:(g==k)=true:=beq_iff_eq.mpr h
    simp only[List.lookup,hb,Qd (fun e:g=f=>hk (h.symm.trans e))]
   ·have hb:(g==k)=false:=Jb.mpr h
    simp only[List.lookup,hb];exact ih
theorem Ea(f:Str)(v:V):∀fs:List (Str×V),f∈(O3 f v fs).map (·.1)/\∀g,g∈fs.map (·.1)->g∈(O3 f v fs).map (·.1)
 |[]=>⟨by simp[O3],fun g h=>by simp at h⟩
 |(k,x)::r=>by
  obtain⟨i1,i2⟩:=Ea f v r;rw[show O3 f v ((k,x)::r)=(if k=f then(k,v)::r else(k,x)::O3 f v r)from rfl]
  by_cases hk:k=f
  ·rw[Qt hk]
   subst hk;exact⟨by simp,fun g h=>by simpa using h⟩
  ·rw[Qd hk]
   refine⟨?_,fun g h=>?_⟩
   ·rw[Zu]
    exact Qi _ i1
   ·rw[Zu]at h ⊢
    rcases Qg.mp h with e|e
    ·exact List.mem_cons.mpr (.inl e)
    ·exact Qi _ (i2 g e)
theorem IZ(f:Str)(v:V):∀fs:List (Str×V),(O3 f v fs).length≤fs.length+1
 |[]=>by simp[O3]
 |(k,x)::r=>by
  have ih:=IZ f v r
  rw[show O3 f v ((k,x)::r)=(if k=f then(k,v)::r else(k,x)::O3 f v r)from rfl]
  by_cases hk:k=f
  ·rw[Qt hk,Zt,Zt];omega
  ·rw[Qd hk,Zt,Zt];omega
theorem N8.some_of{v:V}{o:Option Value}(r:N8 (some v) o):∃u,o=some u/\E3 v u:=by
 cases o with
 |none=>exact(show False from r).elim
 |some u=>exact⟨u,rfl,r⟩
theorem N8.none_of{o:Option Value}(r:N8 none o):o=none:=by
 cases o with
 |none=>rfl
 |some u=>exact(show False from r).elim
theorem Pd{v:V}{u:Value}(r:E3 v u):PySem.W.handedIn u=true:=by
 cases v with
 |non=>cases (show u=Value.none from r);rfl
 |bl b=>cases (show u=Value.bool b from r);rfl
 |int i=>obtain⟨t,e⟩:=(show∃t,u=Value.int i t from r);cases e;rfl
 |str x=>obtain⟨t,e⟩:=(show∃t,u=Value.str x t from r);cases e;rfl
 |byt b=>obtain⟨t,e⟩:=(show∃t,u=Value.bytes b t from r);cases e;rfl
 |flt b=>obtain⟨t,e⟩:=(show∃t,u=Value.float b t from r);cases e;rfl
 |ref a=>cases (show u=Value.ref a from r);rfl
 |ty n=>cases (show u=Value.type n from r);rfl
section
variable{P:Program}{w:World}{H H':Hp}{h h':Heap}{a C dx:Addr}{fs fs':List (Str×V)}
theorem CY(hok:j6 P w H h)(e:H a=some (.ins C dx fs)):∃mA,mH h a dx C mA/\(∀f,N8 (fs.lookup f) (mA f))/\PySem.Within mA (fs.map (·.1))/\fs.length≤1000/\H dx=some (.own a):=by
 obtain⟨d,z,ne,ob,mA,n,r,q⟩:=(show J3 P w H h a (.ins C dx fs)from hok a _ e)
 exact⟨mA,⟨ob,n,ne⟩,r,q,z,d⟩
end
structure mY(K:Qq)(C:Addr):Prop where
 pg:PySem.W.plainGet K C Str.empty=true
 hd:PySem.W.hasDictIn K C=true
 po:PySem.W.plainOver K C=true
 sa:PySem.W.findIn K (.ref C) "__setattr__"=some (some (.builtin "object.__setattr__"))
theorem mY.get{K:Qq}{C:Addr}(c:mY K C)(f:Str):PySem.W.plainGet K C f=true:=c.pg
def V5(K:Qq)(C:Addr)(f:Str):Prop:=PySem.W.findIn K (.ref C) f=some none
theorem V5.taker{K:Qq}{C:Addr}{f:Str}(n:V5 K C f):PySem.W.takerIn K C f=some none:=by
 unfold PySem.W.takerIn;rw[show PySem.W.findIn K (.ref C) f=some none from n]
 rfl
structure Con(K:Qq)(C:Addr)(f:Str)(v:V)(u:Value):Prop where
 at_:PySem.W.findIn K (.ref C) f=some (some u)
 rel:E3 v u
 get:PySem.W.specialIn K u "__get__"=some none
 cp:PySem.W.copiedNames.contains f=false
structure mI(K:Qq)(C:Addr)(m:Str)(f:Addr):Prop where
 at_:PySem.W.findIn K (.ref C) m=some (some (.ref f))
 fn:PySem.W.isFn K (.ref f)=true
 kp:PySem.W.keepIn K (.ref f)=true
section
variable{X:Cx}{pins:OA}{σ:St}{H:Hp}{s:Shared}{a C dx:Addr}{fs:List (Str×V)}{f:Str}{v:V}{A:Around}{E:OU}
theorem Pe{b:Bool}{Q:OU}(I:Inv X pins σ H s)(e:H a=some (.ins C dx fs))(c:mY X.K C)(n:V5 X.K C f)(l:fs.lookup f=some v)
  (h:∀u s',Inv X pins σ H s'->E3 v u->Q u s'):wpAny (model X.prog X.w) A (getAttr (.ref a) f b) Q E s:=by
 obtain⟨mA,O,r,_,_,_⟩:=CY I.hok e;obtain⟨u,hu,ru⟩:=N8.some_of (v:=v) (o:=mA f) (by rw[←l];exact r f)
 exact PZ I.kIn O (c.get f) c.hd n hu (Pd ru) (h u _ (I.tok _) ru)
theorem Ia{m:Str}{g:Addr}{pl:Sem Bool}{Q:Value×List Value->Shared->Prop}(I:Inv X pins σ H s)(e:H a=some (.ins C dx fs))(c:mY X.K C)(k:mI X.K C m g)(l:fs.lookup m=none)
  (h:Q (.ref g,[.ref a]) s):wpAny (model X.prog X.w) A (getMethod (.ref a) m pl) Q E s:=by
 obtain⟨mA,O,r,_,_,_⟩:=CY I.hok e;have hn:mA m=none:=N8.none_of (by rw[←l];exact r m)
 exact Pa I.kIn O (c.get m) k.at_ k.fn hn h
theorem Pf{y:V}{u:Value}{Q:Unit->Shared->Prop}(I:Inv X pins σ H s)(e:H a=some (.ins C dx fs))(c:mY X.K C)(n:V5 X.K C f)(hl:fs.length<1000)(ry:E3 y u)
  (h:∀s',Inv X pins σ (upd H a (.ins C dx (O3 f y fs))) s'->Q () s'):wpAny (model X.prog X.w) A (setAttr (.ref a) f u) Q E s:=by
 obtain⟨mA,O,r,wi,_,ho⟩:=CY I.hok e;have hz:(fs.map (·.1)).length≤sizeLine:=by rw[Ql,sizeLine_eq];omega
 refine Pb I.kIn O c.sa c.po n.taker c.hd wi hz fun h' O' sb=>h _ ?_
 have hd:∃o,h'.get? dx=some o:=let ⟨o,_,_,e',_⟩:=O'.ns;⟨o,e'⟩
 refine I.write (x:=a) (e:=dx) (by rw[e];exact True.intro) (.inr ho) (fun b q hb z=>(sb.2 b hb).trans z) hd ?_
 refine⟨by rw[C4 O.ne];exact ho,?_,O.ne,O'.obj,_,O'.ns,fun g=>?_,fun g hg=>?_⟩
 ·have:=IZ f y fs;omega
 ·show N8 ((O3 f y fs).lookup g) (if g=f then some u else mA g)
  rw[IY]
  by_cases q:g=f
  ·rw[Qt q,Qt q];exact ry
  ·rw[Qd q,Qd q];exact r g
 ·by_cases q:g=f
  ·rw[q];exact(Ea f y fs).1
  ·refine(Ea f y fs).2 g (wi g fun z=>hg ?_)
   show(if g=f then some u else mA g)=none
   rw[Qd q];exact z
theorem Inv.made(I:Inv X pins σ H s):Inv X pins σ (upd (upd H s.heap.objs.size (.own (s.heap.objs.size+1))) (s.heap.objs.size+1) (.ins C s.heap.objs.size []))
  {s with heap:=(s.heap.push PySem.W.emptyDict).push (PySem.W.instObj C s.heap.objs.size)}:=by
 have e1:(s.heap.push PySem.W.emptyDict).get? s.heap.objs.size=some PySem.W.emptyDict:=Qw s.heap rfl
 have e2:((s.heap.push PySem.W.emptyDict).push (PySem.W.instObj C s.heap.objs.size)).get? (s.heap.objs.size+1)=some (PySem.W.instObj C s.heap.objs.size):=by
  have:=Qw (s.heap.push PySem.W.emptyDict) (o:=PySem.W.instObj C s.heap.objs.size) rfl;rwa [Zy]at this
 have e3:(s.heap.push PySem.W.emptyDict).Ns s.heap.objs.size (fun _=>none):=⟨PySem.W.emptyDict,#[],_,e1,rfl,(fun e he=>absurd he (by simp)),fun _=>rfl⟩
 have I1:=I.laid (a:=s.heap.objs.size) (o:=.own (s.heap.objs.size+1)) (h':=s.heap.push PySem.W.emptyDict) (t':=s.toks) (fun b u q=>Qj _ q) (Qv _) ⟨_,e1⟩
 refine I1.laid (a:=s.heap.objs.size+1) (o:=.ins C s.heap.objs.size []) (t':=s.toks) (fun b u q=>Qj _ q) (Vy (Zy _ _)) ?_
 have ne:s.heap.objs.size≠s.heap.objs.size+1:=Qh (Vu _)
 refine⟨by rw[C4 ne,D9],Yb _,ne,e2,fun _=>none,(Heap.Ns1.of_empty e3).at fun o q=>Qj _ q,fun _=>True.intro,fun y hy=>absurd rfl hy⟩
theorem Pg{prog:Program}{w:World}{env:Env}{e:Expr}{f:Str}{pos:Pos}{s:Shared}{Q:OU}(hb:attributeBase e f env (eval e env)=eval e env)
  (h:wpAny (model prog w) A (eval e env) (fun o s₁=>wpAny (model prog w) A (getAttr o f true) Q E s₁) E s):wpAny (model prog w) A (eval (.Attribute e f pos) env) Q E s:=
 Attribute_any_ h (by rw[arm_eval_Attribute,hb])
end
def Ib(K:Qq)(ta:TE)(f:Str):TE:=fun σ H Q=>ta σ H fun x H1=>∃a C dx fs v,x=.ref a/\H1 a=some (.ins C dx fs)/\mY K C/\V5 K C f/\fs.lookup f=some v/\Q v H1
def Ph(K:Qq)(ta tv:TE)(f:Str):TS:=fun D σ H=>tv σ H fun y H1=>ta σ H1 fun x H2=>∃a C dx fs,x=.ref a/\H2 a=some (.ins C dx fs)/\mY K C/\V5 K C f/\fs.length<1000/\
 D.nx σ (upd H2 a (.ins C dx (O3 f y fs)))
section
variable{X:Cx}{o e value:Expr}{f:Str}{pos pos' tpos:Pos}{ta tv:TE}
theorem Eb(he:PE X e ta)(hb:attributeBase e f X.env (eval e X.env)=eval e X.env):PE X (.Attribute e f pos) (Ib X.K ta f):=by
 intro pins s σ H Q I h;refine Pg hb (eV (he pins s σ H _ I h) fun u s1 ⟨x,H1,I1,rx,a,C,dx,fs,v,ex,ea,c,n,l,q⟩=>?_)
 subst ex;obtain rfl:u=Value.ref a:=rx;exact Pe I1 ea c n l fun u' s2 I2 ru=>⟨v,H1,I2,ru,q⟩
theorem Pj(ha:PE X o ta)(hv:PE X value tv)(hs:swapsWith value (some (.Attribute o f pos')) pos.line X.env=pure false):PS X (.Assign [.Attribute o f pos'] value pos) (Ph X.K ta tv f):=by
 intro pins s σ H D I h;refine plainObj_wpAny_Assign_Attribute (eV (hv pins s σ H _ I h) fun u s1 ⟨y,H1,I1,ry,q⟩=>eV (ha pins s1 σ H1 _ I1 q) fun ov s2 ⟨x,H2,I2,rx,a,C,dx,fs,ex,ea,c,n,l,q2⟩=>?_) hs
 subst ex;obtain rfl:ov=Value.ref a:=rx;exact Pf I2 ea c n l ry fun s3 I3=>⟨σ,_,I3,q2⟩
theorem eR{pl:Sem Bool}{m:Str}{apos:Pos}{args:List Expr}{pins:OA}{s:Shared}{σ:St}{H:Hp}{Q:OU}{te:TE}(he:PE X e te)(I:Inv X pins σ H s)
  (h:te σ H fun x H1=>∃a C dx fs g,x=.ref a/\H1 a=some (.ins C dx fs)/\mY X.K C/\mI X.K C m g/\fs.lookup m=none/\
   ∀s1,Inv X pins σ H1 s1->wpAny (model X.prog X.w) X.A (callWith pos (.ref g) [.ref a] (backTo pos (starEach args X.env)) (backToKw pos (keywordEach [] X.env))) Q X.xe s1)
  (ht:eval (.Call (.Attribute e m apos) args [] pos) X.env=(do
   let ov←eval e X.env
   standAt apos.atName
   let (f,first)←holding [ov] (getMethod ov m pl)
   callWith pos f first (backTo pos (starEach args X.env)) (backToKw pos (keywordEach [] X.env)))):
  wpAny (model X.prog X.w) X.A (eval (.Call (.Attribute e m apos) args [] pos) X.env) Q X.xe s:=by
 refine PySem.W.methodCall_KW (pl:=pl) (eV (he pins s σ H _ I h) fun u s1 ⟨x,H1,I1,rx,a,C,dx,fs,g,ex,ea,c,k,l,q⟩=>?_) ht
 subst ex;obtain rfl:u=Value.ref a:=rx;exact Ia I1 ea c k l (q s1 I1)
end
section
variable{X:Cx}{pins:OA}{σ:St}{H:Hp}{s:Shared}{A:Around}{E:OU}{Q:OU}{c:Value}{b:Bool}
inductive kG (K:Qq) (H:Hp):V->Value->Prop where
 |non:kG K H .non (.type "NoneType")
 |bl (x:Bool):kG K H (.bl x) (.type "bool")
 |int (i:Int):kG K H (.int i) (.type "int")
 |str (x:Str):kG K H (.str x) (.type "str")
 |flt (x:UInt64):kG K H (.flt x) (.type "float")
 |lst {a:Addr}{xs:List V}(e:H a=some (.lst xs)):kG K H (.ref a) (.type "list")
 |frz {a:Addr}{o:Obj}{xs:List V}(e:H a=some (.frz o (.lst xs))):kG K H (.ref a) (.type "list")
 |tup {a:Addr}{xs:List V}(e:H a=some (.tup xs)):kG K H (.ref a) (.type "tuple")
 |dK {a:Addr}{kvs:List (Key×V)}(e:H a=some (.dK kvs)):kG K H (.ref a) (.type "dict")
 |dT {a:Addr}{C:Addr->List Key->Prop}{kvs:List (List Key×V)}(e:H a=some (.dT C kvs)):kG K H (.ref a) (.type "dict")
 |dX {a:Addr}{es:Array DictEntry}{ep:Nat}(e:H a=some (.dX es ep)):kG K H (.ref a) (.type "dict")
 |ins {a C dx:Addr}{fs:List (Str×V)}(e:H a=some (.ins C dx fs)) (cl:mY K C) (ha:PySem.W.findIn K (.ref C) "__class__"=some (some (.builtin "object.__class__")))
   (hn:PySem.W.specialIn K (.builtin "object.__class__") "__get__"=some (some (.builtin "getset_descriptor.__get__"))) (htk:PySem.W.takesIn K (.builtin "object.__class__")=some true)
   (hm:PySem.W.mroIn K C (.type "object")=some true):kG K H (.ref a) (.ref C)
theorem V6{x:V}{u t:Value}(I:Inv X pins σ H s)(rx:E3 x u)(ty:kG X.K H x t)(e:PySem.W.kitOne X.K t c=some b)(h:∀tk,Q (.bool b) {s with toks:=tk}):
  wpAny (model X.prog X.w) A (call (.builtin "isinstance") [u,c]) Q E s:=by
 cases ty with
 |non=>cases (show u=Value.none from rx);exact Zk PySem.W.kitx_none I.kIn True.intro e (fun z=>nomatch z) h
 |bl y=>cases (show u=Value.bool y from rx);exact Zk PySem.W.kitx_bool I.kIn True.intro e (fun z=>nomatch z) h
 |int i=>obtain⟨t,q⟩:=(show∃t,u=Value.int i t from rx);cases q;exact Zk PySem.W.kitx_int I.kIn True.intro e (fun z=>nomatch z) h
 |str y=>obtain⟨t,q⟩:=(show∃t,u=Value.str y t from rx);cases q;exact Zk PySem.W.kitx_str I.kIn True.intro e (fun z=>nomatch z) h
 |flt y=>obtain⟨t,q⟩:=(show∃t,u=Value.float y t from rx);cases q;exact Zk PySem.W.kitx_float I.kIn True.intro e (fun z=>nomatch z) h
 |@lst a xs ea=>
  cases (show u=Value.ref a from rx)
  obtain⟨_,_,n,_,h1⟩:=(show J3 X.prog X.w H s.heap a (.lst xs)from I.hok a _ ea)
  exact Zk Vv I.kIn ⟨_,h1,rfl⟩ e (fun z=>nomatch z) h
 |@frz a ob xs ea=>
  cases (show u=Value.ref a from rx)
  obtain⟨_,_,_,n,_,h1⟩:=(show J3 X.prog X.w H s.heap a (.frz ob (.lst xs))from I.hok a _ ea)
  exact Zk Vv I.kIn ⟨_,h1,rfl⟩ e (fun z=>nomatch z) h
 |@tup a xs ea=>
  cases (show u=Value.ref a from rx)
  obtain⟨_,_,_,p⟩:=(show J3 X.prog X.w H s.heap a (.tup xs)from I.hok a _ ea)
  obtain⟨o,h1,h2,_⟩:=p;exact Zk PySem.W.kitx_tuple I.kIn ⟨o,h1,h2⟩ e (fun z=>nomatch z) h
 |@dK a kvs ea=>
  cases (show u=Value.ref a from rx)
  obtain⟨_,_,vs,_,p⟩:=(show J3 X.prog X.w H s.heap a (.dK kvs)from I.hok a _ ea)
  obtain⟨o,es,ep,h1,h2,_⟩:=p;exact Zk Jd I.kIn ⟨o,h1,h2.1⟩ e (fun z=>nomatch z) h
 |@dT a C kvs ea=>
  cases (show u=Value.ref a from rx)
  obtain⟨_,_,xs,_,o,es,ep,h1,h2,_⟩:=(show J3 X.prog X.w H s.heap a (.dT C kvs)from I.hok a _ ea)
  exact Zk Jd I.kIn ⟨o,h1,h2.1⟩ e (fun z=>nomatch z) h
 |@dX a es ep ea=>
  cases (show u=Value.ref a from rx)
  obtain⟨_,_,o,h1,h2,_⟩:=(show J3 X.prog X.w H s.heap a (.dX es ep)from I.hok a _ ea)
  exact Zk Jd I.kIn ⟨o,h1,h2.1⟩ e (fun z=>nomatch z) h
 |@ins a C dx fs ea cl ha hn htk hm=>
  cases (show u=Value.ref a from rx)
  obtain⟨mA,O,_⟩:=CY I.hok ea;obtain⟨od,J,_⟩:=O.look;exact Zk (PySem.W.kitx_own (cl.get _) cl.hd ha hn htk hm) I.kIn J e (fun z=>nomatch z) h
end
structure fA(k:Nat)(A:Around):Prop where
 hd:A.handled=none
 dp:A.depth+3 * k+5<recursionLimit
 un:A.units+16 * k+200<cLine
theorem fA.mono{j k:Nat}{A:Around}(r:fA k A)(h:j≤k):fA j A:=⟨r.hd,by have:=r.dp;omega,by have:=r.un;omega⟩
theorem fA.deeper{k:Nat}{A:Around}(r:fA (k+1) A)(env:Env):fA k (A.deeper env):=
 ⟨r.hd,by have:=r.dp;show A.depth+1+3 * k+5<_;omega,by have:=r.un;show A.units+3+16 * k+200<_;omega⟩
theorem Pk{A:Around}{C:Addr}{us:List Value}{kw:List (Str×Value)}:(A.under (.builtin "type.__call__" ⟨.ref C::us,kw⟩)).depth=A.depth+1:=by
 first|rfl|simp[Around.under,Code.weight,Code.isCreation,Code.isGuard,Code.isCaller,Code.frames,Code.isFrame,guardIds]
theorem Pl{A:Around}{C:Addr}{us:List Value}{kw:List (Str×Value)}:(A.under (.builtin "type.__call__" ⟨.ref C::us,kw⟩)).units=A.units+1:=by
 first|rfl|simp[Around.under,Code.cUnits,Code.frames,Code.isFrame]
theorem fA.make{k:Nat}{A:Around}(r:fA (k+1) A)(C:Addr)(us:List Value)(kw:List (Str×Value)):fA k (A.under (.builtin "type.__call__" ⟨.ref C::us,kw⟩)):=
 ⟨r.hd,by have:=r.dp;rw[Pk];omega,by have:=r.un;rw[Pl];omega⟩
theorem fA.depth{k:Nat}{A:Around}(r:fA k A):A.depth<recursionLimit:=by have:=r.dp;omega
theorem fA.units{k:Nat}{A:Around}(r:fA k A):A.units+64<cLine:=by have:=r.un;omega
def Bw:TA:=fun _ H Q=>Q [] H
def Ec(ta:TE)(tr:TA):TA:=fun σ H Q=>ta σ H fun x H1=>tr σ H1 fun xs H2=>Q (x::xs) H2
section
variable{X:Cx}{e:Expr}{es:List Expr}{te:TE}{t:TA}{pos:Pos}
theorem Q3:PA X [] Bw:=fun _ _ _ _ H Q I h=>Calls.spliced_nil ⟨[],H,I,.nil,h⟩
theorem M7(ha:PE X e te)(hr:PA X es t)(hs:starEach (e::es) X.env=(false,eval e X.env)::starEach es X.env:=by rfl):PA X (e::es) (Ec te t):=by
 intro pos pins s σ H Q I h;rw[hs];show wpAny _ _ (spliced ((false,eval e X.env)::backTo pos (starEach es X.env))) _ _ s;refine Calls.spliced_cons (eV (ha pins s σ H _ I h) fun u s1 ⟨x,H1,I1,r1,q1⟩=>?_)
 exact eV (hr pos pins s1 σ H1 _ I1 q1) fun us s2 ⟨xs,H2,I2,r2,q2⟩=>⟨x::xs,H2,I2,.cons r1 r2,q2⟩
def Pm(t:TA):TE:=fun σ H Q=>t σ H fun xs H1=>xs.length≤sizeLine/\∀p,H1 p=none->Q (.ref p) (upd H1 p (.tup xs))
def Pn(t:TA):TE:=fun σ H Q=>t σ H fun xs H1=>xs.length≤sizeLine/\∀p,H1 p=none->Q (.ref p) (upd H1 p (.lst xs))
theorem Po{x1}(h:PA X es t):PE X (.Tuple es x1 pos) (Pm t):=by
 intro pins s σ H Q I hq;refine wpAny_Tuple_spliced (eV (h pos pins s σ H _ I hq) fun us s1 ⟨xs,H1,I1,r,z,q⟩=>⟨by rw[←r.length];exact z,?_⟩)
 have hf:H1 s1.heap.objs.size=none:=I1.hok.fresh (Qv _)
 refine⟨.ref s1.heap.objs.size,upd H1 s1.heap.objs.size (.tup xs),I1.laid (t':=s1.toks) (fun b u e=>Qj _ e) (Qv _) ?_,rfl,q _ hf⟩
 exact⟨z,us,r,⟨_,Qw _ rfl,rfl,rfl,_,rfl⟩⟩
theorem Pp(h:PA X es t):PE X (.List es pos) (Pn t):=by
 intro pins s σ H Q I hq;refine wpAny_List_spliced (eV (h pos pins s σ H _ I hq) fun us s1 ⟨xs,H1,I1,r,z,q⟩=>⟨by rw[←r.length];exact z,?_⟩)
 have hf:H1 s1.heap.objs.size=none:=I1.hok.fresh (Qv _)
 refine⟨.ref s1.heap.objs.size,upd H1 s1.heap.objs.size (.lst xs),I1.laid (t':=s1.toks) (fun b u e=>Qj _ e) (Qv _) ?_,rfl,q _ hf⟩
 exact⟨z,us,0,r,Qw _ rfl⟩
end
abbrev Sp:=List V->Hp->VK->XK->Prop
abbrev nQ:=List Env->Hp->Shared->XK->OU
structure kZ(P:Program)(w:World)(K:Qq)(mg:OI)(base:Heap)(A:Around)(outer:List Env)(s:Shared)(H:Hp):Prop where
 frames:A.frames=some outer
 mod:Mod K mg base
 bs:∀b o,base.get? b=some o->s.heap.get? b=some o/\H b=none
 bsz:base.objs.size≤s.heap.objs.size
 funs:s.heap.FunFrames base outer
 frf:∀b∈iN outer,H b=none
 hok:j6 P w H s.heap
 bare:AllBare s.gens
def CE(outer:List Env)(P:Program)(w:World)(H:Hp)(s:Shared)(Q:VK)(u:Value)(s':Shared):Prop:=
 ∃v H',s'.os=s.os/\AllBare s'.gens/\Un (iN outer) [] H H' s.heap s'.heap/\j6 P w H' s'.heap/\E3 v u/\Q v H'
def CR(CX:nQ)(outer:List Env)(P:Program)(w:World)(H:Hp)(s:Shared)(Q:VK)(E:XK)(r:Result)(s':Shared):Prop:=
 match r with
 |.ok (.ret u)=>CE outer P w H s Q u s'
 |.ok _=>False
 |.error e=>CX outer H s E e s'
structure c8(P:Program)(w:World)(K:Qq)(mg:OI)(base:Heap)(CX:nQ)(k:Nat)(f:Addr)(fd:FuncData)(ps:List Str)(sp:Sp):Prop where
 len:∀vs H Q E,sp vs H Q E->vs.length=ps.length
 run:∀(A:Around) (outer:List Env) (s:Shared) (H:Hp) (args:Args) (us:List Value) (vs:List V) (Q:VK) (E:XK),fA k A->kZ P w K mg base A outer s H->BindsTo s fd args (ps.zip us)->D6 vs us->sp vs H Q E->
  codeAny (model P w) A (.call (.ref f) args) (CR CX outer P w H s Q E) s
theorem kZ.make{P:Program}{w:World}{K:Qq}{mg:OI}{base:Heap}{A:Around}{outer:List Env}{s:Shared}{H:Hp}(e:kZ P w K mg base A outer s H)(C:Addr)(us:List Value)(kw:List (Str×Value)):
  kZ P w K mg base (A.under (.builtin "type.__call__" ⟨.ref C::us,kw⟩)) outer s H:=⟨by first|exact e.frames|(simpa [Around.under,Code.envs,Code.isFrame,pushEnvs]using e.frames),e.mod,e.bs,e.bsz,e.funs,e.frf,e.hok,e.bare⟩
section
variable{X:Cx}{pins:OA}{σ:St}{H:Hp}{s s':Shared}
theorem Inv.jA(I:Inv X pins σ H s):kZ X.prog X.w X.K X.mg X.base X.A X.stack s H:=
 ⟨I.ok.frames,I.ok.mod,I.bs,Qe I.ok.bsz I.sz,I.stack,I.stkFree,I.hok,I.bare⟩
theorem Inv.after{Q:VK}{u:Value}(I:Inv X pins σ H s)(h:CE X.stack X.prog X.w H s Q u s'):EP X pins σ Q u s':=by
 obtain⟨v,H',os,bare,un,hok,r,q⟩:=h;obtain⟨hh,g,d,t,os'⟩:=s';obtain rfl:os'=s.os:=os;exact⟨v,H',I.call (h':=hh) (g':=g) (d':=d) (t':=t) (ch:=[]) un hok bare (fun b z=>absurd z (by simp)),r,q⟩
end
def Ed(sp:Sp)(dvs:List V)(E:XK)(t:TA):TE:=fun σ H Q=>t σ H fun vs H1=>sp (vs++dvs) H1 Q E
def Ee(C:Addr)(m:Str)(sp:Sp)(dvs:List V)(E:XK)(ta:TE)(t:TA):TE:=fun σ H Q=>ta σ H fun x H1=>∃a dx fs,x=.ref a/\H1 a=some (.ins C dx fs)/\fs.lookup m=none/\
 t σ H1 fun vs H2=>sp (x::(vs++dvs)) H2 Q E
def Ie(C:Addr)(sp:Sp)(dvs:List V)(E:XK)(t:TA):TE:=fun σ H Q=>t σ H fun vs H1=>∀x dx,H1 x=none->H1 dx=none->dx≠x->
 sp (.ref x::(vs++dvs)) (upd (upd H1 dx (.own x)) x (.ins C dx [])) (fun v H2=>v=.non/\Q (.ref x) H2) E
def L8(K:Qq)(fd:FuncData)(ps:List Str)(ds:List Value):Prop:=
 ∀(s:Shared) (us:List Value),K.In s.heap->(us++ds).length=ps.length->BindsTo s fd ⟨us,[]⟩ (ps.zip (us++ds))
theorem L8.all{K:Qq}{fd:FuncData}{ps:List Str}(h:∀us:List Value,us.length=ps.length->bindArgs fd ⟨us,[]⟩=pure (ps.zip us)):L8 K fd ps []:=fun s us _ hl=>by
 rw[Yr]at hl ⊢;exact .of_eq (h us hl)
def Q4(CX:nQ)(X:Cx)(E:XK):Prop:=∀(pins:OA) (σ:St) (H:Hp) (s:Shared) (e:Value) (s':Shared),Inv X pins σ H s->CX X.stack H s E e s'->X.xe e s'
section
variable{X:Cx}{CX:nQ}{k:Nat}{f C:Addr}{fd:FuncData}{ps:List Str}{sp:Sp}{dvs:List V}{ds:List Value}{E:XK}{x m:Str}{p pos apos:Pos}{e o:Expr}{es:List Expr}{ta:TE}{t:TA}
theorem Ef{pins:OA}{σ:St}{H:Hp}{s:Shared}{Q:VK}{us:List Value}{vs:List V}(F:c8 X.prog X.w X.K X.mg X.base CX k f fd ps sp)(hr:fA k X.A)(hb:L8 X.K fd ps ds)(hd:D6 dvs ds)(hx:Q4 CX X E)
  (I:Inv X pins σ H s)(r:D6 vs us)(h:sp (vs++dvs) H Q E):wpAny (model X.prog X.w) X.A (call (.ref f) us) (EP X pins σ Q) X.xe s:=by
 have r2:D6 (vs++dvs) (us++ds):=r.append hd
 have hl:(us++ds).length=ps.length:=by rw[←r2.length];exact F.len _ _ _ _ h
 refine wpAny_call (Jo (F.run X.A X.stack s H ⟨us,[]⟩ (us++ds) (vs++dvs) Q E hr I.jA (hb s us I.kIn hl) r2 h) fun r s' hq=>?_)
 cases r with
 |error e=>exact hx pins σ H s e s' I hq
 |ok fl=>
  cases fl with
  |ret u=>exact I.after hq
  |next=>exact False.elim hq
  |brk=>exact False.elim hq
  |cont=>exact False.elim hq
theorem Eg(F:c8 X.prog X.w X.K X.mg X.base CX k f fd ps sp)(hr:fA k X.A)(hg:Gl X x)(hm:X.mg x=some (.ref f))(hk:PySem.W.keepIn X.K (.ref f)=true)(hb:L8 X.K fd ps ds)(hd:D6 dvs ds)(hx:Q4 CX X E)
  (ha:PA X (e::es) t)(hdb:(x==("__debug__":Str))=false:=by decide)(he:starEach (e::es) X.env=(false,eval e X.env)::starEach es X.env:=by rfl)(hpl:(backTo pos (starEach es X.env)).any (·.1)=false:=by rfl):
  PE X (.Call (.Name x p) (e::es) [] pos) (Ed sp dvs E t):=by
 intro pins s σ H Q I h;refine Zi (BF I hg hm ?_ hdb);refine PySem.W.callWith_K (h₀:=X.base) I.ok.mod.kin hk (eV (ha pos pins s σ H _ I h) fun us s1 ⟨vs,H1,I1,r,q⟩=>⟨I1.kIn,?_⟩) he hpl
 exact Ef F hr hb hd hx I1 r q
theorem Eh{pl:Sem Bool}(he:PE X o ta)(c:mY X.K C)(hm:mI X.K C m f)(F:c8 X.prog X.w X.K X.mg X.base CX k f fd ps sp)(hr:fA k X.A)(hb:L8 X.K fd ps ds)(hd:D6 dvs ds)(hx:Q4 CX X E)(ha:PA X (e::es) t)
  (hst:starEach (e::es) X.env=(false,eval e X.env)::starEach es X.env:=by rfl)(hpl:(backTo pos (starEach es X.env)).any (·.1)=false:=by rfl)
  (ht:eval (.Call (.Attribute o m apos) (e::es) [] pos) X.env=(do
   let ov←eval o X.env
   standAt apos.atName
   let (f,first)←holding [ov] (getMethod ov m pl)
   callWith pos f first (backTo pos (starEach (e::es) X.env)) (backToKw pos (keywordEach [] X.env))):=by rfl):
  PE X (.Call (.Attribute o m apos) (e::es) [] pos) (Ee C m sp dvs E ta t):=by
 intro pins s σ H Q I h;refine PySem.W.methodCall_KW (pl:=pl) (eV (he pins s σ H _ I h) fun u s1 ⟨x,H1,I1,rx,a,dx,fs,ex,ea,l,q⟩=>?_) ht
 subst ex;obtain rfl:u=Value.ref a:=rx;refine Ia I1 ea c hm l ?_
 refine PySem.W.callWith_K (first:=[.ref a]) (h₀:=X.base) I.ok.mod.kin hm.kp (eV (ha pos pins s1 σ H1 _ I1 q) fun us s2 ⟨vs,H2,I2,r,q2⟩=>⟨I2.kIn,?_⟩) hst hpl
 exact Ef (us:=.ref a::us) (vs:=.ref a::vs) F hr hb hd hx I2 (.cons rfl r) q2
structure Mk(K:Qq)(C f:Addr):Prop where
 makes:PySem.W.makesIn K C=true
 init:PySem.W.findIn K (.ref C) "__init__"=some (some (.ref f))
 fn:PySem.W.isFn K (.ref f)=true
 kp:PySem.W.keepIn K (.ref C)=true
theorem Pq{pins:OA}{σ:St}{H:Hp}{s:Shared}{Q:VK}{us:List Value}{vs:List V}(M:Mk X.K C f)(F:c8 X.prog X.w X.K X.mg X.base CX k f fd ps sp)(hr:fA (k+1) X.A)(hb:L8 X.K fd ps ds)(hd:D6 dvs ds)
  (hx:Q4 CX X E)(I:Inv X pins σ H s)(r:D6 vs us)
  (h:∀x dx,H x=none->H dx=none->dx≠x->sp (.ref x::(vs++dvs)) (upd (upd H dx (.own x)) x (.ins C dx [])) (fun v H2=>v=.non/\Q (.ref x) H2) E):
  wpAny (model X.prog X.w) X.A (call (.ref C) us) (EP X pins σ Q) X.xe s:=by
 have hq:=h (s.heap.objs.size+1) s.heap.objs.size (I.hok.fresh (Nat.le_succ _)) (I.hok.fresh (Qv _)) (Qh (Vu _))
 have I2:=Inv.made (C:=C) I
 have r2:D6 (V.ref (s.heap.objs.size+1)::(vs++dvs)) (Value.ref (s.heap.objs.size+1)::(us++ds)):=.cons rfl (r.append hd)
 have hl:(Value.ref (s.heap.objs.size+1)::us++ds).length=ps.length:=by
  have e:=r2.length
  rw[F.len _ _ _ _ hq]at e;exact e.symm
 refine wpAny_call (Pc (f:=f) I.kIn M.makes M.init (beq_iff_eq.mp M.fn) (Jo (F.run _ X.stack _ _ ⟨Value.ref (s.heap.objs.size+1)::us,[]⟩ (Value.ref (s.heap.objs.size+1)::(us++ds)) _ _ E (hr.make C us [])
  (I2.jA.make C us []) (hb _ (Value.ref (s.heap.objs.size+1)::us) I2.kIn hl) r2 hq) fun r s' hq'=>?_))
 cases r with
 |error e=>exact hx pins σ _ _ e s' I2 hq'
 |ok fl=>
  cases fl with
  |ret u=>
   obtain⟨v,H',I3,rv,ev,q3⟩:=I2.after hq';subst ev;exact⟨rv,⟨V.ref (s.heap.objs.size+1),H',I3,rfl,q3⟩⟩
  |next=>exact False.elim hq'
  |brk=>exact False.elim hq'
  |cont=>exact False.elim hq'
theorem Ps(M:Mk X.K C f)(F:c8 X.prog X.w X.K X.mg X.base CX k f fd ps sp)(hr:fA (k+1) X.A)(hg:Gl X x)(hm:X.mg x=some (.ref C))(hb:L8 X.K fd ps ds)(hd:D6 dvs ds)(hx:Q4 CX X E)
  (hdb:(x==("__debug__":Str))=false:=by decide):PE X (.Call (.Name x p) [] [] pos) (Ie C sp dvs E Bw):=by
 intro pins s σ H Q I h;refine Zi (BF I hg hm ?_ hdb);exact PySem.W.callWith_K0 I.kIn M.kp (Pq (us:=[]) M F hr hb hd hx I .nil h)
end
section
variable{X:Cx}{CX:nQ}{k:Nat}{f C:Addr}{fd:FuncData}{ps ks:List Str}{sp:Sp}{E:XK}{x m:Str}{p pos apos kpos:Pos}{e o:Expr}{es:List Expr}{kws:List Keyword}{te ta:TE}{t tk:TA}{nm:Option Str}
structure rR(K:Qq)(fd:FuncData)(ps ks:List Str)(g:List Value->List Value->List Value)(gV:List V->List V->List V):Prop where
 to:∀(s:Shared) (us ws:List Value),K.In s.heap->(g us ws).length=ps.length->BindsTo s fd ⟨us,ks.zip ws⟩ (ps.zip (g us ws))
 rel:∀{vs:List V}{us:List Value}{zs:List V}{ws:List Value},D6 vs us->D6 zs ws->D6 (gV vs zs) (g us ws)
variable{g:List Value->List Value->List Value}{gV:List V->List V->List V}
end
structure b0(N P:List Str)(sc:Scope):Prop where
 kind:sc.kind=.function
 co:sc.isCoroutine=false
 gen:sc.isGenerator=false
 nd:N.Nodup
 pre:N.take P.length=P
 par:∀x∈P,sc.names.lookup x=some .local\/sc.names.lookup x=some .cell
 nofree:∀y∈sc.names,y.2≠.free
theorem Ig{kindOf:Str->Option NameKind}{x:Str}:∀{binds:List (Str×Value)}{m:OI},(∀v,(x,v)∉binds)->bindL kindOf binds m x=m x
 |[],_,_=>rfl
 |(n,v)::r,m,h=>by
  unfold bindL;rw[Ig fun w hw=>h w (Qi _ hw)]
  split
  ·have:x≠n:=by rintro rfl;exact h v Yx
   simp[this]
  ·rfl
theorem Ih{kindOf:Str->Option NameKind}{x:Str}:∀{binds:List (Str×Value)}{m:OI},(∀v,(x,v)∉binds)->bindC kindOf binds m x=m x
 |[],_,_=>rfl
 |(n,v)::r,m,h=>by
  unfold bindC;rw[Ih fun w hw=>h w (Qi _ hw)]
  split
  ·rfl
  ·have:x≠n:=by rintro rfl;exact h v Yx
   simp[this]
theorem Ii{kindOf:Str->Option NameKind}{x:Str}{v:Value}:∀{P:List Str}{vs:List Value}{i:Nat}{m:OI},P.Nodup->P[i]? =some x->vs[i]? =some v->kindOf x=some .local->
  bindL kindOf (P.zip vs) m x=some v
 |[],_,_,_,_,h,_,_=>by simp at h
 |_::_,[],_,_,_,_,h,_=>by simp at h
 |p::P,w::vs,0,m,nd,h1,h2,hk=>by
  simp at h1 h2;subst h1;subst h2
  show bindL kindOf ((p,w)::P.zip vs) m p=_;unfold bindL;rw[Ig fun v hv=>(Ui.mp nd).1 (Ut hv).1,Qt hk]
  simp
 |p::P,w::vs,i+1,m,nd,h1,h2,hk=>by
  show bindL kindOf ((p,w)::P.zip vs) m x=_;unfold bindL;exact Ii (i:=i) (Ui.mp nd).2 (by simpa using h1) (by simpa using h2) hk
theorem Ij{kindOf:Str->Option NameKind}{x:Str}{v:Value}:∀{P:List Str}{vs:List Value}{i:Nat}{m:OI},P.Nodup->P[i]? =some x->vs[i]? =some v->kindOf x≠some .local->
  bindC kindOf (P.zip vs) m x=some v
 |[],_,_,_,_,h,_,_=>by simp at h
 |_::_,[],_,_,_,_,h,_=>by simp at h
 |p::P,w::vs,0,m,nd,h1,h2,hk=>by
  simp at h1 h2;subst h1;subst h2
  show bindC kindOf ((p,w)::P.zip vs) m p=_;unfold bindC;rw[Ih fun v hv=>(Ui.mp nd).1 (Ut hv).1,Qd hk]
  simp
 |p::P,w::vs,i+1,m,nd,h1,h2,hk=>by
  show bindC kindOf ((p,w)::P.zip vs) m x=_;unfold bindC;exact Ij (i:=i) (Ui.mp nd).2 (by simpa using h1) (by simpa using h2) hk
def start(N:List Str)(vs:List V):St:=vs.map some++List.replicate (N.length-vs.length) none
def K8(CX:nQ)(P:Program)(w:World)(K:Qq)(mg:OI)(base:Heap)(N:List Str)(qual:Str)(scope:Scope)(f:Addr)(cd:Value)(A:Around)(outer:List Env)(s:Shared)(H:Hp)(E:XK):Cx where
 prog:=P
 w:=w
 K:=K
 mg:=mg
 base:=base
 A:=A.deeper (envOfC qual scope s.heap.objs.size f cd)
 N:=N
 s₀:=s
 H₀:=H
 env:=envOfC qual scope s.heap.objs.size f cd
 outer:=outer
 stack:=envOfC qual scope s.heap.objs.size f cd::outer
 ex:=[]
 calm:=true
 fn:=fun _=>true
 pn:=[]
 xe:=fun e s'=>wpAny (model P w) (A.deeper (envOfC qual scope s.heap.objs.size f cd)) (leaving (envOfC qual scope s.heap.objs.size f cd) e) (fun _ s''=>CX outer H s E e s'') (fun e' s''=>CX outer H s E e' s'') s'
theorem Ik{sc:Scope}{n:Nat}{x:Str}(h:sc.names.lookup x=some .cell):∃c,(cellsFrom n sc.names []).lookup x=some c:=by
 have q:=Jn sc.names n [] (.inl h)
 exact Zl.mp q
theorem Il{CX:nQ}{P:Program}{w:World}{K:Qq}{mg:OI}{base:Heap}{N ps:List Str}{qual:Str}{scope:Scope}{f:Addr}{cd:Value}{A:Around}{outer:List Env}{s s1:Shared}{H:Hp}{E:XK}{us:List Value}{vs:List V}
  (S:b0 N ps scope)(hd:A.handled=none)(e0:kZ P w K mg base A outer s H)(hl:vs.length=ps.length)(r:D6 vs us)
  (x:InCallC s s.heap.objs.size (bindL (envOfC qual scope s.heap.objs.size f cd).kindOf (ps.zip us) fun _=>none) (cellsFrom (s.heap.objs.size+1) scope.names []) (bindC (envOfC qual scope s.heap.objs.size f cd).kindOf (ps.zip us) fun _=>none) s1):
  Inv (K8 CX P w K mg base N qual scope f cd A outer s H E) [] (start N vs) H s1:=by
 have hpl:ps.length≤N.length:=by have:=Yy List.length S.pre;rw[Yh]at this;omega
 obtain⟨h1,tk,rfl,hk⟩:=x.done;have noA:∀b:Addr,b∉(K8 CX P w K mg base N qual scope f cd A outer s H E).ex:=fun b z=>absurd (show b∈([]:List Addr)from z) (by simp)
 refine⟨⟨e0.mod,S.kind,rfl,rfl,Qv _,fun y z c h1 h2=>?_,fun y hy=>?_,fun y c _ h=>?_,fun _=>hd,Around.frames_deeper e0.frames,.inr ⟨rfl,rfl⟩,fun b z=>absurd z (noA b),e0.bs,e0.bsz,fun b _ _=>noA b,fun b z=>absurd z (noA b),e0.funs,e0.frf⟩,
  rfl,e0.bare,Un.kept hk,⟨_,x.toInCall.ns,fun i y v h1 h2 h3=>?_⟩,fun y c h=>⟨_,x.cell y c h⟩,e0.hok.fresh (Qv _),fun y c h=>?_,fun p hp=>absurd (show p∈([]:OA)from hp) (by simp),e0.hok.kept hk,?_⟩
 ·exact name_of_addr x.apart (Qo h1) (Qo h2)
 ·have hy:scope.names.lookup y=some .cell\/scope.names.lookup y=some .free:=hy
  rcases hy with hy|hy
  ·exact Ik hy
  ·exact absurd rfl (S.nofree _ (Qo hy))
 ·exact Ju (x.above y c (Qo h))
 ·have hi:i<vs.length:=by
   unfold start at h2
   by_cases hi:i<vs.length
   ·exact hi
   ·rw[List.getElem?_append_right (by simpa using hi)]at h2
    rw[Yo]at h2;split at h2<;>cases h2
  have ha:vs[i]? =some v:=by
   unfold start at h2;rw[Yl (by simpa using hi),Zc]at h2
   cases e:vs[i]? with
   |none=>rw[e]at h2;cases h2
   |some a=>rw[e]at h2;cases h2;rfl
  obtain⟨u,hu,rv⟩:=r.get ha;have hp:ps[i]? =some y:=by
   rw[←S.pre,List.getElem?_take_of_lt (by omega)];exact h1
  have ndP:ps.Nodup:=by rw[←S.pre];exact S.nd.sublist (List.take_sublist _ _)
  refine⟨u,rv,?_⟩
  rcases S.par y (Ys hp)with k|k
  ·exact .inl ⟨k,Ii ndP hp hu k⟩
  ·obtain⟨c,e⟩:=Ik (n:=s.heap.objs.size+1) k
   refine .inr ⟨.inl k,c,e,?_⟩;have q:=x.cell y c e;rw[Ij ndP hp hu (by show scope.names.lookup y≠_;rw[k];decide)]at q
   exact q
 ·exact e0.hok.fresh (Ju (x.above y c (Qo h)))
 ·unfold start
  show _=N.length;rw[Zq,Ql,Zg]
  omega
theorem Ei{CX:nQ}{P:Program}{w:World}{K:Qq}{mg:OI}{base:Heap}{k:Nat}{f:Addr}{name qual:Str}{params:Arguments}{body:List Stmt}{scope:Scope}{dV kV doc pm cdv ct oc:Value}{an od:Option Addr}
  {osl:Array (Option Value)}{N ps:List Str}{sp:Sp}(lk:K.lookup f=some ⟨oc,od,.func (PySem.W.fnOf name qual params body scope dV kV doc pm an cdv ct),osl⟩)(hcd:PySem.W.codeIn K cdv qual=true)(S:b0 N ps scope)
  (len:∀vs H Q E,sp vs H Q E->vs.length=ps.length)
  (hbody:∀(A:Around) (outer:List Env) (s:Shared) (H:Hp) (vs:List V) (Q:VK) (E:XK),fA k (A.deeper (envOfC qual scope s.heap.objs.size f cdv))->sp vs H Q E->
   ∃t,j7 (K8 CX P w K mg base N qual scope f cdv A outer s H E) body t/\t {nx:=fun _ H'=>Q .non H',rt:=Q} (start N vs) H):
  c8 P w K mg base CX (k+1) f (PySem.W.fnOf name qual params body scope dV kV doc pm an cdv ct) ps sp:=by
 refine⟨len,fun A outer s H args us vs Q E hr e0 hb r hsp=>?_⟩
 have hl:=len _ _ _ _ hsp
 have KX:K.In s.heap:=e0.mod.kin.keeps fun b o e=>(e0.bs b o e).1
 have lim:s.heap.NoLimit:=e0.mod.nolimit.keeps fun b o e=>(e0.bs b o e).1
 have hkind:∀y∈ps.zip us,scope.names.lookup y.1=some .local\/(scope.names.lookup y.1=some .cell/\((cellsFrom (s.heap.objs.size+1) scope.names []).lookup y.1).isSome=true):=fun⟨n,v⟩ hy=>by
  rcases S.par n (Ut hy).1 with q|q
  ·exact .inl q
  ·exact .inr ⟨q,Jn _ _ _ (.inl q)⟩
 refine codeAny_call_function hr.depth (KX _ _ lk) rfl S.co S.gen rfl (PySem.W.codeRec_of KX hcd) (hb _ _ _ _ ?_);refine wpAny_newFunctionEnv_cells S.kind hkind fun env he s1 x=>?_
 subst he;refine⟨lim.keeps x.toInCall.keep,codeAny_func ?_⟩;obtain⟨t,ht,hq⟩:=hbody A outer s H vs Q E (hr.deeper _) hsp;have I:Inv (K8 CX P w K mg base N qual scope f cdv A outer s H E) [] (start N vs) H s1:=Il S hr.hd e0 hl r x;refine Qb (ht [] s1 (start N vs) H _ I hq) (fun fl s' hs=>?_) fun e s' hs=>hs
 have fin:∀{σ':St}{H':Hp}{v:V}{u:Value},Inv (K8 CX P w K mg base N qual scope f cdv A outer s H E) [] σ' H' s'->E3 v u->Q v H'->CE outer P w H s Q u s':=
  fun{σ' H' v u} J rv q=>⟨v,H',J.os,J.bare,J.base,J.hok,rv,q⟩
 cases fl with
 |ret u=>
  obtain⟨v,σ',H',J,rv,q⟩:=hs;exact fin J rv q
 |next=>
  obtain⟨σ',H',J,q⟩:=hs;exact fin (v:=V.non) (u:=Value.none) J rfl q
 |brk=>
  obtain⟨_,_,_,q⟩:=hs;exact False.elim q
 |cont=>
  obtain⟨_,_,_,q⟩:=hs;exact False.elim q
section
variable{X:Cx}{x:Str}{p pos:Pos}{e:Expr}{es:List Expr}{t:TA}{id T:String}{r:List V->Hp->VK->Prop}
def rS(r:List V->Hp->VK->Prop)(t:TA):TE:=fun σ H Q=>t σ H fun vs H1=>r vs H1 Q
theorem Bx(hc:M3 X (.builtin id) r)(hg:Gl X x)(hm:X.mg x=none)(hv:bootBuiltins x=some (.builtin id))(ha:PA X (e::es) t)(hn:x≠"__name__":=by decide)(hdb:(x==("__debug__":Str))=false:=by decide)
  (he:starEach (e::es) X.env=(false,eval e X.env)::starEach es X.env:=by rfl)(hpl:(backTo pos (starEach es X.env)).any (·.1)=false:=by rfl):PE X (.Call (.Name x p) (e::es) [] pos) (rS r t):=by
 intro pins s σ H Q I h;refine Zi (AF I hg hm hv ?_ hn hdb);exact PyProof.Rows.callWith_builtin1 (eV (ha pos pins s σ H _ I h) fun us s1 ⟨vs,H1,I1,r1,q1⟩=>hc pins s1 σ H1 vs us Q I1 r1 q1) he hpl
theorem BH(hc:M3 X (.type T) r)(hg:Gl X x)(hm:X.mg x=none)(hv:bootBuiltins x=some (.type T))(ha:PA X (e::es) t)(hn:x≠"__name__":=by decide)(hdb:(x==("__debug__":Str))=false:=by decide)
  (he:starEach (e::es) X.env=(false,eval e X.env)::starEach es X.env:=by rfl)(hpl:(backTo pos (starEach es X.env)).any (·.1)=false:=by rfl):PE X (.Call (.Name x p) (e::es) [] pos) (rS r t):=by
 intro pins s σ H Q I h;refine Zi (AF I hg hm hv ?_ hn hdb);exact Yp (eV (ha pos pins s σ H _ I h) fun us s1 ⟨vs,H1,I1,r1,q1⟩=>hc pins s1 σ H1 vs us Q I1 r1 q1) he hpl
end
end L2
namespace HT
open PySem PyProof.Rows
section
open PySem.SeqAt
open PySem.AutoSeq1 (wpAny_loadPart')
open PySem.MeetsSeq PySem.MeetsSeq2 PySem.MeetsSeq3
end
section
variable{prog:Program}{w:World}{A:Around}{E:OU}{s:Shared}
def gI(n d:Nat):Option Int->Nat
 |none=>d
 |some v=>if v<0 then(v+(n:Int)).toNat else min v.toNat n
theorem nR(n d:Nat):gI n d none=d:=rfl
theorem oF(n d k:Nat):gI n d (some (k:Int))=min k n:=by
 show(if(k:Int)<0 then((k:Int)+(n:Int)).toNat else min (k:Int).toNat n)=min k n
 rw[Qd (by omega),Uy]
theorem o8(n d:Nat)(hd:d≤n)(o:Option Int):gI n d o≤n:=by
 cases o with
 |none=>exact hd
 |some v=>
  show(if v<0 then(v+(n:Int)).toNat else min v.toNat n)≤n
  by_cases hv:v<0
  ·rw[Qt hv];omega
  ·rw[Qd hv];exact Vp _ _
theorem mZ(v:Int)(n d:Nat):(if v<0 then max (v+(n:Int)) 0 else min v (n:Int))=((gI n d (some v):Nat):Int):=by
 show(if v<0 then max (v+(n:Int)) 0 else min v (n:Int))=(((if v<0 then(v+(n:Int)).toNat else min v.toNat n):Nat):Int)
 by_cases hv:v<0
 ·simp only[Qt hv];omega
 ·simp only[Qd hv];omega
theorem mJ(lo hi:Option Int)(n:Nat):Builtin.Slice.sliceAdjust lo hi 1 (n:Int)=(((gI n 0 lo:Nat):Int),((gI n n hi:Nat):Int)):=by
 have h1:¬ ((1:Int)<0):=by omega
 unfold Builtin.Slice.sliceAdjust;simp only[h1,Yz];refine Jy ?_ ?_
 ·cases lo with
  |none=>rfl
  |some v=>exact mZ v n 0
 ·cases hi with
  |none=>rfl
  |some v=>exact mZ v n n
theorem mK(i j:Nat):Builtin.Slice.slicePlaces (i:Int) (j:Int) 1=j-i:=by
 unfold Builtin.Slice.slicePlaces;have h1:(1:Int)>0:=by omega
 simp only[h1,Zd,Int.ediv_one];split<;>omega
theorem k6{v:Value}{o:Option Int}{Q:Option Int->Shared->Prop}(p:IsPart v o)(h:Q o s):wpAny (model prog w) A (Builtin.Slice.slicePartIndex v) Q E s:=by
 cases p with
 |none=>exact slicePart_none h
 |int i t=>exact slicePart_int h
theorem i6{sl:Addr}{vl vu:Value}{lo hi:Option Int}{n:Nat}{Q:Int×Int×Nat->Shared->Prop}(hs:s.heap.IsSliceOf sl vl vu .none)(pl:IsPart vl lo)(pu:IsPart vu hi)
  (h:Q (((gI n 0 lo:Nat):Int),1,gI n n hi-gI n 0 lo) s):wpAny (model prog w) A (Builtin.Slice.sliceApplied (.ref sl) (pure (n:Int))) Q E s:=by
 obtain⟨os,hos,hcs,hds⟩:=id hs;unfold Builtin.Slice.sliceApplied Builtin.Slice.sliceFields;refine Qz (Qz (Zj hos hds (x:=vl) rfl (Qz (Zj hos hds (x:=vu) rfl (Qz (Zj hos hds (x:=.none) rfl (Qx ?_)))))));refine Qz (slicePart_none ?_);show wpAny _ _ (if((1:Int)==0)=true then _ else _) _ _ s
 rw[Qd (by decide)]
 refine Qz (k6 pl (Qz (k6 pu (Qz (Qx ?_)))));show wpAny _ _ (match Builtin.Slice.sliceAdjust lo hi 1 (n:Int)with|(lo,hi)=>pure (lo,(1:Int),Builtin.Slice.slicePlaces lo hi 1)) _ _ s
 rw[mJ lo hi n];show wpAny _ _ (pure (((gI n 0 lo:Nat):Int),(1:Int),Builtin.Slice.slicePlaces ((gI n 0 lo:Nat):Int) ((gI n n hi:Nat):Int) 1)) _ _ s;rw[mK];exact Qx h
theorem nT(xs:Array Value)(i k:Nat):((List.range k).filterMap fun(m:Nat)=>xs[((i:Int)+(m:Int) * 1).toNat]?).toArray=((xs.toList.drop i).take k).toArray:=by
 have e:(fun(m:Nat)=>xs[((i:Int)+(m:Int) * 1).toNat]?)=fun m=>xs[i+m]?:=by
  funext m
  have:((i:Int)+(m:Int) * 1).toNat=i+m:=by omega
  rw[this]
 rw[e];have:=pick_run xs i k;rw[List.filterMap_map]at this;have e2:((fun x=>xs[x]?)∘fun x=>i+x)=fun m=>xs[i+m]?:=rfl
 rw[e2]at this;rw[this]
theorem kB{t sl:Addr}{items:Array Value}{vl vu:Value}{lo hi:Option Int}{Q:OU}(ht:IsTup s.heap t items)(hs:s.heap.IsSliceOf sl vl vu .none)(pl:IsPart vl lo)(pu:IsPart vu hi)
  (hw:¬ (gI items.size 0 lo=0/\gI items.size items.size hi=items.size))
  (h:Q (.ref s.heap.objs.size) {s with heap:=s.heap.push {cls:=.type "tuple",data:=.seq ((items.toList.drop (gI items.size 0 lo)).take (gI items.size items.size hi-gI items.size 0 lo)).toArray}})
  (hsz:items.size≤sizeLine):wpAny (model prog w) A (getItem (.ref t) (.ref sl)) Q E s:=by
 have htake:sizeOk (.seq ((items.toList.drop (gI items.size 0 lo)).take (gI items.size items.size hi-gI items.size 0 lo)).toArray):=by
  show((items.toList.drop (gI items.size 0 lo)).take (gI items.size items.size hi-gI items.size 0 lo)).toArray.size≤sizeLine;rw[Qc,Yh,List.length_drop,Jg]
  omega
 have hj:gI items.size items.size hi≤items.size:=o8 _ _ (Qv _) hi
 obtain⟨os,hos,hcs,hds⟩:=id hs;have hTs:s.TypeIs (.ref sl) "slice":=⟨os,hos,hcs⟩;unfold getItem
 try with_reducible refine Yt ?_
 first|refine Qz (Qx ?_)|skip
 refine Qz (wpAny_sequenceKey ht.typeIs (by decide) ?_)
 refine Qz (Zh (name:=Str.ofString "__getitem__") ht.typeIs Zf
  (Yk Zf ht.typeIs entry_tuple_getitem ?_ (args_tuple_getitem _ _)))
 show wpAny _ _ (Builtin.Tuple.tupleItemsOf (.ref t)>>=_) _ _ s;refine Qz (tupleItemsOf_ ht ?_);refine Qz (wpAny_typeOf hTs ?_);rw[Qt (by decide)]
 refine Qz (i6 hs pl pu ?_);have hno:¬ ((((gI items.size 0 lo:Nat):Int)==0&&(1:Int)==1&&(gI items.size items.size hi-gI items.size 0 lo)==items.size)=true):=by
  intro q;rw[Qr,Qr]at q;have q1:((gI items.size 0 lo:Nat):Int)=0:=eq_of_beq q.1.1;have q2:gI items.size items.size hi-gI items.size 0 lo=items.size:=eq_of_beq q.2;exact hw ⟨by omega,by omega⟩
 show wpAny _ _ (if(((gI items.size 0 lo:Nat):Int)==0&&(1:Int)==1&&(gI items.size items.size hi-gI items.size 0 lo)==items.size)=true then _ else _) _ _ s
 rw[Qd hno,nT]
 first
  |exact Qz (m:=Builtin.Tuple.tupleExact _) (Yq (Qx ⟨_,rfl,Qx h⟩) htake)
  |exact Qz (m:=Builtin.Tuple.tupleExact _) (Yq (Qz (Qx (Qx ⟨_,rfl,Qx h⟩))) htake)
  |exact Qz (Qz (m:=Builtin.Tuple.tupleExact _) (Yq (Qx (Qx ⟨_,rfl,Qx h⟩)) htake))
  |exact Qz (Qz (m:=Builtin.Tuple.tupleExact _) (Yq (Qx ⟨_,rfl,Qx h⟩) htake))
end
end HT
namespace L2
open PySem PySem.Spec PyProof.Rows
abbrev TO:=St->Hp->(Option Int->Hp->Prop)->Prop
def PO(X:Cx)(e:Option Expr)(t:TO):Prop:=
 ∀(pins:OA) (s:Shared) (σ:St) (H:Hp) (Q:Option Int->Hp->Prop),Inv X pins σ H s->t σ H Q->
  wpAny (model X.prog X.w) X.A (evalPart e X.env) (fun u s'=>∃o H',Inv X pins σ H' s'/\IsPart u o/\Q o H') X.xe s
def Pu:TO:=fun _ H Q=>Q none H
def Pw(t:TE):TO:=fun σ H Q=>t σ H fun x H1=>∃i,x=.int i/\Q (some i) H1
theorem Im{ns:List Int}:∀{us:List Value},D6 (ns.map V.int) us->IntsAre us ns:=by
 induction ns with
 |nil=>intro us r;rw[Ua]at r;cases r;exact .nil
 |cons n ns ih=>
  intro us r;rw[Zu]at r;cases r with
  |cons r1 r2=>
   obtain⟨t,e⟩:=r1;subst e;exact .cons n t (ih r2)
section
variable{X:Cx}{e:Expr}{te:TE}{lo hi:Option Expr}{tl th:TO}{pos p2:Pos}
theorem Px:PO X none Pu:=by
 intro pins s σ H Q I h;rw[evalPart_none];exact Qx ⟨none,H,I,.none,h⟩
theorem Py(h:PE X e te):PO X (some e) (Pw te):=by
 intro pins s σ H Q I hw;rw[evalPart_some];refine eV (h pins s σ H _ I hw) fun u s1 ⟨x,H1,I1,r1,q1⟩=>?_
 obtain⟨i,rfl,q⟩:=q1;obtain⟨t,rfl⟩:=r1;exact⟨some i,H1,I1,.int i t,q⟩
def oG(X:Cx)(r:V->Option Int->Option Int->Hp->VK->Prop):Prop:=
 ∀(pins:OA) (s:Shared) (σ:St) (H:Hp) (x:V) (v vl vu:Value) (lo hi:Option Int) (sl:Addr) (Q:VK),Inv X pins σ H s->E3 x v->s.heap.IsSliceOf sl vl vu .none->IsPart vl lo->IsPart vu hi->r x lo hi H Q->
  ∃T id,typeLookup (.type T) "__getitem__"=pure (some (.builtin id))/\s.TypeIs v T/\wpAny (model X.prog X.w) X.A (getItem v (.ref sl)) (EP X pins σ Q) X.xe s
theorem oG.or{r r':V->Option Int->Option Int->Hp->VK->Prop}(h:oG X r)(h':oG X r'):oG X (fun x lo hi H Q=>r x lo hi H Q\/r' x lo hi H Q):=by
 intro pins s σ H x v vl vu lo hi sl Q I rx hs pl pu q
 rcases q with q|q
 ·exact h pins s σ H x v vl vu lo hi sl Q I rx hs pl pu q
 ·exact h' pins s σ H x v vl vu lo hi sl Q I rx hs pl pu q
def tZ(r:V->Option Int->Option Int->Hp->VK->Prop)(te:TE)(tl th:TO):TE:=fun σ H Q=>te σ H fun x H1=>tl σ H1 fun l H2=>th σ H2 fun u H3=>r x l u H3 Q
theorem Pz{r:V->Option Int->Option Int->Hp->VK->Prop}(hr:oG X r)(he:PE X e te)(hl:PO X lo tl)(hu:PO X hi th):PE X (.Subscript e (.Slice lo hi none p2) pos) (tZ r te tl th):=by
 intro pins s σ H Q I h;refine Subscript_ (eV (he pins s σ H _ I h) fun v s1 ⟨x,H1,I1,r1,q1⟩=>?_)
 refine wpAny_Slice (eV (hl pins s1 σ H1 _ I1 q1) fun vl s2 ⟨l,H2,I2,pl,q2⟩=>eV (hu pins s2 σ H2 _ I2 q2) fun vu s3 ⟨u,H3,I3,pu,q3⟩=>?_)
 rw[evalPart_none];refine Qx ?_
 have I4:Inv X pins σ H3 {s3 with heap:=s3.heap.push {cls:=.type "slice",data:=.fields #[vl,vu,.none]}}:=I3.kept (t':=s3.toks) fun b ob q=>Qj _ q
 obtain⟨T,id,hT,ht,hg⟩:=hr pins {s3 with heap:=s3.heap.push {cls:=.type "slice",data:=.fields #[vl,vu,.none]}} σ H3 x v vl vu l u s3.heap.objs.size Q I4 r1 (Heap.IsSliceOf.new ..) pl pu q3
 show wpAny (model X.prog X.w) X.A (subscriptTail e (.Slice lo hi none p2) v (.ref s3.heap.objs.size)) (EP X pins σ Q) X.xe {s3 with heap:=s3.heap.push {cls:=.type "slice",data:=.fields #[vl,vu,.none]}}
 exact tail_any (ops:=[.ref s3.heap.objs.size,v]) ht hT hg (by with_unfolding_all rfl)
def V7(xs:List V)(lo hi:Option Int):List V:=(xs.drop (HT.gI xs.length 0 lo)).take (HT.gI xs.length xs.length hi-HT.gI xs.length 0 lo)
theorem Io(xs:List V)(lo hi:Option Int):(V7 xs lo hi).length≤xs.length:=by
 unfold V7;rw[Yh,List.length_drop]
 omega
def QA(K:Qq):V->Option Int->Option Int->Hp->VK->Prop:=fun x lo hi H Q=>∃a xs,x=.ref a/\kN K H a xs/\
 ¬ (HT.gI xs.length 0 lo=0/\HT.gI xs.length xs.length hi=xs.length)/\∀p,H p=none->Q (.ref p) (upd H p (.tup (V7 xs lo hi)))
theorem Ip:oG X (QA X.K):=by
 intro pins s σ H x v vl vu lo hi sl Q I rx hs pl pu h;obtain⟨a,xs,rfl,hx,hw,q⟩:=h;cases rx;obtain⟨its,r,ht,hz⟩:=I.tuple hx;have hlen:its.toArray.size=xs.length:=by rw[Qc];exact r.length.symm
 refine⟨"tuple",_,Zf.lookup,ht.typeIs,?_⟩;refine HT.kB ht hs pl pu (by rw[hlen];exact hw) ?_ (by rw[hlen];exact hz)
 rw[hlen];refine⟨.ref s.heap.objs.size,_,I.laid (t':=s.toks) (o:=.tup (V7 xs lo hi)) (fun b ob q=>Qj _ q) (Qv _) ?_,rfl,q _ (I.hok.fresh (Qv _))⟩
 exact⟨Qe (Io xs lo hi) hz,_,(r.drop (HT.gI xs.length 0 lo)).take (HT.gI xs.length xs.length hi-HT.gI xs.length 0 lo),S9.new _ _⟩
theorem D6.nil_iff{xs:List V}{us:List Value}(r:D6 xs us):us=[]↔xs=[]:=by
 cases r with
 |nil=>simp
 |cons _ _=>simp
end
def qD(n:Nat)(i:Int):Option Nat:=if 0≤i then(if i<n then some i.toNat else none)else if-(n:Int)≤i then some (i+n).toNat else none
def mL{α:Type}(xs:List α)(i:Int):Option α:=(qD xs.length i).bind fun j=>xs[j]?
theorem QB{n:Nat}{i:Int}{j:Nat}(h:qD n i=some j):seqIndex? i n=some j/\j<n/\ -(n:Int)≤i/\i<n:=by
 unfold qD at h
 by_cases h0:0≤i
 ·rw[Qt h0]at h
  by_cases h1:i<n
  ·rw[Qt h1]at h
   have e:i.toNat=j:=Zs h
   exact⟨by rw[seqIndex_of h0 h1,e],by omega,by omega,h1⟩
  ·rw[Qd h1]at h;cases h
 ·rw[Qd h0]at h
  by_cases h1: -(n:Int)≤i
  ·rw[Qt h1]at h
   have e:(i+n).toNat=j:=Zs h
   exact⟨by rw[seqIndex_neg (by omega) h1,e],by omega,h1,by omega⟩
  ·rw[Qd h1]at h;cases h
theorem Ej{α:Type}{xs:List α}{i:Int}{v:α}(h:mL xs i=some v):∃j,seqIndex? i xs.length=some j/\xs[j]? =some v/\j<xs.length/\ -(xs.length:Int)≤i/\i<xs.length:=by
 unfold mL at h;cases e:qD xs.length i with
 |none=>rw[e]at h;cases h
 |some j=>
  rw[e]at h;obtain⟨h1,h2,h3,h4⟩:=QB e;exact⟨j,h1,h,h2,h3,h4⟩
def AH(b:Expr):Prop:=∀o i,subscripted b false o i=operate [o,i] (getItem o i)
def oH(X:Cx)(r:R2):Prop:=
 ∀(value slice:Expr) (pins:OA) (s:Shared) (σ:St) (H:Hp) (x y:V) (v u:Value) (Q:VK),Inv X pins σ H s->E3 x v->E3 y u->r x y H Q->
  subscripted slice false v u=operate [v,u] (getItem v u)->wpAny (model X.prog X.w) X.A (subscriptTail value slice v u) (EP X pins σ Q) X.xe s
def t5(X:Cx)(id:String)(r:V->List V->Hp->VK->Prop):Prop:=
 ∀(pins:OA) (s:Shared) (σ:St) (H:Hp) (x:V) (xs:List V) (v:Value) (us:List Value) (Q:VK),Inv X pins σ H s->E3 x v->D6 xs us->r x xs H Q->
  wpAny (model X.prog X.w) X.A (call (.builtin id) (v::us)) (EP X pins σ Q) X.xe s
section
variable{X:Cx}{a b:Expr}{ta tb:TE}{pos:Pos}
theorem oH.or{r r':R2}(h:oH X r)(h':oH X r'):oH X (fun x y H Q=>r x y H Q\/r' x y H Q):=by
 intro value slice pins s σ H x y v u Q I rx ry q hs
 rcases q with q|q
 ·exact h value slice pins s σ H x y v u Q I rx ry q hs
 ·exact h' value slice pins s σ H x y v u Q I rx ry q hs
theorem Iq{r:R2}(hr:oH X r)(ha:PE X a ta)(hb:PE X b tb)(hs:AH b):PE X (.Subscript a b pos) (qC r ta tb):=by
 intro pins s σ H Q I h;exact Subscript_ (EM ha hb I h fun v u s2 x y H2 I2 rx ry q=>hr a b pins s2 σ H2 x y v u Q I2 rx ry q (hs _ _))
def Ir(K:Qq):R2:=fun x y H Q=>∃p xs i v,x=.ref p/\y=.int i/\kA K H p xs/\mL xs i=some v/\Q v H
def Iu(K:Qq):R2:=fun x y H Q=>∃p xs i v,x=.ref p/\y=.int i/\kN K H p xs/\mL xs i=some v/\Q v H
def Iv:R2:=fun x y H Q=>∃z i c,x=.str z/\y=.int i/\z.length≤sizeLine/\mL z.cps.toList i=some c/\Q (.str ⟨#[c]⟩) H
theorem Iw:oH X (Ir X.K):=by
 intro value slice pins s σ H x y v u Q I rx ry h hs;obtain⟨p,xs,i,z,rfl,rfl,hq,he,q⟩:=h;cases rx;obtain⟨t,rfl⟩:=ry;obtain⟨its,r,pl,hz⟩:=I.list hq;obtain⟨j,h1,h2,h3,h4,h5⟩:=Ej he;obtain⟨w,ew,rw'⟩:=r.get h2;have hl:=r.length;have hn:=Bv;have fin:EP X pins σ Q w s:=⟨z,H,I,rw',q⟩
 by_cases h0:0≤i
 ·have hj:i.toNat=j:=by
   rw[seqIndex_of h0 h5]at h1;exact Zs h1
  exact item_listR pl.isList h0 (by omega) (by rw[hj];simpa using ew) fin hs
 ·have hj:(i+(its.toArray.size:Int)).toNat=j:=by
   rw[seqIndex_neg (by omega) h4]at h1
   rw[Qc,←hl];exact Zs h1
  exact subscriptTail_builtinR (x:=w) pl.isList.typeIs slot_list_getitem.lookup
   (wpAny_getItem_list_neg (Q:=fun r s'=>r=w/\EP X pins σ Q r s') pl.isList (by omega) (by rw[Qc]<;>omega) (by omega) (by rw[hj];simpa using ew) ⟨rfl,fin⟩) hs
theorem QC:oH X (Iu X.K):=by
 intro value slice pins s σ H x y v u Q I rx ry h hs;obtain⟨p,xs,i,z,rfl,rfl,hq,he,q⟩:=h;cases rx;obtain⟨t,rfl⟩:=ry;obtain⟨its,r,pl,hz⟩:=I.tuple hq;obtain⟨j,h1,h2,h3,h4,h5⟩:=Ej he;obtain⟨w,ew,rw'⟩:=r.get h2;have hl:=r.length;have hn:=Bv;have fin:EP X pins σ Q w s:=⟨z,H,I,rw',q⟩;exact subscriptTail_builtinR (x:=w) pl.typeIs slot_tuple_getitem.lookup
  (getItem_tuple (j:=j) (Q:=fun r s'=>r=w/\EP X pins σ Q r s') pl (by omega) (by omega) (by rw[Qc,←hl];exact h1) (by simpa using ew) ⟨rfl,fin⟩) hs
theorem QD:oH X Iv:=by
 intro value slice pins s σ H x y v u Q I rx ry h hs;obtain⟨z,i,c,rfl,rfl,hz,he,q⟩:=h;obtain⟨t,rfl⟩:=rx;obtain⟨t',rfl⟩:=ry;obtain⟨j,h1,h2,h3,h4,h5⟩:=Ej he;have hl:z.cps.toList.length=z.length:=by simp[Str.length]
 rw[hl]at h1 h4 h5;have hn:=Bv;exact tail_any (typeIs_str s z t) slot_str_getitem.lookup (getItem_str (c:=c) (by
  have e1:decide (i< -(2^63:Int))=false:=Yd (by omega)
  have e2:decide (i ≥ 2^63)=false:=Yd (by omega)
  rw[e1,e2,Bool.or_false]) (by rw[h1];simpa using h2) ⟨.str ⟨#[c]⟩,H,I.tok _,⟨_,rfl⟩,q⟩) hs
def sM(K:Qq):R2:=fun x y H Q=>Ir K x y H Q\/Iu K x y H Q\/Iv x y H Q
theorem QE:oH X (sM X.K):=Iw.or (QC.or QD)
theorem QF(lo hi:Option Int)(n:Nat):(sliceBounds lo hi none n).1=((HT.gI n 0 lo:Nat):Int)/\(sliceBounds lo hi none n).2.1=((HT.gI n n hi:Nat):Int)/\(sliceBounds lo hi none n).2.2=1:=by
 refine⟨?_,?_,rfl⟩
 ·cases lo with
  |none=>simp[sliceBounds,HT.gI]
  |some i=>
   simp only[sliceBounds,HT.gI,Option.getD_none,show(1:Int)>0 by decide,Zd]
   by_cases h:i<0
   ·simp only[h,Zd]<;>omega
   ·simp only[h,Yz]<;>omega
 ·cases hi with
  |none=>simp[sliceBounds,HT.gI]
  |some i=>
   simp only[sliceBounds,HT.gI,Option.getD_none,show(1:Int)>0 by decide,Zd]
   by_cases h:i<0
   ·simp only[h,Zd]<;>omega
   ·simp only[h,Yz]<;>omega
theorem QG(its:List Value)(lo hi:Option Int):slicePick its.toArray lo hi none=((its.drop (HT.gI its.length 0 lo)).take (HT.gI its.length its.length hi-HT.gI its.length 0 lo)).toArray:=by
 obtain⟨h1,h2,h3⟩:=QF lo hi its.toArray.size;unfold slicePick;rw[h1,h2,h3];simp only[sliceRange_one,pick_run,Qc]<;>rfl
def QH(K:Qq):V->Option Int->Option Int->Hp->VK->Prop:=fun x lo hi H Q=>∃a xs,x=.ref a/\kA K H a xs/\∀p,H p=none->Q (.ref p) (upd H p (.lst (V7 xs lo hi)))
theorem QI:oG X (QH X.K):=by
 intro pins s σ H x v vl vu lo hi sl Q I rx hs pl pu h;obtain⟨a,xs,rfl,hx,q⟩:=h;cases rx;obtain⟨its,r,ht,hz⟩:=I.list hx;have hlen:=r.length;refine⟨"list",_,slot_list_getitem.lookup,ht.isList.typeIs,?_⟩;refine wpAny_getItem_list_slice ht.isList hs pl pu .none (by simp) ?_ (by rw[Qc]<;>omega)
 rw[QG,←hlen];refine⟨.ref s.heap.objs.size,_,I.laid (t':=s.toks) (o:=.lst (V7 xs lo hi)) (fun b ob q=>Qj _ q) (Qv _) ?_,rfl,q _ (I.hok.fresh (Qv _))⟩
 exact⟨Qe (Io xs lo hi) hz,_,0,(r.drop (HT.gI xs.length 0 lo)).take (HT.gI xs.length xs.length hi-HT.gI xs.length 0 lo),Qw _ rfl⟩
def R7:V->Bool
 |.non=>true
 |.bl _=>true
 |.int _=>true
 |.str _=>true
 |_=>false
def oR:V->V->Bool
 |.non,.non=>true
 |.bl a,.bl b=>a==b
 |.bl a,.int b=>(if a then 1 else 0)==b
 |.int a,.bl b=>a==(if b then 1 else 0)
 |.int a,.int b=>a==b
 |.str a,.str b=>a==b
 |_,_=>false
theorem QJ{A:Around}{s:Shared}{y x:V}{u v:Value}(ry:E3 y u)(rx:E3 x v)(fy:R7 y=true)(fx:R7 x=true):SeqAt.EqAt A s u v (oR y x):=by
 cases y with
 |non=>
  cases ry;cases x with
  |non=>cases rx;exact SeqAt.EqAt.same _
  |bl b=>cases rx;exact SeqAt.EqAt.none_bool b
  |int b=>obtain⟨t,rfl⟩:=rx;exact SeqAt.EqAt.none_int b t
  |str b=>obtain⟨t,rfl⟩:=rx;exact SeqAt.EqAt.none_str b t
  |_=>exact absurd (show false=true from fx) Zm
 |bl a=>
  cases ry;cases x with
  |non=>cases rx;exact SeqAt.EqAt.bool_none a
  |bl b=>cases rx;exact SeqAt.EqAt.bool_bool a b
  |int b=>obtain⟨t,rfl⟩:=rx;exact SeqAt.EqAt.bool_int a b t
  |str b=>obtain⟨t,rfl⟩:=rx;exact SeqAt.EqAt.bool_str a b t
  |_=>exact absurd (show false=true from fx) Zm
 |int a=>
  obtain⟨t',rfl⟩:=ry;cases x with
  |non=>cases rx;exact SeqAt.EqAt.int_none a t'
  |bl b=>cases rx;exact SeqAt.EqAt.int_bool a t' b
  |int b=>obtain⟨t,rfl⟩:=rx;exact SeqAt.EqAt.int_int a t' b t
  |str b=>obtain⟨t,rfl⟩:=rx;exact SeqAt.EqAt.int_str a t' b t
  |_=>exact absurd (show false=true from fx) Zm
 |str a=>
  obtain⟨t',rfl⟩:=ry;cases x with
  |non=>cases rx;exact SeqAt.EqAt.str_none a t'
  |bl b=>cases rx;exact SeqAt.EqAt.str_bool a t' b
  |int b=>obtain⟨t,rfl⟩:=rx;exact SeqAt.EqAt.str_int a t' b t
  |str b=>obtain⟨t,rfl⟩:=rx;exact SeqAt.EqAt.str_str a t' b t
  |_=>exact absurd (show false=true from fx) Zm
 |_=>exact absurd (show false=true from fy) Zm
def n8(x:V)(u:Value):Bool:=match u with
 |.none=>oR .non x
 |.bool b=>oR (.bl b) x
 |.int i _=>oR (.int i) x
 |.str z _=>oR (.str z) x
 |_=>false
theorem Iy{x y:V}{u:Value}(r:E3 y u)(f:R7 y=true):n8 x u=oR y x:=by
 cases y with
 |non=>cases r;rfl
 |bl b=>cases r;rfl
 |int i=>obtain⟨t,rfl⟩:=r;rfl
 |str z=>obtain⟨t,rfl⟩:=r;rfl
 |_=>exact absurd (show false=true from f) Zm
theorem Ek{x:V}:∀{xs:List V}{us:List Value},D6 xs us->xs.all R7=true->us.any (n8 x)=xs.any fun y=>oR y x
 |_,_,.nil,_=>rfl
 |y::xs,u::us,.cons r t,f=>by
  rw[List.all_cons,Qr]at f;rw[List.any_cons,List.any_cons,Iy r f.1,Ek t f.2]
theorem CZ{A:Around}{s:Shared}{x:V}{v:Value}(rx:E3 x v)(fx:R7 x=true):∀{xs:List V}{us:List Value},D6 xs us->xs.all R7=true->∀u∈us,SeqAt.EqAt A s u v (n8 x u)
 |_,_,.nil,_=>fun u hu=>by cases hu
 |y::xs,u::us,.cons r t,f=>fun u' hu=>by
  rw[List.all_cons,Qr]at f
  rcases Qg.mp hu with rfl|hu
  ·rw[Iy r f.1];exact QJ r rx f.1 fx
  ·exact CZ rx fx t f.2 u' hu
def qT(x:V)(xs:List V):Bool:=xs.any fun y=>oR y x
def sN(K:Qq)(neg:Bool):R2:=fun x y H Q=>∃p xs,y=.ref p/\(kA K H p xs\/kN K H p xs)/\R7 x=true/\xs.all R7=true/\Q (.bl (if neg then !qT x xs else qT x xs)) H
theorem QK:i5 X (compareOp .NotIn) (sN X.K true):=by
 intro pins s σ H x y v u Q I rx ry h;obtain⟨p,xs,rfl,hq,fx,fs,q⟩:=h;cases ry
 rcases hq with hq|hq
 ·obtain⟨its,r,pl,hz⟩:=I.list hq
  refine SeqAt.notIn_listAt (n8 x) pl.isList (fun w hw=>CZ rx fx r fs w (by simpa using hw)) ⟨.bl _,H,I,rfl,?_⟩
  rw[show its.toArray.any (n8 x)=its.any (n8 x) by simp,Ek r fs]
  exact q
 ·obtain⟨its,r,pl,hz⟩:=I.tuple hq
  refine SeqAt.notIn_tupleAt (n8 x) pl (fun w hw=>CZ rx fx r fs w (by simpa using hw)) ⟨.bl _,H,I,rfl,?_⟩
  rw[show its.toArray.any (n8 x)=its.any (n8 x) by simp,Ek r fs]
  exact q
theorem M5:M3 X (.builtin "len") (fun xs H Q=>∃p ys,xs=[.ref p]/\(kA X.K H p ys\/kN X.K H p ys)/\Q (.int ys.length) H):=by
 intro pins s σ H xs us Q I r h;obtain⟨p,ys,rfl,hq,q⟩:=h;obtain⟨u,rfl,rx⟩:=R6 r;cases rx;have hn:=Bv
 rcases hq with hq|hq
 ·obtain⟨its,r',pl,hz⟩:=I.list hq
  have hlen:=r'.length
  exact Calls.call_len_list pl.isList (by simp only[Qc]<;>omega) ⟨.int ys.length,H,I.tok _,⟨s.toks+1,by rw[Qc,hlen]⟩,q⟩
 ·obtain⟨its,r',pl,hz⟩:=I.tuple hq
  have hlen:=r'.length
  exact len_tuple pl (by simp only[Qc]<;>omega) ⟨.int ys.length,H,I.tok _,⟨s.toks+1,by rw[Qc,hlen]⟩,q⟩
theorem Iz:M3 X (.builtin "len") (fun xs H Q=>∃z,xs=[.str z]/\z.length≤sizeLine/\Q (.int z.length) H):=by
 intro pins s σ H xs us Q I r h;obtain⟨z,rfl,hz,q⟩:=h;obtain⟨u,rfl,t,rfl⟩:=R6 r;have hn:=Bv;exact len_str (by omega) ⟨.int z.length,H,I.tok _,⟨_,rfl⟩,q⟩
theorem X5:M3 X (.type "tuple") (fun xs H Q=>∃p ys,xs=[.ref p]/\((kA X.K H p ys/\∀l,H l=none->Q (.ref l) (upd H l (.tup ys)))\/(kN X.K H p ys/\Q (.ref p) H))):=by
 intro pins s σ H xs us Q I r h;obtain⟨p,ys,rfl,h⟩:=h;obtain⟨u,rfl,rx⟩:=R6 r;cases rx
 rcases h with⟨hq,q⟩|⟨hq,q⟩
 ·obtain⟨its,r',pl,hz⟩:=I.list hq
  have hlen:=r'.length
  refine call_tuple_list pl.isList (fun h' kp=>?_) (by simp only[Qc]<;>omega)
  have I1:Inv X pins σ H {s with heap:=h'}:=I.kept (t':=s.toks) kp
  have I2:Inv X pins σ (upd H h'.objs.size (.tup ys)) {s with heap:=h'.push {cls:=.type "tuple",data:=.seq its.toArray}}:=
   I1.laid (t':=s.toks) (fun b o e=>Qj _ e) (Qv _) (show J3 X.prog X.w _ _ _ (.tup ys)from⟨hz,its,r',S9.new _ _⟩)
  exact⟨.ref h'.objs.size,_,I2,rfl,q _ (I1.hok.fresh (Qv _))⟩
 ·obtain⟨its,r',pl,hz⟩:=I.tuple hq
  exact call_tuple_same pl ⟨.ref p,H,I,rfl,q⟩
def sO(K:Qq)(T:String)(x:V)(H:Hp):Prop:=match x with
 |.str _=>T="str"
 |.int _=>T="int"
 |.ref p=>(T="list"/\ ∃xs,kA K H p xs)\/(T="tuple"/\ ∃o,K.lookup p=some o/\o.cls=.type "tuple"/\o.dict=none)\/
   (T="dict"/\((∃kvs,H p=some (.dK kvs))\/ ∃C kvs,H p=some (.dT C kvs)))\/(T="set"/\ ∃S n,H p=some (.set S n))\/(T="dict"/\ ∃es ep,H p=some (.dX es ep))
 |_=>False
theorem QL{pins:OA}{σ:St}{H:Hp}{s:Shared}{T:String}{x:V}{v:Value}(I:Inv X pins σ H s)(r:E3 x v)(ty:sO X.K T x H):
  s.TypeIs v T/\∀a,v=.ref a->∃ob,s.heap.get? a=some ob/\ob.dict=none:=by
 cases x with
 |str z=>
  obtain⟨t,rfl⟩:=r;cases (show T="str" from ty)
  exact⟨typeIs_str s z t,fun _ e=>nomatch e⟩
 |int i=>
  obtain⟨t,rfl⟩:=r;cases (show T="int" from ty)
  exact⟨typeIs_int s i t,fun _ e=>nomatch e⟩
 |ref p=>
  cases r
  rcases ty with⟨rfl,xs,hq⟩|⟨rfl,o,hk,hc,hd⟩|⟨rfl,hk⟩|⟨rfl,S,n,hk⟩|⟨rfl,es,ep,hk⟩
  ·obtain⟨its,_,pl,_⟩:=I.list hq
   refine⟨pl.isList.typeIs,fun a e=>?_⟩
   cases e;obtain⟨o,n,e,c,hd,_⟩:=pl;exact⟨o,e,hd⟩
  ·refine⟨⟨o,I.kIn p o hk,hc⟩,fun a e=>?_⟩
   cases e;exact⟨o,I.kIn _ o hk,hd⟩
  ·have z:∃o,s.heap.get? p=some o/\o.ExactDict:=by
    rcases hk with⟨kvs,hk⟩|⟨C,kvs,hk⟩
    ·obtain⟨_,_,_,_,o,_,_,e,ex,_⟩:=I.hok p _ hk
     exact⟨o,e,ex⟩
    ·obtain⟨_,_,_,_,o,_,_,e,ex,_⟩:=I.hok p _ hk
     exact⟨o,e,ex⟩
   obtain⟨o,e,ex⟩:=z;refine⟨⟨o,e,ex.1⟩,fun a e2=>?_⟩
   cases e2;exact⟨o,e,ex.2.1⟩
  ·obtain⟨o,_,_,_,e,ex,_⟩:=I.hok p _ hk
   refine⟨⟨o,e,ex.1⟩,fun a e2=>?_⟩
   cases e2;exact⟨o,e,ex.2.1⟩
  ·obtain⟨_,_,o,e,ex,_⟩:=I.hok p _ hk
   refine⟨⟨o,e,ex.1⟩,fun a e2=>?_⟩
   cases e2;exact⟨o,e,ex.2.1⟩
 |_=>exact False.elim ty
def t6(K:Qq)(T:String)(r:V->List V->Hp->VK->Prop)(to:TE)(t:TA):TE:=fun σ H Q=>to σ H fun x H1=>sO K T x H1/\t σ H1 fun xs H2=>r x xs H2 Q
variable{o e:Expr}{es:List Expr}{to:TE}{t:TA}{name:Str}{apos cpos:Pos}{T id:String}{r:V->List V->Hp->VK->Prop}
theorem JA(pa:PlainAttrs T)(slot:Slot T name id)(hty:typeOf (.builtin id)=pure (.type "method_descriptor"))(hm:t5 X id r)(ho:PE X o to)(ha:PA X (e::es) t)
  (hbase:attributeBase o name X.env (eval o X.env)=eval o X.env:=by rfl)
  (hfew:((backTo cpos (starEach (e::es) X.env)).all (fun x=>!x.1)&&(backToKw cpos (keywordEach [] X.env)).all (fun x=>x.1.isSome)
   &&decide ((e::es).length+([]:List Keyword).length+(if([]:List Keyword).isEmpty then 0 else 1)<30))=true:=by rfl)
  (hline:(apos.endLine==cpos.line)=true:=by rfl)(hs:starEach (e::es) X.env=(false,eval e X.env)::starEach es X.env:=by rfl)(hplain:(backTo cpos (starEach es X.env)).any (·.1)=false:=by rfl):
  PE X (.Call (.Attribute o name apos) (e::es) [] cpos) (t6 X.K T r to t):=by
 intro pins s σ H Q I h;refine Ug hbase hfew hline rfl (eV (ho pins s σ H _ I h) fun v s1 ⟨x,H1,I1,r1,ty,q1⟩=>?_)
 obtain⟨h1,h2⟩:=QL I1 r1 ty;refine⟨T,id,pa,slot,hty,h1,h2,?_⟩;have hA:=ha cpos pins s1 σ H1 _ I1 q1;rw[hs]at hA ⊢;refine Uh (by show(false||(backTo cpos (starEach es X.env)).any (·.1))=false;rw[hplain]<;>rfl) (Jt ?_)
 exact eV hA fun us s2 ⟨vs,H2,I2,r2,q2⟩=>hm pins s2 σ H2 x vs v us Q I2 r1 r2 q2
end
def rT(X:Cx)(id:String)(r:V->List V->Hp->VK->Prop):Prop:=
 ∀(pins:OA) (s:Shared) (σ:St) (H:Hp) (x:V) (xs:List V) (v:Value) (us:List Value) (Q:VK),Inv X pins σ H s->E3 x v->D6 xs us->r x xs H Q->
  wpAny (model X.prog X.w) X.A (call (.builtin id) (v::us)) (EP X pins σ Q) X.xe s
theorem D6.one:∀{x:V}{us:List Value},D6 [x] us->∃u,us=[u]/\E3 x u
 |_,_,.cons r .nil=>⟨_,rfl,r⟩
section
variable{X:Cx}{pins:OA}{σ:St}{H:Hp}{s:Shared}{l b:Addr}{xs ys zs:List V}
theorem Inv.lset{its its':List Value}{n:Nat}{f:Array Value->Array Value}{t':Nat}(I:Inv X pins σ H s)(hH:H l=some (.lst xs))
  (e:s.heap.get? l=some {cls:=.type "list",data:=.seq its.toArray n})(hf:f its.toArray=its'.toArray)(hv:D6 ys its')(hz:ys.length≤sizeLine):
  Inv X pins σ (upd H l (.lst ys)) {s with heap:=s.heap.update l (Obj.mapSeq f),toks:=t'}:=by
 have q:=PySem.IsL.update e f
 rw[hf]at q;refine I.write (x:=l) (e:=l) (by rw[hH];exact trivial) (.inl rfl) (fun b' u hb hu=>(Ze s.heap (Obj.mapSeq f) (Qa hb)).trans hu) ⟨_,q⟩ ?_
 exact⟨hz,its',_,hv,q⟩
theorem Inv.lnew{its:List Value}{t':Nat}(I:Inv X pins σ H s)(hv:D6 ys its)(hz:ys.length≤sizeLine):
  Inv X pins σ (upd H s.heap.objs.size (.lst ys)) {s with heap:=s.heap.push {cls:=.type "list",data:=.seq its.toArray},toks:=t'}:=
 I.laid (fun _ _ q=>Qj _ q) (Qv _) ⟨hz,its,0,hv,Qw _ rfl⟩
theorem Inv.fresh(I:Inv X pins σ H s):H s.heap.objs.size=none:=I.hok.fresh (Qv _)
theorem Inv.lstM(I:Inv X pins σ H s)(hH:H l=some (.lst xs)):xs.length≤sizeLine/\∃(its:List Value) (n:Nat),D6 xs its/\xs.length=its.length/\s.heap.get? l=some {cls:=.type "list",data:=.seq its.toArray n}:=by
 obtain⟨z,its,n,r,e⟩:=I.hok l _ hH;exact⟨z,its,n,r,r.length,e⟩
end
section
variable{X:Cx}
def QM:V->List V->Hp->VK->Prop:=fun x vs H Q=>∃l xs y,x=.ref l/\vs=[y]/\H l=some (.lst xs)/\xs.length<sizeLine/\Q .non (upd H l (.lst (xs++[y])))
theorem Ca:rT X "list.append" QM:=by
 intro pins s σ H x vs v us Q I rx rv h;obtain⟨l,xs,y,rfl,rfl,hH,hz,q⟩:=h;cases rx;obtain⟨u,rfl,ru⟩:=rv.one;obtain⟨z,its,n,r,hl,e⟩:=I.lstM hH;refine call_meets F.slot_list_append ⟨_,e,rfl⟩ F.entry_list_append (F.args_list_append_2 _ _) (PySem.list_append l its.toArray n u (by rw[Qc];omega)) ⟨e,?_⟩
 refine⟨.non,_,I.lset (its':=its++[u]) hH e (by simp) (r.append (.cons ru .nil)) ?_,rfl,q⟩
 rw[Zq,List.length_singleton]
 omega
end
section
variable{prog:Program}{w:World}{A:Around}{E:OU}{s:Shared}
set_option maxRecDepth 100000 in
end
section
variable{X:Cx}
end
end L2
namespace Att
open PySem PySem.W PySem.Calls PyProof.Rows
theorem kU{P:Params}{h:Heap}:∀(ns:List Int) (vs:List Value),WellAll P h vs (ns.map WData.int)->IntsAre vs ns:=by
 intro ns
 induction ns with
 |nil=>
  intro vs w;rw[Ua]at w;cases w;exact .nil
 |cons n ns ih=>
  intro vs w;rw[Zu]at w;cases w with
  |cons a b=>
   cases a;exact .cons _ _ (ih _ b)
theorem nC{l:OpenLaw}{n:Nat}(hn:l.most=some n){P:Params}{h:Heap}{args:List WData}{vals:List Value}
  (hpre:l.row.toRowW.claim.pre args=true)(hwl:WellAll P h vals args):
  ∃a vs ns,vals=[Value.ref a]/\args=[WData.list (ns.map WData.int)]/\h.get? a=some {cls:=.type "list",data:=.seq vs.toArray}/\IntsAre vs ns/\ns.length≤n:=by
 have hsh:WShape.hasAll [] args [.list .int]=true:=(pre_splitW hpre).1
 have hc:l.pre.holds [] {args:=args}=true:=(pre_splitW hpre).2
 obtain⟨d,r,rfl,h1,h2⟩:=hasAllW_cons hsh;obtain rfl:=hasAllW_nil h2;obtain⟨xs,rfl,h3⟩:=hasW_list h1;obtain⟨ns,rfl⟩:=items_int h3;have hlen:ns.length≤n:=by
  unfold OpenLaw.pre at hc;have h4:(WTm.not (.lt (.lit (.int (n:Int))) (.len (.arg 0)))).holds [] {args:=[.list (ns.map .int)]}=true:=by
   have h4:=(holds_andW hc).1
   rw[hn]at h4;exact h4
  have h5:=condW_of h4 (w_not (w_lt w_lit (w_len_list (w_arg rfl))))
  rw[Ql]at h5;refine Nat.le_of_not_lt fun q=>?_
  have q':(n:Int)<((ns.length:Nat):Int):=by omega
  first
   |(rw[decide_eq_true q']at h5;exact absurd h5 (by decide))
   |(simp at h5;omega)
 cases hwl with
 |cons w1 w2=>
  cases w2;cases w1 with
  |list ho hall=>exact⟨_,_,ns,rfl,rfl,ho,kU ns _ hall,hlen⟩
theorem nE(l:OpenLaw)(args:List WData):l.row.toRowW.claim.post args (.bool true) args=true:=
 postW_of (r:=l.row.toRowW) (X:=(true==true))
  (show WShape.has [] (.bool true) .bool=true by first|rfl|decide|simp[WShape.has,WShape.arms,WShape.armsAll])
  (show(WTm.eq .res (.lit (.bool true))).value [] {args:=args,res:=some (.bool true),after:=args}=some (.bool (true==true))from w_eq_bool (w_res rfl) w_lit) rfl
theorem lW{l:OpenLaw}{n:Nat}{q:Program}{loose:List Str}{XP:(OI)->Heap->Prop}{YP:World->Heap->Prop}{d:DefRec}
  (hn:l.most=some n)(hdf:d.params.defaults=[])
  (call:∀(w:World) (s₀ s₁:Shared) (mg mb:OI) (fa:Addr) (o:Obj) (pm cd doc:Value) (a:Addr) (vs:List Value) (ns:List Int),
   Ground q loose [] XP w s₀ mg mb s₁.heap->YP w s₁.heap->
   s₁.heap.get? fa=some o->o.data=.func (docDef d.name d.params d.body d.scope pm cd doc)->s₁.heap.CodeRec cd d.name->mg d.name=some (.ref fa)->
   s₁.heap.get? a=some {cls:=.type "list",data:=.seq vs.toArray}->IntsAre vs ns->ns.length≤n->s₁.gens= #[]->
   codeAny (model l.prog w) callerA (.call (.ref fa) ⟨[.ref a],[]⟩) (fun r s'=>r=.ok (.ret (.bool true))/\OldK s₁.heap s'.heap/\s'.os=s₁.os/\AllBare s'.gens) s₁):
  WalkO q loose XP YP l.row.toRowW d [] (fun f vs=>PySem.call f vs):=by
 intro w s₀ s₁ mg mb G Y fa o pm cd doc dV kV ho hd hcd hD hmg hg args vals as hpre hlay hrd hwl hlo;obtain rfl:dV=.none:=Dflts.none hD hdf;obtain rfl:kV=.none:=Dflts.noKw hD;obtain⟨a,vs,ns,rfl,rfl,hobj,hints,hlen⟩:=nC hn hpre hwl;refine enter_call (Jo (call w s₀ s₁ mg mb fa o pm cd doc a vs ns G Y ho (fd_plain hd) hcd hmg hobj hints hlen hg) fun r s' hq=>?_)
 obtain⟨rfl,h2,h3,h4⟩:=hq;exact⟨.inl ⟨.bool true,.bool true,[],rfl,fun _=>rfl,.bool true,nE l _,fun _=>⟨List.Pairwise.nil,fun _ hm=>(nomatch hm)⟩⟩,h2,h3,h4⟩
section
variable{prog:Program}{w:World}{A:Around}{E:OU}{s:Shared}{K:Frag}
end
end Att
namespace L2
open PySem PySem.Spec PyProof.Rows
theorem JB:∀{vs:List Value}{ns:List Int},IntsAre vs ns->D6 (ns.map V.int) vs
 |_,_,.nil=>.nil
 |_,_,.cons n t h=>.cons ⟨t,rfl⟩ (JB h)
def V8(s:Stmt):Arguments:=match s with
 |.FunctionDef _ a _ _ _ _ _ _ _ _=>a
 |_=>{posonlyargs:=[],args:=[],vararg:=none,kwonlyargs:=[],kw_defaults:=[],kwarg:=none,defaults:=[]}
def P0(s:Stmt):List Stmt:=match s with
 |.FunctionDef _ _ b _ _ _ _ _ _ _=>b
 |_=>[]
def D5(s:Stmt):Scope:=match s with
 |.FunctionDef _ _ _ _ _ _ sc _ _ _=>sc
 |_=>{kind:=.function,names:=[],isGenerator:=false,isCoroutine:=false}
abbrev gA:nQ:=fun _ _ _ _ _ _=>False
abbrev E0:XK:=fun _ _ _=>False
theorem BI{X:Cx}:Q4 gA X E0:=fun _ _ _ _ _ _ _ h=>h.elim
structure fT(K:Qq)(x qual:Str)(st:Stmt)(f:Addr)(fd:FuncData):Prop where
 ex:∃(oc:Value) (od:Option Addr) (kV doc pm:Value) (an:Option Addr) (cdv ct:Value) (osl:Array (Option Value)),
  fd=PySem.W.fnOf x qual (V8 st) (P0 st) (D5 st) .none kV doc pm an cdv ct/\K.lookup f=some ⟨oc,od,.func fd,osl⟩/\PySem.W.codeIn K cdv qual=true
 kp:PySem.W.keepIn K (.ref f)=true
section
variable{P:Program}{w:World}{K:Qq}{mg:OI}{base:Heap}
theorem fT.ok{x qual:Str}{st:Stmt}{f:Addr}{fd:FuncData}{N ps:List Str}{k:Nat}{sp:Sp}(F:fT K x qual st f fd)(S:b0 N ps (D5 st))(len:∀vs H Q E,sp vs H Q E->vs.length=ps.length)
  (hbody:∀(cdv:Value) (A:Around) (outer:List Env) (s:Shared) (H:Hp) (vs:List V) (Q:VK) (E:XK),fA k (A.deeper (envOfC qual (D5 st) s.heap.objs.size f cdv))->sp vs H Q E->
   ∃t,j7 (K8 gA P w K mg base N qual (D5 st) f cdv A outer s H E).nox (P0 st) t/\t {nx:=fun _ H'=>Q .non H',rt:=Q} (start N vs) H):c8 P w K mg base gA (k+1) f fd ps sp:=by
 obtain⟨oc,od,kV,doc,pm,an,cdv,ct,osl,rfl,lk,hcd⟩:=F.ex;refine Ei lk hcd S len fun A outer s H vs Q E hr hsp=>?_
 obtain⟨t,h,q⟩:=hbody cdv A outer s H vs Q E hr hsp;exact⟨t,h.nox,q⟩
theorem fT.binds{x qual:Str}{st:Stmt}{f:Addr}{fd:FuncData}{ps:List Str}(F:fT K x qual st f fd)
  (h:∀(kV doc pm:Value) (an:Option Addr) (cdv ct:Value) (us:List Value),us.length=ps.length->bindArgs (PySem.W.fnOf x qual (V8 st) (P0 st) (D5 st) .none kV doc pm an cdv ct) ⟨us,[]⟩=pure (ps.zip us)):L8 K fd ps []:=by
 obtain⟨oc,od,kV,doc,pm,an,cdv,ct,osl,rfl,lk,hcd⟩:=F.ex;exact .all (h kV doc pm an cdv ct)
theorem JC{x qual:Str}{st:Stmt}{f:Addr}{oc:Value}{od an:Option Addr}{osl:Array (Option Value)}{kV doc pm cdv ct:Value}(l:K.lookup f=some ⟨oc,od,.func (PySem.W.fnOf x qual (V8 st) (P0 st) (D5 st) .none kV doc pm an cdv ct),osl⟩)
  (c:PySem.W.codeIn K cdv qual=true)(k:PySem.W.keepIn K (.ref f)=true):fT K x qual st f (PySem.W.fnOf x qual (V8 st) (P0 st) (D5 st) .none kV doc pm an cdv ct):=⟨⟨oc,od,kV,doc,pm,an,cdv,ct,osl,rfl,l,c⟩,k⟩
end
theorem Cb{n:Nat}(h:n≤1000):n<sizeLine:=Uq h (by decide)
section
variable{X:Cx}
theorem pv(i:Nat){x:Str}{pos:Pos}(hN:X.N[i]? =some x:=by rfl)(hv:oB X.env.scope x:=by first|exact Or.inl rfl|exact Or.inr (Or.inl rfl)|exact Or.inr (Or.inr rfl))(hd:(x==("__debug__":Str))=false:=by decide)
  (hcd:(x==("__classdict__":Str))=false:=by decide):PE X (.Name x pos) (O9 i):=EJ hN hv hd hcd
end
section
variable{κ:Type}[DecidableEq κ]
end
theorem N8.isSome_eq{o:Option V}{u:Option Value}(r:N8 o u):o.isSome=u.isSome:=by
 cases o with
 |none=>cases u with
  |none=>rfl
  |some _=>exact(show False from r).elim
 |some _=>cases u with
  |none=>exact(show False from r).elim
  |some _=>rfl
theorem M8{P:Program}{w:World}{k:Key}{u:Value}(r:E3 (kV k) u):(F7 P w).is k u=true:=by
 cases k with
 |inl i=>obtain⟨t,e⟩:=(show∃t,u=Value.int i t from r);subst e;exact OF P w i t
 |inr x=>obtain⟨t,e⟩:=(show∃t,u=Value.str x t from r);subst e;exact OG P w x t
section
variable{P:Program}{w:World}{H:Hp}{h:Heap}{a:Addr}
end
section
variable{X:Cx}{pins:OA}{σ:St}{H:Hp}{s:Shared}{a:Addr}{y v:V}{u r:Value}{o:Option V}{A:Around}{E:OU}
theorem QN{h':Heap}{t':Nat}{ob:HO}(I:Inv X pins σ H s)(mu:qB (H a))(hs:Heap.SameBut a s.heap h')(he:∃q,h'.get? a=some q)(new:J3 X.prog X.w (upd H a ob) h' a ob):
  Inv X pins σ (upd H a ob) {s with heap:=h',toks:=t'}:=
 I.write (x:=a) (e:=a) mu (.inl rfl) (fun b q hb z=>(hs.2 b hb).trans z) he new
end
def QO(i:Expr):Prop:=∀ov iv,subscripted i false ov iv=operate [ov,iv] (getItem ov iv)
theorem Cc{prog:Program}{w:World}{A:Around}{E:OU}{s:Shared}{env:Env}{value slice:Expr}{pos:Pos}{T id:String}{Q:OU}
  (hl:typeLookup (.type T) "__getitem__"=pure (some (.builtin id)))(hs:QO slice)
  (h:wpAny (model prog w) A (eval value env) (fun o s₁=>wpAny (model prog w) A (eval slice env) (fun i s₂=>s₂.TypeIs o T/\wpAny (model prog w) A (getItem o i) Q E s₂) E s₁) E s):
  wpAny (model prog w) A (eval (.Subscript value slice pos) env) Q E s:=by
 refine Subscript_ (Qb h (fun o s₁ h₁=>Qb h₁ (fun i s₂ h₂=>?_) fun _ _ x=>x) fun _ _ x=>x)
 obtain⟨hT,h₂⟩:=h₂;unfold subscriptTail;refine Qz ?_
 rw[getitemInPython_of_ne hT.not_modules];refine Qz (wpAny_specialOf hT hl ?_);have fin:wpAny (model prog w) A (subscripted slice false o i) (fun r s₃=>wpAny (model prog w) A (letTemporaryGo value o r>>=fun _=>pure r) Q E s₃) E s₂:=by
  rw[hs o i];exact wpAny_operating (Qb h₂ (fun r s₃ h₃=>Qz (wpAny_letTemporaryGo (Qx h₃))) fun _ _ x=>x)
 first
  |exact Qx (Qz fin)
  |exact Qz (Qx (Qz fin))
  |exact Qz fin
theorem Inv.big(I:Inv X pins σ H s):sysModules<s.heap.objs.size:=by
 have h:mainGlobals<s.heap.objs.size:=(I.mod.glob.keeps I.bk).lt
 exact Vb (by decide) h
end L2
namespace L2.Mir
open PySem PySem.Spec PyProof.Rows
inductive KX where
 |t (ns:List Int)|p (ns:List Int) (m:Int)
 deriving Inhabited,DecidableEq
def KX.kind:KX->Bool
 |.t _=>false
 |.p _ _=>true
def JD(ns:List Int):Int:=reduceHash (Builtin.Tuple.tupleHashOf (ns.map hashInt))
def QP:KX->Int
 |.t ns=>JD ns
 |.p ns m=>reduceHash (Builtin.Tuple.tupleHashOf [JD ns,hashInt m])
inductive Ob where
 |exc (n:Str)|fn (n:Str)|dk (kvs:List (Key×Key))|dt (kvs:List (Str×List Int))|dsk (kvs:List (Str×OO))|pin (a d:Addr)
 deriving Inhabited
inductive D where
 |non|bl (b:Bool)|int (i:Int)|str (x:Str)|tup (ds:List D)|lst (ds:List D)|emp|obj (o:Ob)|dct (ks:OO) (vs:List D)|dcx (ks:List KX) (vs:List D)
 deriving Inhabited
def Cd(K:Qq)(t:Value):Prop:=∀T∈(["tuple","list","int","bool","str"]:List String),PySem.W.kitOne K t (.type T)=some false
def lJ(K:Qq)(G:Hp)(a:Addr)(xs:List V):Prop:=G a=some (.tup xs)\/ ∃(o:Obj) (its:Array Value) (n:Nat),K.lookup a=some o/\o.cls=.type "tuple"/\o.dict=none/\o.data=.seq its n/\its.size≤sizeLine/\D6 xs its.toList
theorem lJ.t{K:Qq}{G:Hp}{a:Addr}{xs:List V}(h:lJ K G a xs):kN K G a xs:=h.imp (fun e=>.inl e) id
def BJ(K:Qq)(G:Hp):List (Key×V)->List (Str×List Int)->Prop
 |[],[]=>True
 |p::ps,q::qs=>p.1=.inr q.1/\(∃a,p.2=.ref a/\lJ K G a (q.2.map V.int))/\BJ K G ps qs
 |_,_=>False
structure nF(K:Qq)(C:Addr):Prop where
 cl:mY K C
 ha:PySem.W.findIn K (.ref C) "__class__"=some (some (.builtin "object.__class__"))
 hn:PySem.W.specialIn K (.builtin "object.__class__") "__get__"=some (some (.builtin "getset_descriptor.__get__"))
 htk:PySem.W.takesIn K (.builtin "object.__class__")=some true
 hm:PySem.W.mroIn K C (.type "object")=some true
 nt:Cd K (.ref C)
 nb:V5 K C "by_name"
def X6(K:Qq)(G:Hp):List V->OO->Prop
 |[],[]=>True
 |x::xs,r::rs=>(∃a,x=.ref a/\lJ K G a (r.map V.int))/\X6 K G xs rs
 |_,_=>False
def O4(K:Qq)(G:Hp):List (Key×V)->List (Str×OO)->Prop
 |[],[]=>True
 |p::ps,q::qs=>p.1=.inr q.1/\(∃a xs,p.2=.ref a/\lJ K G a xs/\X6 K G xs q.2)/\O4 K G ps qs
 |_,_=>False
def P1(K:Qq)(G:Hp)(v:V):Ob->Prop
 |.exc n=>∃a C HP,v=.ref a/\PySem.W.nsIn K mainGlobals n=some (some (.ref C))/\G a=some (.ext HP)/\PySem.W.KitX K (.ref a) (.ref C) HP/\Cd K (.ref C)
 |.fn n=>∃f,v=.ref f/\PySem.W.nsIn K mainGlobals n=some (some (.ref f))/\PySem.W.KitX K (.ref f) (.type "function") (fun _=>True)
 |.dk kvs=>∃a,v=.ref a/\G a=some (.dK (kvs.map fun p=>(p.1,kV p.2)))
 |.dt kvs=>∃a ps,v=.ref a/\G a=some (.dK ps)/\BJ K G ps kvs
 |.dsk kvs=>∃a C dx d ps,v=.ref a/\PySem.W.nsIn K mainGlobals "Desk"=some (some (.ref C))/\nF K C/\G a=some (.ins C dx [("by_name",.ref d)])/\G dx=some (.own a)/\G d=some (.dK ps)/\O4 K G ps kvs
 |.pin a d=>v=.ref a/\∃C dx,PySem.W.nsIn K mainGlobals "Desk"=some (some (.ref C))/\nF K C/\G a=some (.ins C dx [("by_name",.ref d)])/\G dx=some (.own a)
abbrev Ce(k:List Int):List Key:=k.map Sum.inl
def El(K:Qq):Addr->List Key->Prop:=fun b k=>lJ K (fun _=>none) b (k.map kV)
def BK(K:Qq)(G:Hp)(v:Value):KX->Prop
 |.t ns=>∃b,v=.ref b/\lJ K G b (ns.map V.int)
 |.p ns m=>∃b c,v=.ref b/\lJ K G b [.ref c,.int m]/\lJ K G c (ns.map V.int)
inductive oS (K:Qq) (G:Hp):List DictEntry->List KX->List V->Prop
 |nil:oS K G [] [] []
 |cons {e:DictEntry}{es:List DictEntry}{k:KX}{ks:List KX}{x:V}{xs:List V}(h1:e.hash=QP k) (h2:BK K G e.key k) (h3:E3 x e.val) (t:oS K G es ks xs):oS K G (e::es) (k::ks) (x::xs)
def JE(ks:List KX):Prop:=(∃n,∀k∈ks,k.kind=n)/\ks.Nodup
mutual
def a9(K:Qq)(G:Hp):V->D->Prop
 |v,.non=>v=.non
 |v,.bl b=>v=.bl b
 |v,.int i=>v=.int i
 |v,.str x=>v=.str x/\x.length≤sizeLine
 |v,.tup ds=>∃a xs,v=.ref a/\lJ K G a xs/\B9 K G xs ds
 |v,.lst ds=>∃a xs,v=.ref a/\kA K G a xs/\B9 K G xs ds
 |v,.emp=>∃a kvs,v=.ref a/\G a=some (.dK kvs)
 |v,.obj o=>P1 K G v o
 |v,.dct ks vs=>∃a kvs,v=.ref a/\G a=some (.dT (El K) kvs)/\kvs.map (·.1)=ks.map Ce/\B9 K G (kvs.map (·.2)) vs
 |v,.dcx ks vs=>∃a es ep xs,v=.ref a/\G a=some (.dX es ep)/\oS K G es.toList ks xs/\JE ks/\B9 K G xs vs
def B9(K:Qq)(G:Hp):List V->List D->Prop
 |xs,[]=>xs=[]
 |xs,d::ds=>∃x r,xs=x::r/\a9 K G x d/\B9 K G r ds
end
def Le(G G':Hp):Prop:=∀b o,G b=some o->G' b=some o
theorem Le.refl{G:Hp}:Le G G:=fun _ _ e=>e
theorem Le.trans{G G1 G2:Hp}(a:Le G G1)(b:Le G1 G2):Le G G2:=fun x o e=>b x o (a x o e)
theorem Le.upd{G:Hp}{a:Addr}{o:HO}(h:G a=none):Le G (upd G a o):=fun b u e=>by rw[C4 (J5 e h)];exact e
theorem Le.sqU{K:Qq}{G G':Hp}(l:Le G G'){a:Addr}{xs:List V}(h:lJ K G a xs):lJ K G' a xs:=h.imp (fun e=>l _ _ e) id
theorem Le.sqT{K:Qq}{G G':Hp}(l:Le G G'){a:Addr}{xs:List V}(h:lJ K G a xs):kN K G' a xs:=(l.sqU h).t
theorem Le.sqT'{K:Qq}{G G':Hp}(l:Le G G'){a:Addr}{xs:List V}(h:kN K G a xs):kN K G' a xs:=by
 rcases h with h|h
 ·rcases h with h|⟨o,h⟩
  ·exact .inl (.inl (l _ _ h))
  ·exact .inl (.inr ⟨o,l _ _ h⟩)
 ·exact .inr h
theorem Le.sqL{K:Qq}{G G':Hp}(l:Le G G'){a:Addr}{xs:List V}(h:kA K G a xs):kA K G' a xs:=by
 rcases h with h|h
 ·rcases h with h|⟨o,h⟩
  ·exact .inl (.inl (l _ _ h))
  ·exact .inl (.inr ⟨o,l _ _ h⟩)
 ·exact .inr h
theorem BJ.mono{K:Qq}{G G':Hp}(l:Le G G'):∀{ps:List (Key×V)}{qs:List (Str×List Int)},BJ K G ps qs->BJ K G' ps qs
 |[],[],_=>trivial
 |_::_,_::_,⟨h1,⟨a,h2,h3⟩,h4⟩=>⟨h1,⟨a,h2,l.sqU h3⟩,BJ.mono l h4⟩
theorem X6.mono{K:Qq}{G G':Hp}(l:Le G G'):∀{ps:List V}{qs:OO},X6 K G ps qs->X6 K G' ps qs
 |[],[],_=>trivial
 |_::_,_::_,⟨⟨a,h2,h3⟩,h4⟩=>⟨⟨a,h2,l.sqU h3⟩,X6.mono l h4⟩
theorem O4.mono{K:Qq}{G G':Hp}(l:Le G G'):∀{ps:List (Key×V)}{qs:List (Str×OO)},O4 K G ps qs->O4 K G' ps qs
 |[],[],_=>trivial
 |_::_,_::_,⟨h1,⟨a,xs,h2,h3,h5⟩,h4⟩=>⟨h1,⟨a,xs,h2,l.sqU h3,h5.mono l⟩,O4.mono l h4⟩
theorem P1.mono{K:Qq}{G G':Hp}(l:Le G G'){v:V}:∀{o:Ob},P1 K G v o->P1 K G' v o
 |.exc n,⟨a,C,HP,h1,h2,h3,h4⟩=>⟨a,C,HP,h1,h2,l _ _ h3,h4⟩
 |.fn n,h=>h
 |.dk kvs,⟨a,h1,h2⟩=>⟨a,h1,l _ _ h2⟩
 |.dt kvs,⟨a,ps,h1,h2,h3⟩=>⟨a,ps,h1,l _ _ h2,h3.mono l⟩
 |.dsk kvs,⟨a,C,dx,d,ps,h1,h2,h3,h4,h5,h6,h7⟩=>⟨a,C,dx,d,ps,h1,h2,h3,l _ _ h4,l _ _ h5,l _ _ h6,h7.mono l⟩
 |.pin a d,⟨h1,C,dx,h2,h3,h4,h5⟩=>⟨h1,C,dx,h2,h3,l _ _ h4,l _ _ h5⟩
theorem BK.mono{K:Qq}{G G':Hp}(l:Le G G'){v:Value}:∀{k:KX},BK K G v k->BK K G' v k
 |.t ns,⟨b,e,h⟩=>⟨b,e,l.sqU h⟩
 |.p ns m,⟨b,c,e,h,g⟩=>⟨b,c,e,l.sqU h,l.sqU g⟩
theorem oS.mono{K:Qq}{G G':Hp}(l:Le G G'){es:List DictEntry}{ks:List KX}{xs:List V}(h:oS K G es ks xs):oS K G' es ks xs:=by
 induction h with
 |nil=>exact .nil
 |cons h1 h2 h3 _ ih=>exact .cons h1 (h2.mono l) h3 ih
mutual
theorem a9.mono{K:Qq}{G G':Hp}(l:Le G G'):∀(d:D) {v:V},a9 K G v d->a9 K G' v d
 |.non,_,h=>by simpa only[a9]using h
 |.bl b,_,h=>by simpa only[a9]using h
 |.int i,_,h=>by simpa only[a9]using h
 |.str x,_,h=>by simpa only[a9]using h
 |.tup ds,_,h=>by
  simp only[a9]at h ⊢;obtain⟨a,xs,e,q,r⟩:=h;exact⟨a,xs,e,l.sqU q,B9.mono l ds r⟩
 |.lst ds,_,h=>by
  simp only[a9]at h ⊢;obtain⟨a,xs,e,q,r⟩:=h;exact⟨a,xs,e,l.sqL q,B9.mono l ds r⟩
 |.emp,_,h=>by
  simp only[a9]at h ⊢;obtain⟨a,kvs,e,q⟩:=h;exact⟨a,kvs,e,l _ _ q⟩
 |.obj o,_,h=>by
  simp only[a9]at h ⊢;exact h.mono l
 |.dct ks vs,_,h=>by
  simp only[a9]at h ⊢;obtain⟨a,kvs,e,q,k,r⟩:=h;exact⟨a,kvs,e,l _ _ q,k,B9.mono l vs r⟩
 |.dcx ks vs,_,h=>by
  simp only[a9]at h ⊢;obtain⟨a,es,ep,xs,e,q,k,o,r⟩:=h;exact⟨a,es,ep,xs,e,l _ _ q,k.mono l,o,B9.mono l vs r⟩
theorem B9.mono{K:Qq}{G G':Hp}(l:Le G G'):∀(ds:List D) {xs:List V},B9 K G xs ds->B9 K G' xs ds
 |[],_,h=>by simpa only[B9]using h
 |d::ds,_,h=>by
  simp only[B9]at h ⊢;obtain⟨x,r,e,q,t⟩:=h;exact⟨x,r,e,a9.mono l d q,B9.mono l ds t⟩
end
theorem eY{K:Qq}{G:Hp}:B9 K G [] []:=by simp only[B9]
theorem fB{K:Qq}{G:Hp}{x:V}{xs:List V}{d:D}{ds:List D}(h:a9 K G x d)(t:B9 K G xs ds):B9 K G (x::xs) (d::ds):=by
 simp only[B9];exact⟨x,xs,rfl,h,t⟩
theorem B9.length{K:Qq}{G:Hp}:∀{ds:List D}{xs:List V},B9 K G xs ds->xs.length=ds.length
 |[],_,h=>by simp only[B9]at h;subst h;rfl
 |d::ds,_,h=>by
  simp only[B9]at h;obtain⟨x,r,e,q,t⟩:=h;subst e
  simp[B9.length t]
theorem B9.append{K:Qq}{G:Hp}:∀{ds es:List D}{xs ys:List V},B9 K G xs ds->B9 K G ys es->B9 K G (xs++ys) (ds++es)
 |[],_,_,_,h,t=>by simp only[B9]at h;subst h;exact t
 |d::ds,_,_,_,h,t=>by
  simp only[B9]at h;obtain⟨x,r,e,q,u⟩:=h;subst e;exact fB q (B9.append u t)
theorem B9.get{K:Qq}{G:Hp}:∀{ds:List D}{xs:List V}{i:Nat}{d:D},B9 K G xs ds->ds[i]? =some d->∃x,xs[i]? =some x/\a9 K G x d
 |[],_,i,d,h,e=>by simp at e
 |d::ds,_,i,d',h,e=>by
  simp only[B9]at h;obtain⟨x,r,e1,q,t⟩:=h;subst e1;cases i with
  |zero=>simp at e;subst e;exact⟨x,rfl,q⟩
  |succ i=>simpa using B9.get (i:=i) t (by simpa using e)
theorem B9.get'{K:Qq}{G:Hp}{ds:List D}{xs:List V}{i:Nat}{x:V}(h:B9 K G xs ds)(e:xs[i]? =some x):∃d,ds[i]? =some d/\a9 K G x d:=by
 have hl:=h.length
 have hi:i<xs.length:=(Qy.mp e).1
 obtain⟨x',e',r⟩:=h.get (i:=i) (d:=ds[i]'(by omega)) (by simp)
 rw[e]at e';cases e';exact⟨_,by simp,r⟩
theorem B9.take{K:Qq}{G:Hp}:∀{ds:List D}{xs:List V}(n:Nat),B9 K G xs ds->B9 K G (xs.take n) (ds.take n)
 |_,_,0,_=>by simp[eY]
 |[],_,n+1,h=>by simp only[B9]at h;subst h;simp[eY]
 |d::ds,_,n+1,h=>by
  simp only[B9]at h;obtain⟨x,r,e,q,t⟩:=h;subst e;exact fB q (t.take n)
theorem B9.drop{K:Qq}{G:Hp}:∀{ds:List D}{xs:List V}(n:Nat),B9 K G xs ds->B9 K G (xs.drop n) (ds.drop n)
 |_,_,0,h=>h
 |[],_,n+1,h=>by simp only[B9]at h;subst h;simp[eY]
 |d::ds,_,n+1,h=>by
  simp only[B9]at h;obtain⟨x,r,e,q,t⟩:=h;subst e;exact t.drop n
inductive Mu where
 |l (ds:List D)|d (ks:OO) (vs:List D)|x (ks:List KX) (vs:List D)
 deriving Inhabited
inductive W where
 |nil|dat (d:D)|own (ds:List D)|par (ds:List D)|ownD (ks:OO) (vs:List D)|parD (ks:OO) (vs:List D)|ownX (ks:List KX) (vs:List D)|parX (ks:List KX) (vs:List D)
 deriving Inhabited
abbrev c7:=List W
abbrev OX:=D->c7->Option c7
def W.mut:W->Option Mu
 |.own ds=>some (.l ds)
 |.par ds=>some (.l ds)
 |.ownD ks vs=>some (.d ks vs)
 |.parD ks vs=>some (.d ks vs)
 |.ownX ks vs=>some (.x ks vs)
 |.parX ks vs=>some (.x ks vs)
 |_=>none
def W.mutL:W->Option (List D)
 |.own ds=>some ds
 |.par ds=>some ds
 |_=>none
def W.put:W->List D->W
 |.own _,ds=>.own ds
 |.par _,ds=>.par ds
 |w,_=>w
def W.isOwn:W->Bool
 |.own _=>true
 |.ownD _ _=>true
 |.ownX _ _=>true
 |_=>false
def W.isPar:W->Bool
 |.par _=>true
 |.parD _ _=>true
 |.parX _ _=>true
 |_=>false
def W.putM(w:W):Mu->W
 |.l ds=>if w.isOwn then .own ds else if w.isPar then .par ds else w
 |.d ks vs=>if w.isOwn then .ownD ks vs else if w.isPar then .parD ks vs else w
 |.x ks vs=>if w.isOwn then .ownX ks vs else if w.isPar then .parX ks vs else w
theorem W.mutL_of{w:W}{ds:List D}(h:w.mutL=some ds):w.mut=some (.l ds):=by cases w<;>first|(cases h;rfl)|cases h
theorem W.put_eq{w:W}{ds:List D}(h:w.mutL=some ds)(ds':List D):w.put ds'=w.putM (.l ds'):=by cases w<;>first|rfl|cases h
theorem W.putM_mut{w:W}{m:Mu}(h:w.mut=some m)(m':Mu):(w.putM m').mut=some m':=by
 cases w<;>cases m'<;>first|rfl|cases h
theorem W.putM_own{w:W}{m:Mu}(h:w.mut=some m)(m':Mu):(w.putM m').isOwn=w.isOwn:=by
 cases w<;>cases m'<;>first|rfl|cases h
theorem W.putM_par{w:W}{m:Mu}(h:w.mut=some m)(m':Mu):(w.putM m').isPar=w.isPar:=by
 cases w<;>cases m'<;>first|rfl|cases h
def d6(σ:St)(env:c7)(a:Addr):Prop:=∃(i:Nat) (w:W) (m:Mu),env[i]? =some w/\w.mut=some m/\σ[i]? =some (some (V.ref a))
theorem kY{w:W}(h:w.isOwn=true):∃m,w.mut=some m:=by cases w<;>first|exact⟨_,rfl⟩|cases h
theorem kC{w:W}(h:w.isPar=true):∃m,w.mut=some m:=by cases w<;>first|exact⟨_,rfl⟩|cases h
def NT(o:HO):Prop:=∀ps,o≠.tbl ps
theorem gL{xs:List V}:NT (.lst xs):=fun _ z=>by cases z
theorem o9{xs:List V}:NT (.tup xs):=fun _ z=>by cases z
def kH(q:Str):Str:=(q++".<locals>.")++"<lambda>"
def nU(K:Qq)(P:Addr)(q:Str):Bool:=K.all fun p=>match p.2 with
 |⟨.type "code",_,.fields vs,_⟩=>(match (vs[11]? :Option Value)with|some (.ref P')=>P' !=P|_=>true)||(match vs.toList with|_::.str n _::_=>n==q|_=>false)
 |_=>true
def lX(K:Qq)(P a:Addr):HO:=.ext fun h=>∀q,nU K P q=true->h.CodeRec (.ref a) (kH q)
def jB(K:Qq)(H:Hp):Prop:=∀P ps,H P=some (.tbl ps)->TriplesOk ps.toList/\∀pos v,codeAmong pos ps.toList=some v->∃a,v=.ref a/\H a=some (lX K P a)
theorem jB.mono{K:Qq}{H H':Hp}(t:jB K H)(h1:∀P ps,H' P=some (.tbl ps)->H P=some (.tbl ps))(h2:∀a φ,H a=some (.ext φ)->H' a=some (.ext φ)):jB K H':=fun P ps e=>by
 obtain⟨q1,q2⟩:=t P ps (h1 P ps e);refine⟨q1,fun pos v e=>?_⟩
 obtain⟨a,e1,e2⟩:=q2 pos v e;exact⟨a,e1,h2 _ _ e2⟩
theorem jB.upd{K:Qq}{H:Hp}(t:jB K H){a:Addr}{o:HO}(no:NT o)(h:∀φ,H a≠some (.ext φ)):jB K (upd H a o):=
 t.mono (fun P ps e=>by
  by_cases hb:P=a
  ·subst hb;rw[D9]at e;cases e;exact absurd rfl (no ps)
  ·rw[C4 hb]at e;exact e) fun b φ e=>by
  by_cases hb:b=a
  ·subst hb;exact absurd e (h φ)
  ·rw[C4 hb];exact e
def kW(K:Qq)(G:Hp)(o:HO):Mu->Prop
 |.l ds=>∃xs,o=.lst xs/\B9 K G xs ds
 |.d ks vs=>∃kvs,o=.dT (El K) kvs/\kvs.map (·.1)=ks.map Ce/\B9 K G (kvs.map (·.2)) vs
 |.x ks vs=>∃es ep xs,o=.dX es ep/\oS K G es.toList ks xs/\JE ks/\B9 K G xs vs
theorem kW.mono{K:Qq}{G G':Hp}(l:Le G G'){o:HO}:∀{m:Mu},kW K G o m->kW K G' o m
 |.l ds,⟨xs,e,r⟩=>⟨xs,e,B9.mono l ds r⟩
 |.d ks vs,⟨kvs,e,k,r⟩=>⟨kvs,e,k,B9.mono l vs r⟩
 |.x ks vs,⟨es,ep,xs,e,k,o,r⟩=>⟨es,ep,xs,e,k.mono l,o,B9.mono l vs r⟩
theorem kW.nt{K:Qq}{G:Hp}{o:HO}:∀{m:Mu},kW K G o m->NT o
 |.l ds,⟨xs,e,r⟩=>by subst e;exact gL
 |.d ks vs,⟨kvs,e,k,r⟩=>by subst e;exact fun _ z=>by cases z
 |.x ks vs,⟨es,ep,xs,e,k,r⟩=>by subst e;exact fun _ z=>by cases z
theorem kW.ne{K:Qq}{G:Hp}{o:HO}{m:Mu}(r:kW K G o m):∀φ,o≠.ext φ:=by
 cases m with
 |l ds=>obtain⟨xs,e,_⟩:=r;subst e;exact fun _ z=>by cases z
 |d ks vs=>obtain⟨xs,e,_⟩:=r;subst e;exact fun _ z=>by cases z
 |x ks vs=>obtain⟨es,ep,xs,e,_⟩:=r;subst e;exact fun _ z=>by cases z
structure Rel(K:Qq)(B:OE)(G:Hp)(σ:St)(env:c7)(H:Hp):Prop where
 sub:Le G H
 len:env.length=σ.length
 dat:∀(i:Nat) (d:D),env[i]? =some (.dat d)->∃v,σ[i]? =some (some v)/\a9 K G v d
 own:∀(i:Nat) (w:W) (m:Mu),env[i]? =some w->w.mut=some m->∃a o,σ[i]? =some (some (V.ref a))/\H a=some o/\kW K G o m/\G a=none
 inj:∀(i j:Nat) (w w':W) (ds es:Mu) (a:Addr),env[i]? =some w->w.mut=some ds->env[j]? =some w'->w'.mut=some es->σ[i]? =some (some (V.ref a))->σ[j]? =some (some (V.ref a))->i=j
 fresh:∀(i:Nat) (w:W) (a:Addr),env[i]? =some w->w.isOwn=true->σ[i]? =some (some (V.ref a))-> ¬ B a
 old:∀b,B b->H b≠none
 tabs:jB K H
 gnt:∀b o,G b=some o->NT o
structure Ev(K:Qq)(B:OE)(G:Hp)(σ:St)(env:c7)(H:Hp)(G':Hp)(σ':St)(env':c7)(H':Hp):Prop where
 rel:Rel K B G' σ' env' H'
 same:Le G G'
 keep:∀b o,¬ d6 σ env b->NT o->H b=some o->H' b=some o
 live:∀b,H b≠none->H' b≠none
 stay:∀b,H b≠none-> ¬ d6 σ env b->G b=none->G' b=none
 sub:∀a,d6 σ' env' a->d6 σ env a\/H a=none
 par:∀(i:Nat) (w:W),env'[i]? =some w->w.isPar=true->σ'[i]? =σ[i]? /\ ∃w0,env[i]? =some w0/\w0.isPar=true
 slen:σ'.length=σ.length
theorem Ev.refl{K:Qq}{B:OE}{G:Hp}{σ:St}{env:c7}{H:Hp}(r:Rel K B G σ env H):Ev K B G σ env H G σ env H:=
 ⟨r,Le.refl,fun _ _ _ _ e=>e,fun _ e=>e,fun _ _ _ e=>e,fun _ e=>.inl e,fun _ w e h=>⟨rfl,w,e,h⟩,rfl⟩
theorem Ev.trans{K:Qq}{B:OE}{G G1 G2:Hp}{σ σ1 σ2:St}{env a8 eW:c7}{H H1 H2:Hp}(a:Ev K B G σ env H G1 σ1 a8 H1)(b:Ev K B G1 σ1 a8 H1 G2 σ2 eW H2):Ev K B G σ env H G2 σ2 eW H2 where
 rel:=b.rel
 same:=a.same.trans b.same
 keep:=fun x o n t e=>b.keep x o (fun z=>(a.sub x z).elim n fun q=>by rw[e]at q;cases q) t (a.keep x o n t e)
 live:=fun x e=>b.live x (a.live x e)
 stay:=fun x e n g=>b.stay x (a.live x e) (fun z=>(a.sub x z).elim n fun q=>e q) (a.stay x e n g)
 sub:=fun x z=>(b.sub x z).elim (fun q=>a.sub x q) fun q=>.inr (by
  cases h:H x with
  |none=>rfl
  |some o=>exact absurd q (a.live x (by rw[h];simp)))
 par:=fun i w e h=>by
  obtain⟨h1,d1,e1,p1⟩:=b.par i w e h;obtain⟨h2,d2,e2,p2⟩:=a.par i d1 e1 p1;exact⟨h1.trans h2,d2,e2,p2⟩
 slen:=b.slen.trans a.slen
theorem Rel.ownL{K:Qq}{B:OE}{G:Hp}{σ:St}{env:c7}{H:Hp}(r:Rel K B G σ env H)(i:Nat)(w:W)(ds:List D)(e1:env[i]? =some w)(e2:w.mutL=some ds):∃a xs,σ[i]? =some (some (V.ref a))/\H a=some (.lst xs)/\B9 K G xs ds/\G a=none:=by
 obtain⟨a,o,h1,h2,⟨xs,rfl,h3⟩,h4⟩:=r.own i w (.l ds) e1 (W.mutL_of e2);exact⟨a,xs,h1,h2,h3,h4⟩
abbrev Mo(α:Type):=c7->Option (α×c7)
section
variable(K:Qq)(B:OE)
def TD(m:Mo D):TE:=fun σ H Q=>∃G env d env',Rel K B G σ env H/\m env=some (d,env')/\∀v G' H',Ev K B G σ env H G' σ env' H'->a9 K G' v d->Q v H'
def TL(m:Mo (List D)):TE:=fun σ H Q=>∃G env ds env',Rel K B G σ env H/\m env=some (ds,env')/\∀a xs G' H',Ev K B G σ env H G' σ env' H'->H a=none-> ¬ d6 σ env' a->H' a=some (.lst xs)->G' a=none->B9 K G' xs ds->Q (.ref a) H'
def lK(m:Mo Bool):TT:=fun σ H Q=>∃G env b env',Rel K B G σ env H/\m env=some (b,env')/\∀G' H',Ev K B G σ env H G' σ env' H'->Q b H'
inductive Ar where
 |d (d:D)|sl (i:Nat)
 deriving Inhabited
def gP(G:Hp)(σ:St):List V->List Ar->Prop
 |xs,[]=>xs=[]
 |xs,.d d::as=>∃x r,xs=x::r/\a9 K G x d/\gP G σ r as
 |xs,.sl i::as=>∃x r,xs=x::r/\σ[i]? =some (some x)/\gP G σ r as
def sP(m:Mo (List Ar)):TA:=fun σ H Q=>∃G env as env',Rel K B G σ env H/\m env=some (as,env')/\∀vs G' H',Ev K B G σ env H G' σ env' H'->gP K G' σ vs as->Q vs H'
def sQ(m:Mo (List D)):TA:=fun σ H Q=>∃G env ds env',Rel K B G σ env H/\m env=some (ds,env')/\∀vs G' H',Ev K B G σ env H G' σ env' H'->B9 K G' vs ds->Q vs H'
inductive Fl where
 |nx|bk|ct|ret (d:D)|retL (ds:List D)
def Post(G:Hp)(σ:St)(env:c7)(H:Hp)(env':c7)(D:Ends):Fl->Prop
 |.nx=>∀σ' G' H',Ev K B G σ env H G' σ' env' H'->D.nx σ' H'
 |.bk=>∀σ' G' H',Ev K B G σ env H G' σ' env' H'->D.bk σ' H'
 |.ct=>∀σ' G' H',Ev K B G σ env H G' σ' env' H'->D.ct σ' H'
 |.ret d=>∀v σ' G' H',Ev K B G σ env H G' σ' env' H'->a9 K G' v d->D.rt v H'
 |.retL ds=>∀a xs σ' G' H',Ev K B G σ env H G' σ' env' H'-> ¬ B a-> ¬ d6 σ' env' a->H' a=some (.lst xs)->G' a=none->B9 K G' xs ds->D.rt (.ref a) H'
def sR(m:Mo Fl):TS:=fun D σ H=>∃G env fl env',Rel K B G σ env H/\m env=some (fl,env')/\Post K B G σ env H env' D fl
theorem Post.after{G G1:Hp}{σ σ1:St}{env a8 env':c7}{H H1:Hp}{D:Ends}{fl:Fl}(k:Post K B G σ env H env' D fl)(ev:Ev K B G σ env H G1 σ1 a8 H1):Post K B G1 σ1 a8 H1 env' D fl:=by
 cases fl with
 |nx=>exact fun σ2 G2 H2 d5=>k σ2 G2 H2 (ev.trans d5)
 |bk=>exact fun σ2 G2 H2 d5=>k σ2 G2 H2 (ev.trans d5)
 |ct=>exact fun σ2 G2 H2 d5=>k σ2 G2 H2 (ev.trans d5)
 |ret d=>exact fun v σ2 G2 H2 d5=>k v σ2 G2 H2 (ev.trans d5)
 |retL d=>exact fun a xs σ2 G2 H2 d5=>k a xs σ2 G2 H2 (ev.trans d5)
end
abbrev ED(X:Cx)(B:OE)(e:Expr)(m:Mo D):Prop:=PE X e (TD X.K B m)
abbrev EL(X:Cx)(B:OE)(e:Expr)(m:Mo (List D)):Prop:=PE X e (TL X.K B m)
abbrev ET(X:Cx)(B:OE)(e:Expr)(m:Mo Bool):Prop:=PT X e (lK X.K B m)
abbrev n9(X:Cx)(B:OE)(es:List Expr)(m:Mo (List Ar)):Prop:=PA X es (sP X.K B m)
abbrev m5(X:Cx)(B:OE)(es:List Expr)(m:Mo (List D)):Prop:=PA X es (sQ X.K B m)
abbrev ES(X:Cx)(B:OE)(s:Stmt)(m:Mo Fl):Prop:=PS X s (sR X.K B m)
abbrev nK(X:Cx)(B:OE)(s:List Stmt)(m:Mo Fl):Prop:=j7 X s (sR X.K B m)
theorem d9{X:Cx}{e:Expr}{t t':TE}(h:PE X e t)(i:∀σ H Q,t' σ H Q->t σ H Q):PE X e t':=fun pins s σ H Q I q=>h pins s σ H Q I (i σ H Q q)
theorem jY{X:Cx}{e:Expr}{t t':TT}(h:PT X e t)(i:∀σ H Q,t' σ H Q->t σ H Q):PT X e t':=fun pins s σ H Q I q=>h pins s σ H Q I (i σ H Q q)
theorem pw_imp{X:Cx}{e:Expr}{t t':TT}(h:PW X e t)(i:∀σ H Q,t' σ H Q->t σ H Q):PW X e t':=fun wh pins s σ H Q I q=>h wh pins s σ H Q I (i σ H Q q)
theorem lL{X:Cx}{e:List Expr}{t t':TA}(h:PA X e t)(i:∀σ H Q,t' σ H Q->t σ H Q):PA X e t':=fun pos pins s σ H Q I q=>h pos pins s σ H Q I (i σ H Q q)
theorem iB{X:Cx}{e:Stmt}{t t':TS}(h:PS X e t)(i:∀D σ H,t' D σ H->t D σ H):PS X e t':=fun pins s σ H D I q=>h pins s σ H D I (i D σ H q)
theorem jL{X:Cx}{e:List Stmt}{t t':TS}(h:j7 X e t)(i:∀D σ H,t' D σ H->t D σ H):j7 X e t':=fun pins s σ H D I q=>h pins s σ H D I (i D σ H q)
section
variable{K:Qq}{B:OE}{G G':Hp}{σ σ':St}{env env':c7}{H H':Hp}
theorem Rel.gnone(r:Rel K B G σ env H){p:Addr}(h:H p=none):G p=none:=by
 cases e:G p with
 |none=>rfl
 |some o=>rw[r.sub p o e]at h;cases h
theorem Rel.unowned(r:Rel K B G σ env H){p:Addr}(h:H p=none):¬ d6 σ env p:=by
 rintro⟨i,w,ds,e1,e2,e3⟩;obtain⟨a,xs,e4,e5,_⟩:=r.own i w ds e1 e2;rw[e3]at e4;cases e4;rw[h]at e5;cases e5
theorem Cf{G:Hp}{p:Addr}{o:HO}(h:∀b o,G b=some o->NT o)(no:NT o):∀b u,upd G p o b=some u->NT u:=fun b u e=>by
 by_cases hb:b=p
 ·subst hb;rw[D9]at e;cases e;exact no
 ·rw[C4 hb]at e;exact h b u e
theorem Rel.alloc(r:Rel K B G σ env H){p:Addr}{o:HO}(h:H p=none)(no:NT o:=by intro _ z;cases z):Ev K B G σ env H (upd G p o) σ env (upd H p o):=by
 have gp:=r.gnone h
 refine⟨⟨fun b u e=>?_,r.len,fun i d e=>?_,fun i w ds e1 e2=>?_,r.inj,r.fresh,fun b e=>?_,r.tabs.upd no (fun φ z=>by rw[h]at z;cases z),Cf r.gnt no⟩,Le.upd gp,fun b u _ _ e=>?_,fun b e=>?_,fun b e _ g=>?_,fun a z=>.inl z,fun i w e hp=>⟨rfl,w,e,hp⟩,rfl⟩
 ·by_cases hb:b=p
  ·subst hb;rw[D9]at e ⊢;exact e
  ·rw[C4 hb]at e ⊢;exact r.sub b u e
 ·obtain⟨v,e1,e2⟩:=r.dat i d e
  exact⟨v,e1,a9.mono (Le.upd gp) d e2⟩
 ·obtain⟨a,xs,e3,e4,e5,e6⟩:=r.own i w ds e1 e2
  have ha:a≠p:=J5 e4 h
  exact⟨a,xs,e3,by rw[C4 ha];exact e4,e5.mono (Le.upd gp),by rw[C4 ha];exact e6⟩
 ·by_cases hb:b=p
  ·subst hb;rw[D9];simp
  ·rw[C4 hb];exact r.old b e
 ·rw[C4 (J5 e h)];exact e
 ·by_cases hb:b=p
  ·subst hb;rw[D9];simp
  ·rw[C4 hb];exact e
 ·have hb:b≠p:=fun z=>e (z ▸ h)
  rw[C4 hb];exact g
theorem Rel.allocM(r:Rel K B G σ env H){p:Addr}{o:HO}(h:H p=none)(no:NT o:=by intro _ z;cases z):Ev K B G σ env H G σ env (upd H p o):=by
 refine⟨⟨fun b u e=>?_,r.len,r.dat,fun i w ds e1 e2=>?_,r.inj,r.fresh,fun b e=>?_,r.tabs.upd no (fun φ z=>by rw[h]at z;cases z),r.gnt⟩,Le.refl,fun b u _ _ e=>?_,fun b e=>?_,fun b e _ g=>g,fun a z=>.inl z,fun i w e hp=>⟨rfl,w,e,hp⟩,rfl⟩
 ·rw[C4 (J5 (r.sub b u e) h)];exact r.sub b u e
 ·obtain⟨a,xs,e3,e4,e5,e6⟩:=r.own i w ds e1 e2
  exact⟨a,xs,e3,by rw[C4 (J5 e4 h)];exact e4,e5,e6⟩
 ·by_cases hb:b=p
  ·subst hb;rw[D9];simp
  ·rw[C4 hb];exact r.old b e
 ·rw[C4 (J5 e h)];exact e
 ·by_cases hb:b=p
  ·subst hb;rw[D9];simp
  ·rw[C4 hb];exact e
theorem Ev.frz{a:Addr}{xs:List V}(v:Ev K B G σ env H G' σ' env' H')(ha:H a=none)(no:¬ d6 σ' env' a)(h':H' a=some (.lst xs))(g':G' a=none):
  Ev K B G σ env H (upd G' a (.lst xs)) σ' env' H':=by
 refine⟨⟨fun b u e=>?_,v.rel.len,fun i d e=>?_,fun i w ds e1 e2=>?_,v.rel.inj,v.rel.fresh,v.rel.old,v.rel.tabs,Cf v.rel.gnt gL⟩,v.same.trans (Le.upd g'),v.keep,v.live,fun b e n g=>?_,v.sub,v.par,v.slen⟩
 ·by_cases hb:b=a
  ·subst hb;rw[D9]at e;cases e;exact h'
  ·rw[C4 hb]at e;exact v.rel.sub b u e
 ·obtain⟨x,e1,e2⟩:=v.rel.dat i d e
  exact⟨x,e1,a9.mono (Le.upd g') d e2⟩
 ·obtain⟨p,ys,e3,e4,e5,e6⟩:=v.rel.own i w ds e1 e2
  have hp:p≠a:=fun z=>no ⟨i,w,ds,e1,e2,by rw[←z];exact e3⟩
  exact⟨p,ys,e3,e4,e5.mono (Le.upd g'),by rw[C4 hp];exact e6⟩
 ·have hb:b≠a:=fun z=>e (z ▸ ha)
  rw[C4 hb];exact v.stay b e n g
theorem Em{a:Addr}{xs:List V}{ds:List D}(h:G a=some (.lst xs))(r:B9 K G xs ds):a9 K G (.ref a) (.lst ds):=by
 simp only[a9];exact⟨a,xs,rfl,.inl (.inl h),r⟩
theorem BL{a:Addr}{xs:List V}{ds:List D}(h:G a=some (.tup xs))(r:B9 K G xs ds):a9 K G (.ref a) (.tup ds):=by
 simp only[a9];exact⟨a,xs,rfl,.inl h,r⟩
theorem Rel.frzSlotM{i:Nat}{w0:W}{m:Mu}{d:D}(r:Rel K B G σ env H)(e:env[i]? =some w0)(em:w0.mut=some m)(hrep:∀G1 a o,G1 a=some o->kW K G1 o m->a9 K G1 (.ref a) d):
  ∃a o,σ[i]? =some (some (.ref a))/\a9 K (upd G a o) (.ref a) d/\Ev K B G σ env H (upd G a o) σ (env.set i (.dat d)) H:=by
 obtain⟨a,o,e1,e2,e3,e4⟩:=r.own i _ m e em;have rp:a9 K (upd G a o) (.ref a) d:=hrep _ a o D9 (e3.mono (Le.upd e4));have ow:d6 σ env a:=⟨i,_,m,e,em,e1⟩;have hi:i<env.length:=(Qy.mp e).1;have ne:∀j w es,(env.set i (.dat d))[j]? =some w->w.mut=some es->j≠i/\env[j]? =some w:=fun j w es q1 q2=>by
  by_cases hj:j=i
  ·subst hj;rw[Zw hi]at q1;cases q1;cases q2
  ·rw[Qp (Qa hj)]at q1;exact⟨hj,q1⟩
 refine⟨a,o,e1,rp,⟨⟨fun b u q=>?_,by rw[Zp];exact r.len,fun j d q=>?_,fun j w es q1 q2=>?_,fun j k w w' es fs b q1 q2 q3 q4 q5 q6=>?_,fun j w b q1 qo q2=>?_,r.old,r.tabs,Cf r.gnt e3.nt⟩,Le.upd e4,fun b o _ _ q=>q,fun b q=>q,fun b q n g=>?_,fun b z=>?_,fun j w q qp=>?_,rfl⟩⟩
 ·by_cases hb:b=a
  ·subst hb;rw[D9]at q;cases q;exact e2
  ·rw[C4 hb]at q;exact r.sub b u q
 ·by_cases hj:j=i
  ·subst hj;rw[Zw hi]at q;cases q;exact⟨_,e1,rp⟩
  ·rw[Qp (Qa hj)]at q
   obtain⟨x,q1,q2⟩:=r.dat j d q;exact⟨x,q1,a9.mono (Le.upd e4) d q2⟩
 ·obtain⟨hj,q⟩:=ne j w es q1 q2
  obtain⟨p,ys,e3',e4',e5',e6'⟩:=r.own j w es q q2;have hp:p≠a:=fun z=>hj (r.inj j i w _ es m a q q2 e em (by rw[e3',z]) e1)
  exact⟨p,ys,e3',e4',e5'.mono (Le.upd e4),by rw[C4 hp];exact e6'⟩
 ·exact r.inj j k w w' es fs b (ne j w es q1 q2).2 q2 (ne k w' fs q3 q4).2 q4 q5 q6
 ·obtain⟨es,hm⟩:=kY qo
  exact r.fresh j w b (ne j _ es q1 hm).2 qo q2
 ·have hb:b≠a:=fun z=>n (z ▸ ow)
  rw[C4 hb];exact g
 ·obtain⟨j,w,es,q1,q2,q3⟩:=z
  exact .inl ⟨j,w,es,(ne j w es q1 q2).2,q2,q3⟩
 ·obtain⟨es,hm⟩:=kC qp
  exact⟨rfl,w,(ne j _ es q hm).2,qp⟩
theorem Rel.frzSlot{i:Nat}{ds:List D}(r:Rel K B G σ env H)(e:env[i]? =some (.own ds)):
  ∃a o,σ[i]? =some (some (.ref a))/\a9 K (upd G a o) (.ref a) (.lst ds)/\Ev K B G σ env H (upd G a o) σ (env.set i (.dat (.lst ds))) H:=
 r.frzSlotM (m:=.l ds) e rfl fun G1 a o h ⟨xs,z,q⟩=>by subst z;exact Em h q
theorem Rel.frzSlotD{i:Nat}{ks:OO}{vs:List D}(r:Rel K B G σ env H)(e:env[i]? =some (.ownD ks vs)):
  ∃a o,σ[i]? =some (some (.ref a))/\a9 K (upd G a o) (.ref a) (.dct ks vs)/\Ev K B G σ env H (upd G a o) σ (env.set i (.dat (.dct ks vs))) H:=
 r.frzSlotM (m:=.d ks vs) e rfl fun G1 a o h ⟨kvs,z,q1,q2⟩=>by subst z;simp only[a9];exact⟨a,kvs,rfl,h,q1,q2⟩
theorem Rel.frzSlotX{i:Nat}{ks:List KX}{vs:List D}(r:Rel K B G σ env H)(e:env[i]? =some (.ownX ks vs)):
  ∃a o,σ[i]? =some (some (.ref a))/\a9 K (upd G a o) (.ref a) (.dcx ks vs)/\Ev K B G σ env H (upd G a o) σ (env.set i (.dat (.dcx ks vs))) H:=
 r.frzSlotM (m:=.x ks vs) e rfl fun G1 a o h ⟨es,ep,xs,z,q1,q2,q3⟩=>by subst z;simp only[a9];exact⟨a,es,ep,xs,rfl,h,q1,q2,q3⟩
end
def A0(i:Nat):Mo D:=fun env=>match env[i]? with
 |some (.dat d)=>some (d,env)
 |some (.own ds)=>some (.lst ds,env.set i (.dat (.lst ds)))
 |some (.ownD ks vs)=>some (.dct ks vs,env.set i (.dat (.dct ks vs)))
 |some (.ownX ks vs)=>some (.dcx ks vs,env.set i (.dat (.dcx ks vs)))
 |_=>none
def mC(d:D):Mo D:=fun env=>some (d,env)
section
variable{X:Cx}{B:OE}{pos:Pos}
theorem B3{i:Nat}{x:Str}(h:PE X (.Name x pos) (O9 i)):ED X B (.Name x pos) (A0 i):=by
 refine d9 h fun σ H Q q=>?_
 obtain⟨G,env,d,env',r,e,k⟩:=q;unfold A0 at e;split at e
 ·rename_i d' e1
  cases e;obtain⟨v,e2,e3⟩:=r.dat i _ e1;exact⟨v,e2,k v G H (.refl r) e3⟩
 ·rename_i ds e1
  cases e;obtain⟨a,xs,e2,e3,e4⟩:=r.frzSlot e1;exact⟨_,e2,k _ _ H e4 e3⟩
 ·rename_i ks vs e1
  cases e;obtain⟨a,xs,e2,e3,e4⟩:=r.frzSlotD e1;exact⟨_,e2,k _ _ H e4 e3⟩
 ·rename_i ks vs e1
  cases e;obtain⟨a,xs,e2,e3,e4⟩:=r.frzSlotX e1;exact⟨_,e2,k _ _ H e4 e3⟩
 ·cases e
theorem By{e:Expr}{v:V}{d:D}(h:PE X e (tC v))(hd:∀K G,a9 K G v d):ED X B e (mC d):=by
 refine d9 h fun σ H Q q=>?_
 obtain⟨G,env,d',env',r,e,k⟩:=q;cases e;exact k v G H (.refl r) (hd _ _)
theorem D2{i:Int}{j:Nat}:ED X B (.Constant (.int i) j pos) (mC (.int i)):=By OM fun _ _=>by simp only[a9]
theorem Q5{b:Bool}{j:Nat}:ED X B (.Constant (.bool b) j pos) (mC (.bl b)):=By ON fun _ _=>by simp only[a9]
theorem Cg{j:Nat}:ED X B (.Constant .none j pos) (mC .non):=By Hw fun _ _=>by simp only[a9]
theorem B8{x:Str}{j:Nat}(hx:x.length≤1000):ED X B (.Constant (.str x) j pos) (mC (.str x)):=By Hx fun _ _=>by simp only[a9];exact⟨trivial,Ju (Cb hx)⟩
theorem QQ{x:Str}{i:Int}{t:Tok}(hg:Gl X x)(hm:X.mg x=some (.int i t))(hd:(x==("__debug__":Str))=false:=by decide):ED X B (.Name x pos) (mC (.int i)):=
 By (V4 (v:=.int i) hg hm ⟨t,rfl⟩ hd) fun _ _=>by simp only[a9]
def C7(f:D->D->Option D)(ma mb:Mo D):Mo D:=fun env=>(ma env).bind fun p=>(mb p.2).bind fun q=>(f p.1 q.1).map fun d=>(d,q.2)
def jZ(X:Cx)(B:OE)(r:R2)(f:D->D->Option D):Prop:=
 ∀(G:Hp) (σ:St) (env:c7) (H:Hp) (x y:V) (a b c:D) (Q:VK),Rel X.K B G σ env H->a9 X.K G x a->a9 X.K G y b->f a b=some c->
  (∀v G' H',Ev X.K B G σ env H G' σ env H'->a9 X.K G' v c->Q v H')->r x y H Q
theorem Ch{r:R2}{f:D->D->Option D}{ma mb:Mo D}(o:jZ X B r f):∀σ H Q,TD X.K B (C7 f ma mb) σ H Q->qC r (TD X.K B ma) (TD X.K B mb) σ H Q:=by
 rintro σ H Q ⟨G,env,d,env',rl,e,k⟩;unfold C7 at e;cases ea:ma env with
 |none=>rw[ea]at e;cases e
 |some p=>
  obtain⟨d1,a8⟩:=p;rw[ea]at e;simp only[Qs]at e;cases eb:mb a8 with
  |none=>rw[eb]at e;cases e
  |some p=>
   obtain⟨d2,eW⟩:=p;rw[eb]at e;simp only[Qs]at e;cases ef:f d1 d2 with
   |none=>rw[ef]at e;cases e
   |some c=>
    rw[ef]at e;cases e;refine⟨G,env,d1,a8,rl,ea,fun v1 G1 H1 v r1=>⟨G1,a8,d2,_,v.rel,eb,fun v2 G2 H2 v' r2=>?_⟩⟩
    exact o G2 σ _ H2 v1 v2 d1 d2 _ Q v'.rel (a9.mono v'.same _ r1) r2 ef fun v3 G3 H3 v3' r3=>k v3 G3 H3 ((v.trans v').trans v3') r3
theorem M9{op:Operator}{r:R2}{f:D->D->Option D}{a b:Expr}{ma mb:Mo D}(ho:i5 X (binaryOp op) r)(o:jZ X B r f)(ha:ED X B a ma)(hb:ED X B b mb):ED X B (.BinOp a op b pos) (C7 f ma mb):=
 d9 (IM ho ha hb) (Ch o)
theorem R8{op:CmpOp}{r:R2}{f:D->D->Option D}{a b:Expr}{ma mb:Mo D}(ho:i5 X (compareOp op) r)(o:jZ X B r f)(ha:ED X B a ma)(hb:ED X B b mb)(hm:behindInMarks op b=false):ED X B (.Compare a [op] [b] pos) (C7 f ma mb):=
 d9 (PR ho ha hb hm) (Ch o)
def fI(C:Int->Int->Bool)(g:Int->Int->D):D->D->Option D
 |.int i,.int j=>if C i j then some (g i j)else none
 |_,_=>none
theorem JF{C:Int->Int->Prop}{c:Int->Int->Bool}{g:Int->Int->V}{g':Int->Int->D}(hc:∀i j,c i j=true->C i j)(hg:∀K G i j,a9 K G (g i j) (g' i j)):jZ X B (rI C g) (fI c g'):=by
 intro G σ env H x y a b d Q rl ra rb e k;cases a<;>cases b<;>first|(exact absurd (show(none:Option D)=some d from e) (by simp))|skip
 rename_i i j;simp only[a9]at ra rb;subst ra rb;simp only[fI]at e;split at e
 ·rename_i h
  cases e;exact⟨i,j,rfl,rfl,hc i j h,k _ G H (.refl rl) (hg _ _ i j)⟩
 ·cases e
theorem Ci{g:Int->Int->V}{g':Int->Int->D}(hg:∀K G i j,a9 K G (g i j) (g' i j)):jZ X B (mX g) (fI (fun _ _=>true) g'):=by
 intro G σ env H x y a b d Q rl ra rb e k;cases a<;>cases b<;>first|(exact absurd (show(none:Option D)=some d from e) (by simp))|skip
 rename_i i j;simp only[a9]at ra rb;subst ra rb;simp only[fI,Zd]at e;cases e;exact⟨i,j,rfl,rfl,k _ G H (.refl rl) (hg _ _ i j)⟩
theorem i5.or{f:Value->Value->Sem Value}{r r':R2}(h:i5 X f r)(h':i5 X f r'):i5 X f (fun x y H Q=>r x y H Q\/r' x y H Q):=by
 intro pins s σ H x y v u Q I rx ry q
 rcases q with q|q
 ·exact h pins s σ H x y v u Q I rx ry q
 ·exact h' pins s σ H x y v u Q I rx ry q
def rV(f g:D->D->Option D):D->D->Option D:=fun a b=>match f a b with
 |some c=>some c
 |none=>g a b
theorem jZ.or{r r':R2}{f g:D->D->Option D}(h:jZ X B r f)(h':jZ X B r' g):jZ X B (fun x y H Q=>r x y H Q\/r' x y H Q) (rV f g):=by
 intro G σ env H x y a b d Q rl ra rb e k;unfold rV at e;split at e
 ·rename_i c ec
  cases e;exact .inl (h G σ env H x y a b _ Q rl ra rb ec k)
 ·exact .inr (h' G σ env H x y a b d Q rl ra rb e k)
def JG(_ j:Int):Bool:=decide (0<j)&&decide (j<1073741824)
def AI:=fI (fun _ _=>true) fun i j=>.int (i-j)
def BM:=fI JG fun i j=>.int (i/j)
def X7:=fI (fun _ j=>decide (0<j)) fun i j=>.int (i%j)
def En:=fI (fun _ _=>true) fun i j=>.int (i+j)
def qE:=fI (fun _ _=>true) fun i j=>.bl (decide (i≤j))
def sS:=fI (fun _ _=>true) fun i j=>.bl (decide (j≤i))
theorem QR:jZ X B (mX fun i j=>.int (i-j)) AI:=Ci fun _ _ _ _=>by simp only[a9]
theorem JH:jZ X B (mX fun i j=>.int (i+j)) En:=Ci fun _ _ _ _=>by simp only[a9]
theorem JI:jZ X B (rI ER fun i j=>.int (i/j)) BM:=JF (fun i j h=>by simpa [ER,JG]using h) fun _ _ _ _=>by simp only[a9]
theorem Eo:jZ X B (rI (fun _ j=>0<j) fun i j=>.int (i%j)) X7:=JF (fun i j h=>by simpa using h) fun _ _ _ _=>by simp only[a9]
theorem Ep:jZ X B (mX fun i j=>.bl (decide (i≤j))) qE:=Ci fun _ _ _ _=>by simp only[a9]
theorem QS:jZ X B (mX fun i j=>.bl (decide (j≤i))) sS:=Ci fun _ _ _ _=>by simp only[a9]
end
section
variable{X:Cx}{B:OE}{pos:Pos}{a b c e:Expr}{ma mb mc:Mo D}{ta tb:Mo Bool}
theorem TD.bind{K:Qq}{m:Mo D}{σ:St}{H:Hp}{Q:VK}{G:Hp}{env env':c7}{d:D}(r:Rel K B G σ env H)(e:m env=some (d,env'))
  (k:∀v G' H',Ev K B G σ env H G' σ env' H'->a9 K G' v d->Q v H'):TD K B m σ H Q:=⟨G,env,d,env',r,e,k⟩
def t7:D×c7->Option (Bool×c7)
 |(.bl b,e)=>some (b,e)
 |_=>none
def mT(m:Mo D):Mo Bool:=fun env=>(m env).bind t7
theorem Er{t:TE}{m:Mo D}(i:∀σ H Q,TD X.K B m σ H Q->t σ H Q)(mono:True):∀σ H Q,lK X.K B (mT m) σ H Q->(fun σ H (Q:Bool->Hp->Prop)=>t σ H fun x H'=>∃k,x=.bl k/\Q k H') σ H Q:=by
 rintro σ H Q ⟨G,env,b,env',rl,e,k⟩;unfold mT at e;cases em:m env with
 |none=>rw[em]at e;cases e
 |some p=>
  obtain⟨d,a8⟩:=p;rw[em]at e;simp only[Qs]at e;cases d<;>first|(exact absurd (show(none:Option (Bool×c7))=some (b,env')from e) (by simp))|skip
  cases e;refine i σ H _ (.bind rl em fun v G' H' ev r=>?_)
  simp only[a9]at r;exact⟨_,r,k G' H' ev⟩
theorem K9(h:ED X B e ma)(he:∀whole,isTrue e X.env whole=(do let v←whole;standAt e.pos;holding [v] (truthy v)):=by intro _;rfl):ET X B e (mT ma):=
 jY (IA h he) (Er (fun _ _ _ q=>q) trivial)
theorem L4{op:CmpOp}{r:R2}{f:D->D->Option D}(ho:i5 X (compareOp op) r)(o:jZ X B r f)(ha:ED X B a ma)(hb:ED X B b mb)(hm:behindInMarks op b=false):ET X B (.Compare a [op] [b] pos) (mT (C7 f ma mb)):=
 jY (PU ho ha hb hm) (Er (Ch o) trivial)
def L5(t:Mo Bool):Mo Bool:=fun env=>(t env).map fun p=>(!p.1,p.2)
theorem L9(h:ET X B a ta):ET X B (.UnaryOp .Not a pos) (L5 ta):=by
 refine jY (OS h) ?_
 rintro σ H Q ⟨G,env,b,env',rl,e,k⟩;unfold L5 at e;cases em:ta env with
 |none=>rw[em]at e;cases e
 |some p=>rw[em]at e;cases e;exact⟨G,env,_,_,rl,em,k⟩
def T0(t u:Mo Bool):Mo Bool:=fun env=>(t env).bind fun p=>if p.1 then some (true,p.2)else u p.2
theorem QT:∀σ H Q,lK X.K B (T0 ta tb) σ H Q->sJ (lK X.K B ta) (lK X.K B tb) σ H Q:=by
 rintro σ H Q ⟨G,env,b,env',rl,e,k⟩;unfold T0 at e;cases em:ta env with
 |none=>rw[em]at e;cases e
 |some p=>
  obtain⟨b1,a8⟩:=p;rw[em]at e;simp only[Qs]at e;refine⟨G,env,b1,a8,rl,em,fun G1 H1 ev=>?_⟩
  cases b1 with
  |false=>
   simp only[Zz,Yz]at e ⊢;exact⟨G1,a8,b,env',ev.rel,e,fun G2 H2 d5=>k G2 H2 (ev.trans d5)⟩
  |true=>
   simp only[Zd]at e ⊢;cases e;exact k G1 H1 ev
abbrev EW(X:Cx)(B:OE)(e:Expr)(m:Mo Bool):Prop:=PW X e (lK X.K B m)
variable{rest:List Expr}
theorem X8(h:ET X B a ta):EW X B (.BoolOp .Or [a] pos) ta:=OQ h
theorem X9(h:ET X B a ta)(h2:EW X B (.BoolOp .Or (b::rest) pos) tb):EW X B (.BoolOp .Or (a::b::rest) pos) (T0 ta tb):=pw_imp (OR h h2) QT
theorem Y0(h:EW X B e ta):ET X B e ta:=h.pt
def T1(m n:Mo D):Mo D:=fun env=>(m env).bind fun p=>match p.1 with
 |.bl true=>n p.2
 |.bl false=>some (.bl false,p.2)
 |_=>none
def Es(m n:Mo D):Mo D:=fun env=>(m env).bind fun p=>match p.1 with
 |.bl false=>n p.2
 |.bl true=>some (.bl true,p.2)
 |_=>none
theorem Y1{op}(h:ED X B a ma):ED X B (.BoolOp op [a] pos) ma:=OY h
theorem Y2(ha:ED X B a ma)(hb:ED X B (.BoolOp .And (b::rest) pos) mb):ED X B (.BoolOp .And (a::b::rest) pos) (T1 ma mb):=by
 refine d9 (OZ ha hb) ?_
 rintro σ H Q ⟨G,env,d,env',rl,e,k⟩;unfold T1 at e;cases em:ma env with
 |none=>rw[em]at e;cases e
 |some p=>
  obtain⟨d1,a8⟩:=p;rw[em]at e;simp only[Qs]at e;refine .bind rl em fun v G1 H1 ev r1=>?_
  split at e
  ·simp only[a9]at r1
   exact⟨true,r1,by simp only[Zd];exact .bind ev.rel e fun v2 G2 H2 d5 r2=>k v2 G2 H2 (ev.trans d5) r2⟩
  ·simp only[a9]at r1
   cases e;exact⟨false,r1,by simp only[Zz,Yz];exact k _ G1 H1 ev (by simp only[a9])⟩
  ·cases e
theorem JJ(ha:ED X B a ma)(hb:ED X B (.BoolOp .Or (b::rest) pos) mb):ED X B (.BoolOp .Or (a::b::rest) pos) (Es ma mb):=by
 refine d9 (IB ha hb) ?_
 rintro σ H Q ⟨G,env,d,env',rl,e,k⟩;unfold Es at e;cases em:ma env with
 |none=>rw[em]at e;cases e
 |some p=>
  obtain⟨d1,a8⟩:=p;rw[em]at e;simp only[Qs]at e;refine .bind rl em fun v G1 H1 ev r1=>?_
  split at e
  ·simp only[a9]at r1
   exact⟨false,r1,by simp only[Zz,Yz];exact .bind ev.rel e fun v2 G2 H2 d5 r2=>k v2 G2 H2 (ev.trans d5) r2⟩
  ·simp only[a9]at r1
   cases e;exact⟨true,r1,by simp only[Zd];exact k _ G1 H1 ev (by simp only[a9])⟩
  ·cases e
def Et(m:Mo D):Mo D:=fun env=>(m env).bind fun p=>match p.1 with
 |.bl b=>some (.bl (!b),p.2)
 |_=>none
theorem JK(ha:ED X B a ma):ED X B (.UnaryOp .Not a pos) (Et ma):=by
 refine d9 (Oa ha) ?_
 rintro σ H Q ⟨G,env,d,env',rl,e,k⟩;unfold Et at e;cases em:ma env with
 |none=>rw[em]at e;cases e
 |some p=>
  obtain⟨d1,a8⟩:=p;rw[em]at e;simp only[Qs]at e;refine .bind rl em fun v G1 H1 ev r1=>?_
  split at e
  ·rename_i b1
   simp only[a9]at r1;cases e;exact⟨b1,r1,k _ G1 H1 ev (by simp only[a9])⟩
  ·cases e
def Bz(m:Mo D):Mo D:=fun env=>(m env).bind fun p=>match p.1 with
 |.int b=>some (.int (-b),p.2)
 |_=>none
theorem Eu(ha:ED X B a ma):ED X B (.UnaryOp .USub a pos) (Bz ma):=by
 refine d9 (PF PM ha) ?_
 rintro σ H Q ⟨G,env,d,env',rl,e,k⟩;unfold Bz at e;cases em:ma env with
 |none=>rw[em]at e;cases e
 |some p=>
  obtain⟨d1,a8⟩:=p;rw[em]at e;simp only[Qs]at e;refine .bind rl em fun v G1 H1 ev r1=>?_
  split at e
  ·rename_i b1
   simp only[a9]at r1;cases e;exact⟨b1,r1,k _ G1 H1 ev (by simp only[a9])⟩
  ·cases e
def rW(t:Mo Bool)(m n:Mo D):Mo D:=fun env=>(t env).bind fun p=>if p.1 then m p.2 else n p.2
theorem QU(hc:ET X B c ta)(ha:ED X B a ma)(hb:ED X B b mb):ED X B (.IfExp c a b pos) (rW ta ma mb):=by
 refine d9 (IC hc ha hb) ?_
 rintro σ H Q ⟨G,env,d,env',rl,e,k⟩;unfold rW at e;cases em:ta env with
 |none=>rw[em]at e;cases e
 |some p=>
  obtain⟨b1,a8⟩:=p;rw[em]at e;simp only[Qs]at e;refine⟨G,env,b1,a8,rl,em,fun G1 H1 ev=>?_⟩
  cases b1 with
  |true=>
   simp only[Zd]at e ⊢;exact .bind ev.rel e fun v2 G2 H2 d5 r2=>k v2 G2 H2 (ev.trans d5) r2
  |false=>
   simp only[Zz,Yz]at e ⊢;exact .bind ev.rel e fun v2 G2 H2 d5 r2=>k v2 G2 H2 (ev.trans d5) r2
def BN(f g:D->D->Option D)(ma mb mc:Mo D):Mo D:=fun env=>(ma env).bind fun p=>(mb p.2).bind fun q=>match f p.1 q.1 with
 |some (.bl true)=>(mc q.2).bind fun r=>(g q.1 r.1).map fun d=>(d,r.2)
 |some (.bl false)=>some (.bl false,q.2)
 |_=>none
theorem JL{r r':R2}{f g:D->D->Option D}(o:jZ X B r f)(o':jZ X B r' g):∀σ H Q,TD X.K B (BN f g ma mb mc) σ H Q->EY r r' (TD X.K B ma) (TD X.K B mb) (TD X.K B mc) σ H Q:=by
 rintro σ H Q ⟨G,env,d,env',rl,e,k⟩;unfold BN at e;cases ea:ma env with
 |none=>rw[ea]at e;cases e
 |some p=>
  obtain⟨d1,a8⟩:=p;rw[ea]at e;simp only[Qs]at e;cases eb:mb a8 with
  |none=>rw[eb]at e;cases e
  |some p=>
   obtain⟨d2,eW⟩:=p;rw[eb]at e;simp only[Qs]at e;refine .bind rl ea fun v1 G1 H1 fR r1=>.bind fR.rel eb fun v2 G2 H2 d5 r2=>?_
   split at e
   ·rename_i ef
    refine o G2 σ _ H2 v1 v2 d1 d2 _ _ d5.rel (a9.mono d5.same _ r1) r2 ef fun v3 G3 H3 iS r3=>?_
    simp only[a9]at r3;refine⟨true,r3,?_⟩;simp only[Zd];cases ec:mc eW with
    |none=>rw[ec]at e;cases e
    |some p=>
     obtain⟨d3,iT⟩:=p;rw[ec]at e;simp only[Qs]at e;cases eg:g d2 d3 with
     |none=>rw[eg]at e;cases e
     |some d4=>
      rw[eg]at e;cases e;refine .bind iS.rel ec fun v4 G4 H4 kI r4=>?_
      exact o' G4 σ _ H4 v2 v4 d2 d3 _ Q kI.rel (a9.mono kI.same _ (a9.mono iS.same _ r2)) r4 eg fun v5 G5 H5 lC r5=>k v5 G5 H5 ((((fR.trans d5).trans iS).trans kI).trans lC) r5
   ·rename_i ef
    cases e;refine o G2 σ _ H2 v1 v2 d1 d2 _ _ d5.rel (a9.mono d5.same _ r1) r2 ef fun v3 G3 H3 iS r3=>?_
    simp only[a9]at r3;refine⟨false,r3,?_⟩;simp only[Zz,Yz];exact k _ G3 H3 ((fR.trans d5).trans iS) (by simp only[a9])
   ·cases e
theorem QV{op op':CmpOp}{r r':R2}{f g:D->D->Option D}(ho:i5 X (compareOp op) r)(ho':i5 X (compareOp op') r')(o:jZ X B r f)(o':jZ X B r' g)(ha:ED X B a ma)(hb:ED X B b mb)(hc:ED X B c mc)
  (hm:lastMarks [op,op'] [b,c]=false:=by with_unfolding_all rfl):ED X B (.Compare a [op,op'] [b,c] pos) (BN f g ma mb mc):=d9 (PV ho ho' ha hb hc hm) (JL o o')
theorem JM{op op':CmpOp}{r r':R2}{f g:D->D->Option D}(ho:i5 X (compareOp op) r)(ho':i5 X (compareOp op') r')(o:jZ X B r f)(o':jZ X B r' g)(ha:ED X B a ma)(hb:ED X B b mb)(hc:ED X B c mc)
  (hm:lastMarks [op,op'] [b,c]=false:=by with_unfolding_all rfl):ET X B (.Compare a [op,op'] [b,c] pos) (mT (BN f g ma mb mc)):=jY (PX ho ho' ha hb hc hm) (Er (JL o o') trivial)
variable{es:List Expr}{ms:Mo (List D)}{as:Mo (List Ar)}
def C5:Mo (List D):=fun env=>some ([],env)
def B4(m:Mo D)(ms:Mo (List D)):Mo (List D):=fun env=>(m env).bind fun p=>(ms p.2).map fun q=>(p.1::q.1,q.2)
theorem C6:m5 X B [] C5:=by
 refine lL Q3 ?_
 rintro σ H Q ⟨G,env,d,env',rl,e,k⟩;cases e;exact k [] G H (.refl rl) eY
theorem B5(ha:ED X B e ma)(hr:m5 X B es ms)(hs:starEach (e::es) X.env=(false,eval e X.env)::starEach es X.env:=by rfl):m5 X B (e::es) (B4 ma ms):=by
 refine lL (M7 ha hr hs) ?_
 rintro σ H Q ⟨G,env,d,env',rl,e,k⟩;unfold B4 at e;cases ea:ma env with
 |none=>rw[ea]at e;cases e
 |some p=>
  obtain⟨d1,a8⟩:=p;rw[ea]at e;simp only[Qs]at e;cases eb:ms a8 with
  |none=>rw[eb]at e;cases e
  |some p=>
   obtain⟨d2,eW⟩:=p;rw[eb]at e;cases e;exact .bind rl ea fun v1 G1 H1 fR r1=>⟨G1,a8,d2,_,fR.rel,eb,fun vs G2 H2 d5 r2=>k _ G2 H2 (fR.trans d5) (fB (a9.mono d5.same _ r1) r2)⟩
def C9:Mo (List Ar):=fun env=>some ([],env)
def C1(m:Mo D)(ms:Mo (List Ar)):Mo (List Ar):=fun env=>(m env).bind fun p=>(ms p.2).map fun q=>(.d p.1::q.1,q.2)
theorem D0:n9 X B [] C9:=by
 refine lL Q3 ?_
 rintro σ H Q ⟨G,env,d,env',rl,e,k⟩;cases e;exact k [] G H (.refl rl) (by simp only[gP])
theorem C3(ha:ED X B e ma)(hr:n9 X B es as)(hs:starEach (e::es) X.env=(false,eval e X.env)::starEach es X.env:=by rfl):n9 X B (e::es) (C1 ma as):=by
 refine lL (M7 ha hr hs) ?_
 rintro σ H Q ⟨G,env,d,env',rl,e,k⟩;unfold C1 at e;cases ea:ma env with
 |none=>rw[ea]at e;cases e
 |some p=>
  obtain⟨d1,a8⟩:=p;rw[ea]at e;simp only[Qs]at e;cases eb:as a8 with
  |none=>rw[eb]at e;cases e
  |some p=>
   obtain⟨d2,eW⟩:=p;rw[eb]at e;cases e;exact .bind rl ea fun v1 G1 H1 fR r1=>⟨G1,a8,d2,_,fR.rel,eb,fun vs G2 H2 d5 r2=>k _ G2 H2 (fR.trans d5) (by simp only[gP];exact⟨_,_,rfl,a9.mono d5.same _ r1,r2⟩)⟩
end
section
variable{X:Cx}{B:OE}{pos:Pos}{a b c e:Expr}{ma mb mc:Mo D}{ms:Mo (List D)}{es:List Expr}
theorem C8{α β:Type}{o:Option α}{f:α->Option β}{y:β}(h:o.bind f=some y):∃x,o=some x/\f x=some y:=by
 cases o with
 |none=>cases h
 |some x=>exact⟨x,rfl,h⟩
theorem E8{α β:Type}{o:Option α}{f:α->β}{y:β}(h:o.map f=some y):∃x,o=some x/\f x=y:=by
 cases o with
 |none=>cases h
 |some x=>exact⟨x,rfl,Zs h⟩
def F3(ms:Mo (List D)):Mo D:=fun env=>(ms env).bind fun p=>if p.1.length≤1000 then some (.tup p.1,p.2)else none
theorem F4{x1:Nat}(h:m5 X B es ms):ED X B (.Tuple es x1 pos) (F3 ms):=by
 refine d9 (Po h) ?_
 rintro σ H Q ⟨G,env,d,env',rl,e,k⟩;obtain⟨⟨ds,a8⟩,e1,e2⟩:=C8 e;dsimp only at e2;split at e2
 ·rename_i hl
  cases e2;refine⟨G,env,ds,_,rl,e1,fun vs G1 H1 ev r1=>⟨by rw[r1.length];exact Ju (Cb hl),fun p hp=>?_⟩⟩
  exact k _ _ _ (ev.trans (ev.rel.alloc hp)) (BL D9 (B9.mono (Le.upd (ev.rel.gnone hp)) _ r1))
 ·cases e2
def J7(ms:Mo (List D)):Mo (List D):=fun env=>(ms env).bind fun p=>if p.1.length≤1000 then some p else none
theorem AJ{K:Qq}{G G1:Hp}{σ:St}{env a8:c7}{H H1:Hp}{p:Addr}{xs:List V}{ds:List D}{Q:VK}(ev:Ev K B G σ env H G1 σ a8 H1)(hp:H1 p=none)(r:B9 K G1 xs ds)
  (k:∀a xs G' H',Ev K B G σ env H G' σ a8 H'->H a=none-> ¬ d6 σ a8 a->H' a=some (.lst xs)->G' a=none->B9 K G' xs ds->Q (.ref a) H'):Q (.ref p) (upd H1 p (.lst xs)):=by
 refine k p xs G1 _ (ev.trans (ev.rel.allocM hp)) ?_ (ev.rel.unowned hp) D9 (ev.rel.gnone hp) r;cases h:H p with
 |none=>rfl
 |some o=>exact absurd hp (ev.live p (by rw[h];simp))
theorem L6(h:m5 X B es ms):EL X B (.List es pos) (J7 ms):=by
 refine d9 (Pp h) ?_
 rintro σ H Q ⟨G,env,d,env',rl,e,k⟩;obtain⟨⟨ds,a8⟩,e1,e2⟩:=C8 e;dsimp only at e2;split at e2
 ·rename_i hl
  cases e2;exact⟨G,env,_,_,rl,e1,fun vs G1 H1 ev r1=>⟨by rw[r1.length];exact Ju (Cb hl),fun p hp=>AJ ev hp r1 k⟩⟩
 ·cases e2
def mF(m:Mo (List D)):Mo D:=fun env=>(m env).map fun p=>(.lst p.1,p.2)
theorem E5(h:EL X B e ms):ED X B e (mF ms):=by
 refine d9 h ?_
 rintro σ H Q ⟨G,env,d,env',rl,e,k⟩;obtain⟨⟨ds,a8⟩,e1,e2⟩:=E8 e;cases e2;exact⟨G,env,ds,_,rl,e1,fun a xs G' H' ev ha no h' g' r=>k (.ref a) _ H' (ev.frz ha no h' g') (Em D9 (B9.mono (Le.upd g') ds r))⟩
theorem Ew{K:Qq}{G:Hp}{xs:List V}{ds:List D}{k:Int}{d:D}(r:B9 K G xs ds)(h:mL ds k=some d):∃x,mL xs k=some x/\a9 K G x d:=by
 unfold mL at h ⊢;rw[r.length];obtain⟨j,e1,e2⟩:=C8 h;rw[e1];exact r.get e2
def iR:D->D->Option D
 |.lst ds,.int k=>mL ds k
 |.tup ds,.int k=>mL ds k
 |_,_=>none
theorem QW:jZ X B (sM X.K) iR:=by
 intro G σ env H x y a b d Q rl ra rb e k;cases a<;>cases b<;>first|(exact absurd (show(none:Option D)=some d from e) (by simp))|skip
 ·simp only[a9]at ra rb
  obtain⟨p,xs,e1,q,r⟩:=ra;subst e1 rb;obtain⟨v,e3,e4⟩:=Ew r e;exact .inr (.inl ⟨p,xs,_,v,rfl,rfl,rl.sub.sqT q,e3,k v G H (.refl rl) e4⟩)
 ·simp only[a9]at ra rb
  obtain⟨p,xs,e1,q,r⟩:=ra;subst e1 rb;obtain⟨v,e3,e4⟩:=Ew r e;exact .inl ⟨p,xs,_,v,rfl,rfl,rl.sub.sqL q,e3,k v G H (.refl rl) e4⟩
theorem F6(ha:ED X B a ma)(hb:ED X B b mb)(hs:AH b):ED X B (.Subscript a b pos) (C7 iR ma mb):=d9 (Iq QE ha hb hs) (Ch QW)
def JN(i:Nat)(mb:Mo D):Mo D:=fun env=>(mb env).bind fun p=>((p.2[i]?).bind W.mutL).bind fun ds=>(iR (.lst ds) p.1).map fun d=>(d,p.2)
theorem JO{i:Nat}{x:Str}{p:Pos}(ha:PE X (.Name x p) (O9 i))(hb:ED X B b mb)(hs:AH b)(hr:∀env d env' w ds,mb env=some (d,env')->env'[i]? =some w->w.mut=some ds->∃w0 ds0,env[i]? =some w0/\w0.mut=some ds0):
  ED X B (.Subscript (.Name x p) b pos) (JN i mb):=by
 refine d9 (Iq Iw ha hb hs) ?_
 rintro σ H Q ⟨G,env,d,env',rl,e,k⟩;obtain⟨⟨d1,a8⟩,e1,e2⟩:=C8 e;obtain⟨ds,e3,e4⟩:=C8 e2;obtain⟨w,e5,e6⟩:=C8 e3;obtain⟨d2,e7,e8⟩:=E8 e4;cases e8;obtain⟨w0,ds0,e9,e10⟩:=hr env d1 _ w (.l ds) e1 e5 (W.mutL_of e6);obtain⟨q,xs,h1,_⟩:=rl.own i w0 ds0 e9 e10;refine⟨_,h1,.bind rl e1 fun v G1 H1 ev r1=>?_⟩
 obtain⟨q',ys,h2,h3,h4,h5⟩:=ev.rel.ownL i w ds e5 e6;rw[h1]at h2;cases h2;dsimp only at e7;cases d1<;>first|(exact absurd (show(none:Option D)=some _ from e7) (by simp))|skip
 simp only[a9]at r1;obtain⟨z,h6,h7⟩:=Ew h4 e7;exact⟨q,ys,_,z,rfl,r1,.inl (.inl h3),h6,k z G1 H1 ev h7⟩
def R9(X:Cx)(B:OE)(r:List V->Hp->VK->Prop)(f:List D->Option D):Prop:=
 ∀(G:Hp) (σ:St) (env:c7) (H:Hp) (xs:List V) (ds:List D) (c:D) (Q:VK),Rel X.K B G σ env H->B9 X.K G xs ds->f ds=some c->
  (∀v G' H',Ev X.K B G σ env H G' σ env H'->a9 X.K G' v c->Q v H')->r xs H Q
def iP(f:List D->Option D)(ms:Mo (List D)):Mo D:=fun env=>(ms env).bind fun p=>(f p.1).map fun d=>(d,p.2)
theorem JP{r:List V->Hp->VK->Prop}{f:List D->Option D}(o:R9 X B r f):∀σ H Q,TD X.K B (iP f ms) σ H Q->rS r (sQ X.K B ms) σ H Q:=by
 rintro σ H Q ⟨G,env,d,env',rl,e,k⟩;obtain⟨⟨ds,a8⟩,e1,e2⟩:=C8 e;obtain⟨d1,e3,e4⟩:=E8 e2;cases e4;exact⟨G,env,ds,_,rl,e1,fun vs G1 H1 ev r1=>o G1 σ _ H1 vs ds _ Q ev.rel r1 e3 fun v G2 H2 d5 r2=>k v G2 H2 (ev.trans d5) r2⟩
variable{r:List V->Hp->VK->Prop}{f:List D->Option D}{g:List D->Option (List D)}{id T:String}{x:Str}{p:Pos}
theorem J2(hc:M3 X (.builtin id) r)(o:R9 X B r f)(hg:Gl X x)(hm:X.mg x=none)(hv:bootBuiltins x=some (.builtin id))(ha:m5 X B (e::es) ms)(hn:x≠"__name__":=by decide)(hdb:(x==("__debug__":Str))=false:=by decide)
  (he:starEach (e::es) X.env=(false,eval e X.env)::starEach es X.env:=by rfl)(hpl:(backTo pos (starEach es X.env)).any (·.1)=false:=by rfl):ED X B (.Call (.Name x p) (e::es) [] pos) (iP f ms):=
 d9 (Bx hc hg hm hv ha hn hdb he hpl) (JP o)
theorem U3(hc:M3 X (.type T) r)(o:R9 X B r f)(hg:Gl X x)(hm:X.mg x=none)(hv:bootBuiltins x=some (.type T))(ha:m5 X B (e::es) ms)(hn:x≠"__name__":=by decide)(hdb:(x==("__debug__":Str))=false:=by decide)
  (he:starEach (e::es) X.env=(false,eval e X.env)::starEach es X.env:=by rfl)(hpl:(backTo pos (starEach es X.env)).any (·.1)=false:=by rfl):ED X B (.Call (.Name x p) (e::es) [] pos) (iP f ms):=
 d9 (BH hc hg hm hv ha hn hdb he hpl) (JP o)
theorem Q9{K:Qq}{G:Hp}{xs:List V}{d:D}(h:B9 K G xs [d]):∃x,xs=[x]/\a9 K G x d:=by
 simp only[B9]at h;obtain⟨x,r,e,q,t⟩:=h;subst t;exact⟨x,e,q⟩
theorem Cj{K:Qq}{G:Hp}{xs:List V}{d d':D}(h:B9 K G xs [d,d']):∃x y,xs=[x,y]/\a9 K G x d/\a9 K G y d':=by
 simp only[B9]at h;obtain⟨x,r,e,q,y,r2,e2,q2,t⟩:=h;subst t e2;exact⟨x,y,e,q,q2⟩
def D.items:D->Option (List D)
 |.lst ds=>some ds
 |.tup ds=>some ds
 |_=>none
theorem JQ{K:Qq}{G H:Hp}{v:V}{d:D}{ds:List D}(l:Le G H)(r:a9 K G v d)(h:d.items=some ds):∃a xs,v=.ref a/\(kA K H a xs\/kN K H a xs)/\B9 K G xs ds:=by
 cases d<;>first|(exact absurd (show(none:Option (List D))=some ds from h) (by simp))|skip
 ·cases h;simp only[a9]at r;obtain⟨a,xs,e,q,t⟩:=r;exact⟨a,xs,e,.inr (l.sqT q),t⟩
 ·cases h;simp only[a9]at r;obtain⟨a,xs,e,q,t⟩:=r;exact⟨a,xs,e,.inl (l.sqL q),t⟩
def N0:List D->Option D
 |[d]=>d.items.map fun ds=>.int ds.length
 |_=>none
theorem Ex:R9 X B (fun xs H Q=>∃p ys,xs=[.ref p]/\(kA X.K H p ys\/kN X.K H p ys)/\Q (.int ys.length) H) N0:=by
 intro G σ env H xs ds c Q rl r e k
 match ds,e with
 |[d],e=>
  obtain⟨x,rfl,q⟩:=Q9 r;obtain⟨ds,e1,e2⟩:=E8 e;obtain⟨a,ys,rfl,h1,h2⟩:=JQ rl.sub q e1;exact⟨a,ys,rfl,h1,k _ G H (.refl rl) (by rw[←e2,h2.length];simp only[a9])⟩
def AK:List D->Option D
 |[d]=>d.items.map fun ds=>.tup ds
 |_=>none
theorem QX:R9 X B (fun xs H Q=>∃p ys,xs=[.ref p]/\((kA X.K H p ys/\∀l,H l=none->Q (.ref l) (upd H l (.tup ys)))\/(kN X.K H p ys/\Q (.ref p) H))) AK:=by
 intro G σ env H xs ds c Q rl r e k
 match ds,e with
 |[d],e=>
  obtain⟨x,rfl,q⟩:=Q9 r;obtain⟨ds,e1,e2⟩:=E8 e;subst e2;cases d<;>first|(exact absurd (show(none:Option (List D))=some ds from e1) (by simp))|skip
  ·cases e1
   have q0:=q
   simp only[a9]at q;obtain⟨a,ys,rfl,h1,h2⟩:=q;exact⟨a,ys,rfl,.inr ⟨rl.sub.sqT h1,k _ G H (.refl rl) q0⟩⟩
  ·cases e1
   simp only[a9]at q;obtain⟨a,ys,rfl,h1,h2⟩:=q;exact⟨a,ys,rfl,.inl ⟨rl.sub.sqL h1,fun l hl=>k _ _ _ (rl.alloc hl) (BL D9 (B9.mono (Le.upd (rl.gnone hl)) _ h2))⟩⟩
end
section
variable{K:Qq}{B:OE}{G G1:Hp}{σ σ1:St}{env a8:c7}{H H1:Hp}{i:Nat}
theorem K1{α:Type}{l:List α}{i j:Nat}{a b:α}(h:(l.set i a)[j]? =some b):(j=i/\b=a)\/(j≠i/\l[j]? =some b):=by
 by_cases hj:j=i
 ·subst hj
  have hl:j<l.length:=by
   have:=(Qy.mp h).1;rwa [Zp]at this
  rw[Zw hl]at h;cases h;exact .inl ⟨rfl,rfl⟩
 ·rw[Qp (Qa hj)]at h
  exact .inr ⟨hj,h⟩
theorem BO{α β:Type}{l:List α}{m:List β}{i:Nat}{a b:α}{c:β}(h:(l.set i a)[i]? =some b)(hl:l.length=m.length):(m.set i c)[i]? =some c:=by
 have:=(Qy.mp h).1;rw[Zp]at this;exact Zw (by omega)
theorem Ev.setDat{v:V}{d:D}(ev:Ev K B G σ env H G1 σ1 a8 H1)(r:a9 K G1 v d):Ev K B G σ env H G1 (σ1.set i (some v)) (a8.set i (.dat d)) H1:=by
 have rl:=ev.rel
 have ne:∀(j:Nat) (w:W) (es:Mu),(a8.set i (.dat d))[j]? =some w->w.mut=some es->j≠i/\a8[j]? =some w:=fun j w es q1 q2=>by
  rcases K1 q1 with⟨_,z⟩|z
  ·rw[z]at q2;cases q2
  ·exact z
 refine⟨⟨rl.sub,by rw[Zp,Zp];exact rl.len,fun j d' q=>?_,fun j w es q1 q2=>?_,fun j k w w' es fs b q1 q2 q3 q4 q5 q6=>?_,fun j w b q1 qo q2=>?_,rl.old,rl.tabs,rl.gnt⟩,ev.same,ev.keep,ev.live,ev.stay,fun b z=>?_,fun j w q qp=>?_,by rw[Zp];exact ev.slen⟩
 ·rcases K1 q with⟨z1,z2⟩|⟨z1,z2⟩
  ·subst z1;cases z2
   exact⟨v,BO q rl.len,r⟩
  ·obtain⟨x,q1,q2⟩:=rl.dat j d' z2
   exact⟨x,by rw[Qp (Qa z1)];exact q1,q2⟩
 ·obtain⟨hj,q⟩:=ne j w es q1 q2
  obtain⟨p,ys,e3,e4⟩:=rl.own j w es q q2;exact⟨p,ys,by rw[Qp (Qa hj)];exact e3,e4⟩
 ·obtain⟨h1,h2⟩:=ne j w es q1 q2
  obtain⟨h3,h4⟩:=ne k w' fs q3 q4;rw[Qp (Qa h1)]at q5;rw[Qp (Qa h3)]at q6;exact rl.inj j k w w' es fs b h2 q2 h4 q4 q5 q6
 ·obtain⟨es,hm⟩:=kY qo
  obtain⟨h1,h2⟩:=ne j _ es q1 hm;rw[Qp (Qa h1)]at q2;exact rl.fresh j w b h2 qo q2
 ·obtain⟨j,w,es,q1,q2,q3⟩:=z
  obtain⟨h1,h2⟩:=ne j w es q1 q2;rw[Qp (Qa h1)]at q3;exact ev.sub b ⟨j,w,es,h2,q2,q3⟩
 ·obtain⟨es,hm⟩:=kC qp
  obtain⟨h1,h2⟩:=ne j _ es q hm;obtain⟨h3,h4⟩:=ev.par j w h2 qp;exact⟨by rw[Qp (Qa h1)];exact h3,h4⟩
theorem Ev.setOwnM{a:Addr}{o:HO}{m:Mu}{wn:W}(ev:Ev K B G σ env H G1 σ1 a8 H1)(nb:¬ B a)(ha:H a=none)(no:¬ d6 σ1 a8 a)(h1:H1 a=some o)(g1:G1 a=none)(r:kW K G1 o m)(wm:wn.mut=some m)(wo:wn.isPar=false):
  Ev K B G σ env H G1 (σ1.set i (some (.ref a))) (a8.set i wn) H1:=by
 have rl:=ev.rel
 refine⟨⟨rl.sub,by rw[Zp,Zp];exact rl.len,fun j d' q=>?_,fun j w es q1 q2=>?_,fun j k w w' es fs b q1 q2 q3 q4 q5 q6=>?_,fun j w b q1 qo q2=>?_,rl.old,rl.tabs,rl.gnt⟩,ev.same,ev.keep,ev.live,ev.stay,fun b z=>?_,fun j w q qp=>?_,by rw[Zp];exact ev.slen⟩
 ·rcases K1 q with⟨z1,z2⟩|⟨z1,z2⟩
  ·rw[←z2]at wm;cases wm
  ·obtain⟨x,q1,q2⟩:=rl.dat j d' z2
   exact⟨x,by rw[Qp (Qa z1)];exact q1,q2⟩
 ·rcases K1 q1 with⟨z1,z2⟩|⟨z1,z2⟩
  ·subst z1 z2;rw[wm]at q2;cases q2
   exact⟨a,o,BO q1 rl.len,h1,r,g1⟩
  ·obtain⟨p,ys,e3,e4⟩:=rl.own j w es z2 q2
   exact⟨p,ys,by rw[Qp (Qa z1)];exact e3,e4⟩
 ·rcases K1 q1 with⟨z1,z2⟩|⟨z1,z2⟩
  ·rcases K1 q3 with⟨y1,y2⟩|⟨y1,y2⟩
   ·rw[z1,y1]
   ·subst z1
    rw[BO q1 rl.len]at q5;cases q5;rw[Qp (Qa y1)]at q6;exact absurd ⟨k,w',fs,y2,q4,q6⟩ no
  ·rw[Qp (Qa z1)]at q5
   rcases K1 q3 with⟨y1,y2⟩|⟨y1,y2⟩
   ·subst y1
    rw[BO q3 rl.len]at q6;cases q6;exact absurd ⟨j,w,es,z2,q2,q5⟩ no
   ·rw[Qp (Qa y1)]at q6
    exact rl.inj j k w w' es fs b z2 q2 y2 q4 q5 q6
 ·rcases K1 q1 with⟨z1,z2⟩|⟨z1,z2⟩
  ·subst z1
   rw[BO q1 rl.len]at q2;cases q2;exact nb
  ·rw[Qp (Qa z1)]at q2
   exact rl.fresh j w b z2 qo q2
 ·obtain⟨j,w,es,q1,q2,q3⟩:=z
  rcases K1 q1 with⟨z1,z2⟩|⟨z1,z2⟩
  ·subst z1
   rw[BO q1 rl.len]at q3;cases q3;exact .inr ha
  ·rw[Qp (Qa z1)]at q3
   exact ev.sub b ⟨j,w,es,z2,q2,q3⟩
 ·rcases K1 q with⟨z1,z2⟩|⟨z1,z2⟩
  ·rw[z2,wo]at qp;cases qp
  ·obtain⟨h3,h4⟩:=ev.par j w z2 qp
   exact⟨by rw[Qp (Qa z1)];exact h3,h4⟩
theorem Ev.setOwn{a:Addr}{xs:List V}{ds:List D}(ev:Ev K B G σ env H G1 σ1 a8 H1)(nb:¬ B a)(ha:H a=none)(no:¬ d6 σ1 a8 a)(h1:H1 a=some (.lst xs))(g1:G1 a=none)(r:B9 K G1 xs ds):
  Ev K B G σ env H G1 (σ1.set i (some (.ref a))) (a8.set i (.own ds)) H1:=ev.setOwnM (m:=.l ds) nb ha no h1 g1 ⟨xs,rfl,r⟩ rfl rfl
theorem Ev.setNil(ev:Ev K B G σ env H G1 σ1 a8 H1):Ev K B G σ env H G1 σ1 (a8.set i .nil) H1:=by
 have rl:=ev.rel
 have ne:∀(j:Nat) (w:W),(a8.set i .nil)[j]? =some w->w≠.nil->j≠i/\a8[j]? =some w:=fun j w q1 q2=>by
  rcases K1 q1 with⟨_,z⟩|z
  ·exact absurd z q2
  ·exact z
 have nm:∀(w:W) (es:Mu),w.mut=some es->w≠.nil:=fun w es h z=>by rw[z]at h;cases h
 refine⟨⟨rl.sub,by rw[Zp];exact rl.len,fun j d' q=>rl.dat j d' (ne j _ q (by simp)).2,fun j w es q1 q2=>rl.own j w es (ne j w q1 (nm w es q2)).2 q2,fun j k w w' es fs b q1 q2 q3 q4 q5 q6=>rl.inj j k w w' es fs b (ne j w q1 (nm _ _ q2)).2 q2 (ne k w' q3 (nm _ _ q4)).2 q4 q5 q6,
  fun j w b q1 qo q2=>rl.fresh j w b (ne j _ q1 (by rintro rfl;cases qo)).2 qo q2,rl.old,rl.tabs,rl.gnt⟩,ev.same,ev.keep,ev.live,ev.stay,fun b z=>?_,fun j w q qp=>ev.par j w (ne j _ q (by rintro rfl;cases qp)).2 qp,ev.slen⟩
 obtain⟨j,w,es,q1,q2,q3⟩:=z;exact ev.sub b ⟨j,w,es,(ne j w q1 (nm _ _ q2)).2,q2,q3⟩
theorem Ev.writeM{a:Addr}{o':HO}{w:W}{m m':Mu}(ev:Ev K B G σ env H G1 σ1 a8 H1)(e1:a8[i]? =some w)(e2:w.mut=some m)(e3:σ1[i]? =some (some (.ref a)))(r:kW K G1 o' m'):
  Ev K B G σ env H G1 σ1 (a8.set i (w.putM m')) (upd H1 a o'):=by
 have rl:=ev.rel
 obtain⟨a',o0,h1,h2,h3,h4⟩:=rl.own i w m e1 e2;rw[e3]at h1;cases h1;have ow:d6 σ1 a8 a:=⟨i,w,m,e1,e2,e3⟩;have wp:(w.putM m').mut=some m':=W.putM_mut e2 m';have nd:∀d,w.putM m'≠.dat d:=fun d z=>by rw[z]at wp;cases wp
 have oo:d6 σ env a\/H a=none:=ev.sub a ow
 refine⟨⟨fun b u e=>?_,by rw[Zp];exact rl.len,fun j d' q=>?_,fun j v es q1 q2=>?_,fun j k v v' es fs b q1 q2 q3 q4 q5 q6=>?_,fun j v b q1 qo q2=>?_,fun b hb=>?_,rl.tabs.upd r.nt (fun φ z=>by rw[h2]at z;cases z;exact h3.ne φ rfl),rl.gnt⟩,ev.same,fun b o n t e=>?_,fun b e=>?_,ev.stay,fun b z=>?_,fun j v q qp=>?_,ev.slen⟩
 ·have hb:b≠a:=fun z=>by rw[z,h4]at e;cases e
  rw[C4 hb];exact rl.sub b u e
 ·rcases K1 q with⟨z1,z2⟩|⟨z1,z2⟩
  ·exact absurd z2.symm (nd d')
  ·exact rl.dat j d' z2
 ·rcases K1 q1 with⟨z1,z2⟩|⟨z1,z2⟩
  ·subst z1 z2
   rw[wp]at q2;cases q2;exact⟨a,o',e3,D9,r,h4⟩
  ·obtain⟨p,ys,f1,f2,f3,f4⟩:=rl.own j v es z2 q2
   have hp:p≠a:=fun z=>z1 (rl.inj j i v w es m a z2 q2 e1 e2 (by rw[f1,z]) e3)
   exact⟨p,ys,f1,by rw[C4 hp];exact f2,f3,f4⟩
 ·have g:∀(n:Nat) (v:W) (es:Mu),(a8.set i (w.putM m'))[n]? =some v->v.mut=some es->∃v0 es0,a8[n]? =some v0/\v0.mut=some es0:=fun n v es y1 y2=>by
   rcases K1 y1 with⟨z1,z2⟩|⟨z1,z2⟩
   ·rw[z1];exact⟨w,m,e1,e2⟩
   ·exact⟨v,es,z2,y2⟩
  obtain⟨v0,es0,y1,y2⟩:=g j v es q1 q2;obtain⟨v1,es1,y3,y4⟩:=g k v' fs q3 q4;exact rl.inj j k v0 v1 es0 es1 b y1 y2 y3 y4 q5 q6
 ·rcases K1 q1 with⟨z1,z2⟩|⟨z1,z2⟩
  ·subst z1
   exact rl.fresh j w b e1 (by rw[z2,W.putM_own e2]at qo;exact qo) q2
  ·exact rl.fresh j v b z2 qo q2
 ·by_cases h:b=a
  ·subst h;rw[D9];simp
  ·rw[C4 h];exact rl.old b hb
 ·have hb:b≠a:=fun z=>by
   rcases oo with q|q
   ·exact n (z ▸ q)
   ·rw[z,q]at e;cases e
  rw[C4 hb];exact ev.keep b o n t e
 ·by_cases h:b=a
  ·subst h;rw[D9];simp
  ·rw[C4 h];exact ev.live b e
 ·obtain⟨j,v,es,q1,q2,q3⟩:=z
  rcases K1 q1 with⟨z1,z2⟩|⟨z1,z2⟩
  ·rw[z1,e3]at q3;cases q3
   exact oo
  ·exact ev.sub b ⟨j,v,es,z2,q2,q3⟩
 ·rcases K1 q with⟨z1,z2⟩|⟨z1,z2⟩
  ·subst z1
   exact ev.par j w e1 (by rw[z2,W.putM_par e2]at qp;exact qp)
  ·exact ev.par j v z2 qp
theorem Ev.write{a:Addr}{xs':List V}{w:W}{ds ds':List D}(ev:Ev K B G σ env H G1 σ1 a8 H1)(e1:a8[i]? =some w)(e2:w.mutL=some ds)(e3:σ1[i]? =some (some (.ref a)))(r:B9 K G1 xs' ds'):
  Ev K B G σ env H G1 σ1 (a8.set i (w.put ds')) (upd H1 a (.lst xs')):=by
 rw[W.put_eq e2];exact ev.writeM e1 (W.mutL_of e2) e3 ⟨xs',rfl,r⟩
end
section
variable{X:Cx}{B:OE}{pos:Pos}{a b c e:Expr}{ma mb mc:Mo D}{ms:Mo (List D)}{es:List Expr}{st:Stmt}{rest:List Stmt}{s1 s2:Mo Fl}
def i7:Mo Fl:=fun env=>some (.nx,env)
def D1(m n:Mo Fl):Mo Fl:=fun env=>(m env).bind fun p=>match p.1 with
 |.nx=>n p.2
 |fl=>some (fl,p.2)
theorem G0:nK X B [] i7:=by
 refine jL Oe ?_
 rintro D σ H ⟨G,env,fl,env',rl,e,k⟩;cases e;exact k σ G H (.refl rl)
theorem D8(h1:ES X B st s1)(h2:nK X B rest s2):nK X B (st::rest) (D1 s1 s2):=by
 refine jL (U1 h1 h2) ?_
 rintro D σ H ⟨G,env,fl,env',rl,e,k⟩;obtain⟨⟨rX,a8⟩,e1,e2⟩:=C8 e;dsimp only at e2;cases rX with
 |nx=>
  dsimp only at e2;exact⟨G,env,.nx,a8,rl,e1,fun σ1 G1 H1 ev=>⟨G1,a8,fl,env',ev.rel,e2,Post.after _ _ k ev⟩⟩
 |bk=>cases e2;exact⟨G,env,.bk,_,rl,e1,k⟩
 |ct=>cases e2;exact⟨G,env,.ct,_,rl,e1,k⟩
 |ret d=>cases e2;exact⟨G,env,.ret d,_,rl,e1,k⟩
 |retL d=>cases e2;exact⟨G,env,.retL d,_,rl,e1,k⟩
theorem D4(h1:ES X B st s1):nK X B [st] s1:=Bs h1
def F5(t:Mo Bool)(m n:Mo Fl):Mo Fl:=fun env=>(t env).bind fun p=>if p.1 then m p.2 else n p.2
theorem G8{c:Expr}{s t:List Stmt}{tc:Mo Bool}(hc:ET X B c tc)(h1:nK X B s s1)(h2:nK X B t s2):ES X B (.If c s t pos) (F5 tc s1 s2):=by
 refine iB (IG hc h1 h2) ?_
 rintro D σ H ⟨G,env,fl,env',rl,e,k⟩;obtain⟨⟨b1,a8⟩,e1,e2⟩:=C8 e;dsimp only at e2;refine⟨G,env,b1,a8,rl,e1,fun G1 H1 ev=>?_⟩
 cases b1 with
 |true=>simp only[Zd]at e2 ⊢;exact⟨G1,a8,fl,env',ev.rel,e2,Post.after _ _ k ev⟩
 |false=>simp only[Zz,Yz]at e2 ⊢;exact⟨G1,a8,fl,env',ev.rel,e2,Post.after _ _ k ev⟩
def P4:Mo Fl:=fun _=>none
theorem P5:ES X B st P4:=by
 refine iB Og ?_
 rintro D σ H ⟨G,env,fl,env',rl,e,k⟩;cases e
def E4(m:Mo D):Mo Fl:=fun env=>(m env).map fun p=>(.ret p.1,p.2)
theorem E7(h:ED X B e ma):ES X B (.Return (some e) pos) (E4 ma):=by
 refine iB (CV h) ?_
 rintro D σ H ⟨G,env,fl,env',rl,e,k⟩;obtain⟨⟨d,a8⟩,e1,e2⟩:=E8 e;cases e2;exact⟨G,env,d,_,rl,e1,fun v G' H' ev r=>k v σ G' H' ev r⟩
def Ck(m:Mo (List D)):Mo Fl:=fun env=>(m env).map fun p=>(.retL p.1,p.2)
theorem Cm(h:EL X B e ms):ES X B (.Return (some e) pos) (Ck ms):=by
 refine iB (CV h) ?_
 rintro D σ H ⟨G,env,fl,env',rl,e,k⟩;obtain⟨⟨d,a8⟩,e1,e2⟩:=E8 e;cases e2;exact⟨G,env,d,_,rl,e1,fun a xs G' H' ev ha no h' g' r=>k a xs σ G' H' ev (fun z=>rl.old a z ha) no h' g' r⟩
def eT(i:Nat):Mo Fl:=fun env=>match env[i]? with
 |some (.own ds)=>some (.retL ds,env.set i .nil)
 |_=>none
def F2(i:Nat)(m:Mo D):Mo Fl:=fun env=>(m env).map fun p=>(.nx,p.2.set i (.dat p.1))
def M4(i:Nat)(m:Mo (List D)):Mo Fl:=fun env=>(m env).map fun p=>(.nx,p.2.set i (.own p.1))
section
variable{i:Nat}{x:Str}{pos':Pos}
theorem G9(hN:X.N.Nodup)(hi:X.N[i]? =some x)(hx:Loc X.env.scope x)(he:ED X B e ma)(hs:swapsWith e (some (.Name x pos')) pos.line X.env=pure false:=by rfl)(hf:X.fn x=true\/X.env.scope.names.lookup x=some .local:=by first|exact .inl rfl|exact .inr rfl|assumption):
  ES X B (.Assign [.Name x pos'] e pos) (F2 i ma):=by
 refine iB (BG hN hi hx he hs hf) ?_
 rintro D σ H ⟨G,env,fl,env',rl,e,k⟩;obtain⟨⟨d,a8⟩,e1,e2⟩:=E8 e;cases e2;exact⟨G,env,d,_,rl,e1,fun v G' H' ev r=>k _ G' H' (ev.setDat r)⟩
theorem P6(hN:X.N.Nodup)(hi:X.N[i]? =some x)(hx:Loc X.env.scope x)(he:EL X B e ms)(hs:swapsWith e (some (.Name x pos')) pos.line X.env=pure false:=by rfl)(hf:X.fn x=true\/X.env.scope.names.lookup x=some .local:=by first|exact .inl rfl|exact .inr rfl|assumption):
  ES X B (.Assign [.Name x pos'] e pos) (M4 i ms):=by
 refine iB (BG hN hi hx he hs hf) ?_
 rintro D σ H ⟨G,env,fl,env',rl,e,k⟩;obtain⟨⟨d,a8⟩,e1,e2⟩:=E8 e;cases e2;exact⟨G,env,d,_,rl,e1,fun a xs G' H' ev ha no h' g' r=>k _ G' H' (ev.setOwn (fun z=>rl.old a z ha) ha no h' g' r)⟩
def Ey(i:Nat)(f:D->D->Option D)(m:Mo D):Mo Fl:=fun env=>match env[i]? with
 |some (.dat d0)=>(m env).bind fun p=>(f d0 p.1).map fun d=>(.nx,p.2.set i (.dat d))
 |_=>none
theorem JR{op:Operator}{r:R2}{f:D->D->Option D}(hN:X.N.Nodup)(hi:X.N[i]? =some x)(hx:Loc X.env.scope x)(he:ED X B e ma)(ho:i5 X (inplaceOp op) r)(o:jZ X B r f)
  (hf:X.fn x=true\/X.env.scope.names.lookup x=some .local:=by first|exact .inl rfl|exact .inr rfl|assumption):ES X B (.AugAssign (.Name x pos') op e pos) (Ey i f ma):=by
 refine iB (Ou hN hi hx he (ti:=r) (fun pins s σ H x y v u Q I rx ry q=>ho pins s σ H x y v u Q I rx ry q) hf) ?_
 rintro D σ H ⟨G,env,fl,env',rl,e,k⟩;unfold Ey at e;split at e
 ·rename_i d0 e0
  obtain⟨⟨d,a8⟩,e1,e2⟩:=C8 e;obtain⟨d2,e3,e4⟩:=E8 e2;cases e4;obtain⟨v0,h0,r0⟩:=rl.dat i d0 e0;exact⟨v0,h0,.bind rl e1 fun v G' H' ev r1=>o G' σ _ H' v0 v d0 d _ _ ev.rel (a9.mono ev.same _ r0) r1 e3 fun v2 G2 H2 d5 r2=>k _ G2 H2 ((ev.trans d5).setDat r2)⟩
 ·cases e
end
def Cn(i:Nat)(m:Mo D):Mo Fl:=fun env=>((env[i]?).bind W.mutL).bind fun _=>(m env).bind fun p=>(p.2[i]?).bind fun w=>w.mutL.bind fun ds=>if ds.length<100000 then some (.nx,p.2.set i (w.put (ds++[p.1])))else none
theorem Co{i:Nat}{x:Str}{p apos cpos:Pos}(ho:PE X (.Name x p) (O9 i))(ha:m5 X B [e] (B4 ma C5))
  (hbase:attributeBase (.Name x p) "append" X.env (eval (.Name x p) X.env)=eval (.Name x p) X.env:=by rfl)
  (hfew:((backTo cpos (starEach [e] X.env)).all (fun x=>!x.1)&&(backToKw cpos (keywordEach [] X.env)).all (fun x=>x.1.isSome)
   &&decide ([e].length+([]:List Keyword).length+(if([]:List Keyword).isEmpty then 0 else 1)<30))=true:=by rfl)
  (hline:(apos.endLine==cpos.line)=true:=by rfl)(hs:starEach [e] X.env=(false,eval e X.env)::starEach [] X.env:=by rfl)(hplain:(backTo cpos (starEach [] X.env)).any (·.1)=false:=by rfl)
  (hsw:swapsWith (.Call (.Attribute (.Name x p) "append" apos) [e] [] cpos) none pos.line X.env=pure false:=by rfl):
  ES X B (.Expr (.Call (.Attribute (.Name x p) "append" apos) [e] [] cpos) pos) (Cn i ma):=by
 refine iB (CU (JA PySem.F.plainAttrs_list PySem.F.slot_list_append PySem.F.type_list_append Ca ho ha hbase hfew hline hs hplain) hsw) ?_
 rintro D σ H ⟨G,env,fl,env',rl,e,k⟩;obtain⟨ds0,e0,e⟩:=C8 e;obtain⟨w0,e00,em0⟩:=C8 e0;obtain⟨⟨d,a8⟩,e1,e2⟩:=C8 e;obtain⟨w,e3,e4⟩:=C8 e2;obtain⟨ds,e5,e6⟩:=C8 e4;dsimp only at e3 e6;split at e6
 ·rename_i hl
  cases e6;obtain⟨q,xs0,h1,h2,h3,h4⟩:=rl.ownL i w0 ds0 e00 em0;refine⟨_,h1,.inl ⟨rfl,xs0,.inl (.inl h2)⟩,G,env,[d],a8,rl,by show(ma env).bind _=_;rw[e1];rfl,fun vs G1 H1 ev r1=>?_⟩
  obtain⟨v,rfl,rv⟩:=Q9 r1;obtain⟨q',xs,g1,g2,g3,g4⟩:=ev.rel.ownL i w ds e3 e5;rw[h1]at g1;cases g1;have hz:xs.length<sizeLine:=by rw[g3.length];exact Vb hl (by decide)
  exact⟨q,xs,v,rfl,rfl,g2,hz,k _ G1 _ (ev.write e3 e5 h1 (g3.append (fB rv eY)))⟩
 ·cases e6
end
section
variable(K:Qq)(B:OE)
def oU(n:Nat)(g:OX):TG:=fun v σ H Q=>∃G env d env',Rel K B G σ env H/\a9 K G v d/\g d env=some env'/\∀σ' G' H',Ev K B G σ env H G' σ' env' H'->(∀j,j<n->σ'[j]? =σ[j]?)->Q σ' H'
def QY(n:Nat)(g:List D->c7->Option c7):oE:=fun vs σ H Q=>∃G env ds env',Rel K B G σ env H/\B9 K G vs ds/\g ds env=some env'/\∀σ' G' H',Ev K B G σ env H G' σ' env' H'->(∀j,j<n->σ'[j]? =σ[j]?)->Q σ' H'
end
abbrev EG(X:Cx)(B:OE)(n:Nat)(e:Expr)(g:OX):Prop:=PG X e (oU X.K B n g)
abbrev qU(X:Cx)(B:OE)(n:Nat)(es:List Expr)(g:List D->c7->Option c7):Prop:=oQ X es (QY X.K B n g)
theorem JS{X:Cx}{e:Expr}{t t':TG}(h:PG X e t)(i:∀v σ H Q,t' v σ H Q->t v σ H Q):PG X e t':=fun pins s σ H v u Q I r q=>h pins s σ H v u Q I r (i v σ H Q q)
theorem JT{X:Cx}{e:List Expr}{t t':oE}(h:oQ X e t)(i:∀v σ H Q,t' v σ H Q->t v σ H Q):oQ X e t':=fun pins s σ H v u Q I r q=>h pins s σ H v u Q I r (i v σ H Q q)
def gN(i:Nat):OX:=fun d env=>some (env.set i (.dat d))
def m7:List D->c7->Option c7:=fun ds env=>match ds with
 |[]=>some env
 |_=>none
def kO(g:OX)(gs:List D->c7->Option c7):List D->c7->Option c7:=fun ds env=>match ds with
 |d::ds=>(g d env).bind (gs ds)
 |[]=>none
def gT(n:Nat)(gs:List D->c7->Option c7):OX:=fun d env=>match d with
 |.tup ds=>if ds.length=n then gs ds env else none
 |_=>none
section
variable{X:Cx}{B:OE}{pos:Pos}{a b c e tg:Expr}{ma mb mc:Mo D}{ms:Mo (List D)}{es:List Expr}{g:OX}{gs:List D->c7->Option c7}
theorem E9{n i:Nat}{x:Str}(hn:n≤i)(hN:X.N.Nodup)(hi:X.N[i]? =some x)(hx:Loc X.env.scope x)(hf:X.fn x=true\/X.env.scope.names.lookup x=some .local:=by first|exact .inl rfl|exact .inr rfl|assumption):EG X B n (.Name x pos) (gN i):=by
 refine JS (Oh hN hi hx hf) ?_
 rintro v σ H Q ⟨G,env,d,env',rl,r,e,k⟩;cases e;exact k _ G H ((Ev.refl rl).setDat r) fun j hj=>Qp (by omega)
theorem R0{n:Nat}:qU X B n [] m7:=by
 refine JT Ol ?_
 rintro vs σ H Q ⟨G,env,ds,env',rl,r,e,k⟩;unfold m7 at e;split at e
 ·cases e
  simp only[B9]at r;exact⟨r,k _ G H (.refl rl) fun _ _=>rfl⟩
 ·cases e
theorem K2{n:Nat}(h1:EG X B n e g)(h2:qU X B n es gs)(hs:(assignEach (e::es) X.env).map (·.2)=assign e X.env::(assignEach es X.env).map (·.2):=by rfl):qU X B n (e::es) (kO g gs):=by
 refine JT (Om h1 h2 hs) ?_
 rintro vs σ H Q ⟨G,env,ds,env',rl,r,e,k⟩;unfold kO at e;split at e
 ·rename_i d ds
  obtain⟨a8,e1,e2⟩:=C8 e;simp only[B9]at r;obtain⟨x,xs,e3,r1,r2⟩:=r;exact⟨x,xs,e3,G,env,d,a8,rl,r1,e1,fun σ1 G1 H1 ev y1=>⟨G1,a8,ds,env',ev.rel,B9.mono ev.same _ r2,e2,fun σ2 G2 H2 d5 y2=>k σ2 G2 H2 (ev.trans d5) fun j hj=>(y2 j hj).trans (y1 j hj)⟩⟩
 ·cases e
theorem R1{nb n k':Nat}(hc:X.calm=true)(h:qU X B nb es gs)(hn:(assignEach es X.env).length=n:=by rfl)(hst:(assignEach es X.env).findIdx? (·.1)=none:=by rfl):EG X B nb (.Tuple es k' pos) (gT n gs):=by
 refine JS (Oq hc h hn hst) ?_
 rintro v σ H Q ⟨G,env,d,env',rl,r,e,k⟩;unfold gT at e;split at e
 ·rename_i ds
  split at e
  ·rename_i hl
   simp only[a9]at r;obtain⟨p,xs,e1,q,t⟩:=r;exact⟨p,xs,e1,rl.sub.sqT q,t.length.trans hl,G,env,ds,env',rl,t,e,k⟩
  ·cases e
 ·cases e
def gS(s:Nat)(mi:Mo D):OX:=fun d env=>((env[s]?).bind W.mutL).bind fun _=>(mi env).bind fun p=>match p.1 with
 |.int k=>(p.2[s]?).bind fun w=>w.mutL.bind fun ds=>(qD ds.length k).map fun j=>p.2.set s (w.put (ds.set j d))
 |_=>none
def U4(m:Mo D)(g:OX):Mo Fl:=fun env=>(m env).bind fun p=>(g p.1 p.2).map fun e=>(.nx,e)
theorem BP(he:ED X B e ma)(hg:EG X B 0 tg g)(hs:swapsWithSole [tg] e pos.line X.env=pure false:=by rfl)(hw:swappedStores [tg] e X.env=pure none:=by rfl)
  (h1:(assignEach [tg] X.env).map (·.2)=[assign tg X.env]:=by rfl):ES X B (.Assign [tg] e pos) (U4 ma g):=by
 refine iB (IJ he hg hs hw h1) ?_
 rintro D σ H ⟨G,env,fl,env',rl,e,k⟩;obtain⟨⟨d1,a8⟩,e1,e2⟩:=C8 e;obtain⟨eW,e3,e4⟩:=E8 e2;cases e4;exact .bind rl e1 fun v G1 H1 ev r=>⟨G1,a8,d1,_,ev.rel,r,e3,fun σ2 G2 H2 d5 _=>k σ2 G2 H2 (ev.trans d5)⟩
def t9(i j:Nat)(ms:Mo (List D)):Mo Fl:=fun env=>(ms env).bind fun p=>match p.1 with
 |[d,d']=>some (.nx,(p.2.set i (.dat d)).set j (.dat d'))
 |_=>none
structure pA(K:Qq)(J:It)(G:Hp)(ds:List D):Prop where
 go:∀i H,Le G H->i<ds.length->J.go i H
 stop:∀i H,Le G H->ds.length≤i->J.stop i H
 yld:∀i H x H' d,Le G H->J.yld i H x H'->ds[i]? =some d->(H'=H/\a9 K G x d)\/ ∃p o,NT o/\H p=none/\H'=upd H p o/\a9 K (upd G p o) x d
end
section
variable(K:Qq)(B:OE)
def pN(m:Mo (List D)):TI:=fun σ H R=>∃G env ds env',Rel K B G σ env H/\m env=some (ds,env')/\∀J G' H',Ev K B G σ env H G' σ env' H'->pA K J G' ds->R J H'
end
abbrev EI(X:Cx)(B:OE)(tg e:Expr)(m:Mo (List D)):Prop:=PI X tg e (pN X.K B m)
theorem Ez{X:Cx}{tg e:Expr}{t t':TI}(h:PI X tg e t)(i:∀σ H R,t' σ H R->t σ H R):PI X tg e t':=fun pins s σ H R I q=>h pins s σ H R I (i σ H R q)
section
variable{X:Cx}{B:OE}{pos:Pos}{a b c e tg:Expr}{ma mb mc:Mo D}{ms:Mo (List D)}{es:List Expr}{g:OX}{gs:List D->c7->Option c7}
def QZ(K:Qq)(tl:TE):TI:=fun σ H R=>tl σ H fun x H1=>∃a,x=.ref a/\(((∃xs,kA K H1 a xs)/\R (rO K a) H1)\/((∃xs,kN K H1 a xs)/\R (rP K a) H1))
theorem RA{l:Expr}{tl:TE}(hl:PE X l tl):PI X tg l (QZ X.K tl):=by
 intro pins s σ H R I h;refine eV (hl pins s σ H _ I h) fun v s1 ⟨x,H1,I1,r1,q1⟩=>?_
 obtain⟨a,e,q⟩:=q1;subst e;cases r1
 rcases q with⟨⟨xs,hq⟩,q⟩|⟨⟨xs,hq⟩,q⟩
 ·obtain⟨its,rv,p,hz⟩:=I1.list hq
  refine Uu p.isList ?_
  refine⟨s1.heap.objs.size,[s1.heap.objs.size],_,_,H1,rfl,I1.kept (t':=s1.toks) fun b o e=>Qj _ e,Ov a _,⟨_,Qw _ rfl,rfl,rfl⟩,fun b hb=>?_,q⟩
  have e:b=s1.heap.objs.size:=by simpa using hb
  subst e;exact I1.fpOk (Qv _) (I1.hok.fresh (Qv _))
 ·obtain⟨its,rv,p,hz⟩:=I1.tuple hq
  refine Vx (show s1.heap.IsTuple a its.toArray from p) ?_
  refine⟨s1.heap.objs.size,[s1.heap.objs.size],_,_,H1,rfl,I1.kept (t':=s1.toks) fun b o e=>Qj _ e,Ow a _,⟨_,Qw _ rfl,rfl,rfl⟩,fun b hb=>?_,q⟩
  have e:b=s1.heap.objs.size:=by simpa using hb
  subst e;exact I1.fpOk (Qv _) (I1.hok.fresh (Qv _))
def J8(m:Mo D):Mo (List D):=fun env=>(m env).bind fun p=>p.1.items.map fun ds=>(ds,p.2)
theorem RB{K:Qq}{G:Hp}{p:Addr}{xs:List V}{ds:List D}(q:kA K G p xs)(r:B9 K G xs ds):pA K (rO K p) G ds where
 go:=fun i H l hi=>⟨xs,xs[i]'(by rw[r.length];exact hi),l.sqL q,by simp⟩
 stop:=fun i H l hi=>⟨xs,l.sqL q,by rw[r.length];exact hi⟩
 yld:=fun i H x H' d l y e=>by
  obtain⟨rfl,y⟩:=y;obtain⟨x',e1,e2⟩:=r.get e;have:=y xs (l.sqL q);rw[e1]at this;cases this;exact .inl ⟨rfl,e2⟩
theorem RC{K:Qq}{G:Hp}{p:Addr}{xs:List V}{ds:List D}(q:lJ K G p xs)(r:B9 K G xs ds):pA K (rP K p) G ds where
 go:=fun i H l hi=>⟨xs,xs[i]'(by rw[r.length];exact hi),l.sqT q,by simp⟩
 stop:=fun i H l hi=>⟨xs,l.sqT q,by rw[r.length];exact hi⟩
 yld:=fun i H x H' d l y e=>by
  obtain⟨rfl,y⟩:=y;obtain⟨x',e1,e2⟩:=r.get e;have:=y xs (l.sqT q);rw[e1]at this;cases this;exact .inl ⟨rfl,e2⟩
theorem K3(h:ED X B e ma):EI X B tg e (J8 ma):=by
 refine Ez (RA h) ?_
 rintro σ H R ⟨G,env,ds,env',rl,e,k⟩;obtain⟨⟨d,a8⟩,e1,e2⟩:=C8 e;obtain⟨ds',e3,e4⟩:=E8 e2;cases e4;refine .bind rl e1 fun v G1 H1 ev r=>?_
 cases d<;>first|(exact absurd (show(none:Option (List D))=some _ from e3) (by simp))|skip
 ·cases e3
  simp only[a9]at r;obtain⟨p,xs,e5,q,t⟩:=r;exact⟨p,e5,.inr ⟨⟨xs,ev.rel.sub.sqT q⟩,k _ G1 H1 ev (RC q t)⟩⟩
 ·cases e3
  simp only[a9]at r;obtain⟨p,xs,e5,q,t⟩:=r;exact⟨p,e5,.inl ⟨⟨xs,ev.rel.sub.sqL q⟩,k _ G1 H1 ev (RB q t)⟩⟩
def BQ(lo:Int)(n:Nat):List D:=(List.range n).map fun(i:Nat)=>D.int (lo+i)
theorem RD{K:Qq}{G:Hp}{lo:Int}{n:Nat}:pA K (qS lo n) G (BQ lo n)where
 go:=fun i H l hi=>by
  have h:i<n:=by simpa [BQ]using hi
  exact h
 stop:=fun i H l hi=>by
  have h:n≤i:=by simpa [BQ]using hi
  exact h
 yld:=fun i H x H' d l y e=>by
  obtain⟨rfl,rfl⟩:=y;refine .inl ⟨rfl,?_⟩;unfold BQ at e;rw[Zc]at e;cases hr:(List.range n)[i]? with
  |none=>rw[hr]at e;cases e
  |some j=>
   rw[hr]at e;cases e;obtain⟨h1,h2⟩:=Qy.mp hr
   simp at h2
   subst h2;simp only[a9]
def Cp(ms:Mo (List D)):Mo (List D):=fun env=>(ms env).bind fun p=>match p.1 with
 |[.int j]=>if-1000000<j/\j<1000000 then some (BQ 0 j.toNat,p.2)else none
 |_=>none
def JU(ms:Mo (List D)):Mo (List D):=fun env=>(ms env).bind fun p=>match p.1 with
 |[.int i,.int j]=>if-1000000<i/\i<1000000/\ -1000000<j/\j<1000000 then some (BQ i (j-i).toNat,p.2)else none
 |_=>none
theorem JV{p:Pos}(hg:Gl X "range")(hm:X.mg "range"=none)(ha:m5 X B [a] ms)(hs:starEach [a] X.env=[(false,eval a X.env)]:=by rfl):EI X B tg (.Call (.Name "range" p) [a] [] pos) (Cp ms):=by
 have h0:=PB (tg:=tg) (p:=p) (pos:=pos) hg hm ha hs
 refine Ez h0 ?_
 rintro σ H R ⟨G,env,ds,env',rl,e,k⟩;obtain⟨⟨ds',a8⟩,e1,e2⟩:=C8 e;dsimp only at e2;split at e2
 ·rename_i j
  split at e2
  ·rename_i hj
   cases e2;refine⟨G,env,_,_,rl,e1,fun vs G1 H1 ev r=>?_⟩
   obtain⟨v,rfl,r1⟩:=Q9 r;simp only[a9]at r1;subst r1;exact⟨j,rfl,by omega,by omega,k _ G1 H1 ev RD⟩
  ·cases e2
 ·cases e2
def loop(g:OX)(body:Mo Fl):List D->Mo Fl
 |[],env=>some (.nx,env)
 |d::ds,env=>(g d env).bind fun e1=>(body e1).bind fun p=>match p.1 with
  |.nx=>loop g body ds p.2
  |.ct=>loop g body ds p.2
  |.bk=>some (.nx,p.2)
  |.ret d=>some (.ret d,p.2)
  |.retL d=>some (.retL d,p.2)
def AM(mi:Mo (List D))(g:OX)(body:Mo Fl):Mo Fl:=fun env=>(mi env).bind fun p=>loop g body p.1 p.2
theorem Cq{iter:Expr}{body:List Stmt}{mi:Mo (List D)}{mbd:Mo Fl}(hp:PassesOwn (model X.prog X.w) X.A X.env X.xe)(hc:X.calm=true)(hi:EI X B tg iter mi)(hg:EG X B 0 tg g)(hb:nK X B body mbd)
  (hs:∀x,foldedSetIterable iter X.env x=pure x:=by intro _;rfl):ES X B (.For tg iter body [] pos) (AM mi g mbd):=by
 refine iB (IL hp hc hi hg hb hs) ?_
 rintro D σ H ⟨G,env,fl,env',rl,e,k⟩;obtain⟨⟨ds,a8⟩,e1,e2⟩:=C8 e;dsimp only at e2;refine⟨G,env,ds,a8,rl,e1,fun J G1 H1 fR it=>?_⟩
 refine⟨fun i m σ2 H2=>m=ds.length-i/\i≤ds.length/\∃G2 eW,Ev X.K B G σ env H G2 σ2 eW H2/\Le G1 G2/\loop g mbd (ds.drop i) eW=some (fl,env'),⟨_,rfl,Yb _,G1,a8,fR,Le.refl,by simpa using e2⟩,?_⟩
 rintro i m σ2 H2 ⟨rfl,hi2,G2,eW,d5,l2,e3⟩;have lH:Le G1 H2:=l2.trans d5.rel.sub
 by_cases hlt:i<ds.length
 ·refine .inr ⟨it.go i H2 lH hlt,fun σ' H'=>∃G3 iT,Ev X.K B G σ env H G3 σ' iT H'/\Le G1 G3/\loop g mbd (ds.drop (i+1)) iT=some (fl,env'),?_,fun x H3 y=>?_⟩
  ·rintro σ' H' ⟨G3,iT,iS,l3,e4⟩
   exact⟨ds.length-(i+1),by omega,rfl,hlt,G3,iT,iS,l3,e4⟩
  ·have ed:ds.drop i=ds[i]::ds.drop (i+1):=Jv hlt
   rw[ed]at e3;obtain⟨kX,e4,e5⟩:=C8 e3;obtain⟨⟨qV,k7⟩,e6,e7⟩:=C8 e5;have hget:ds[i]? =some ds[i]:=by simp[hlt]
   have st:∃G3,Ev X.K B G σ env H G3 σ2 eW H3/\Le G1 G3/\a9 X.K G3 x ds[i]:=by
    rcases it.yld i H2 x H3 ds[i] lH y hget with⟨rfl,r⟩|⟨p,o,hno,hp2,rfl,r⟩
    ·exact⟨G2,d5,l2,a9.mono l2 _ r⟩
    ·have gp:=d5.rel.gnone hp2
     refine⟨upd G2 p o,d5.trans (d5.rel.alloc hp2 hno),l2.trans (Le.upd gp),a9.mono (fun b u q=>?_) _ r⟩
     by_cases hb2:b=p
     ·subst hb2;rw[D9]at q ⊢;exact q
     ·rw[C4 hb2]at q ⊢;exact l2 b u q
   obtain⟨G3,iS,l3,r3⟩:=st;refine⟨G3,eW,ds[i],kX,iS.rel,r3,e4,fun σ4 G4 H4 kI _=>?_⟩
   have lC:=iS.trans kI
   refine⟨G4,kX,qV,k7,kI.rel,e6,?_⟩;cases qV with
   |nx=>exact fun σ6 G6 H6 j0=>⟨G6,k7,lC.trans j0,(l3.trans kI.same).trans j0.same,e7⟩
   |ct=>exact fun σ6 G6 H6 j0=>⟨G6,k7,lC.trans j0,(l3.trans kI.same).trans j0.same,e7⟩
   |bk=>cases e7;exact fun σ6 G6 H6 j0=>k σ6 G6 H6 (lC.trans j0)
   |ret d=>cases e7;exact fun v σ6 G6 H6 j0=>k v σ6 G6 H6 (lC.trans j0)
   |retL d=>cases e7;exact fun a xs σ6 G6 H6 j0=>k a xs σ6 G6 H6 (lC.trans j0)
 ·have ei:i=ds.length:=by omega
  subst ei;rw[Ud]at e3;cases e3;exact .inl ⟨it.stop _ H2 lH (Qv _),k σ2 G2 H2 d5⟩
end
inductive Rr where
 |d (d:D)|l (ds:List D)
abbrev Fn:=List W->Option (Rr×List W)
def M6:OE:=fun _=>False
def CA(ws:List W):Prop:=∀w∈ws,(∃d,w=.dat d)\/w.isPar=true
def RE(K:Qq)(G:Hp)(vs:List V)(ws:List W)(H:Hp)(ws':List W)(Q:VK):Rr->Prop
 |.d d=>∀v G' H',Ev K M6 G (vs.map some) ws H G' (vs.map some) ws' H'->a9 K G' v d->Q v H'
 |.l ds=>∀a xs G' H',Ev K M6 G (vs.map some) ws H G' (vs.map some) ws' H'->H a=none-> ¬ d6 (vs.map some) ws' a->H' a=some (.lst xs)->G' a=none->B9 K G' xs ds->Q (.ref a) H'
def gU(K:Qq)(n:Nat)(f:Fn):Sp:=fun vs H Q _=>∃G ws r ws',ws.length=n/\CA ws/\Rel K M6 G (vs.map some) ws H/\f ws=some (r,ws')/\RE K G vs ws H ws' Q r
def Cr:W->W->W
 |.par _,.par ds=>.par ds
 |.par _,.parD ks vs=>.parD ks vs
 |.parD _ _,.par ds=>.par ds
 |.parD _ _,.parD ks vs=>.parD ks vs
 |.par _,.parX ks vs=>.parX ks vs
 |.parD _ _,.parX ks vs=>.parX ks vs
 |.parX _ _,.par ds=>.par ds
 |.parX _ _,.parD ks vs=>.parD ks vs
 |.parX _ _,.parX ks vs=>.parX ks vs
 |.parX _ _,_=>.nil
 |.par _,_=>.nil
 |.parD _ _,_=>.nil
 |w,_=>w
def T2(ws env:List W):List W:=List.zipWith Cr ws env
def iO(N:Nat)(mb:Mo Fl):Fn:=fun ws=>match mb (ws++List.replicate (N-ws.length) .nil)with
 |some (.ret d,env)=>some (.d d,T2 ws env)
 |some (.retL ds,env)=>some (.l ds,T2 ws env)
 |some (.nx,env)=>some (.d .non,T2 ws env)
 |_=>none
theorem U5{N:List Str}{vs:List V}{i:Nat}(hi:i<vs.length):(start N vs)[i]? =(vs.map some)[i]?:=by
 unfold start;rw[Yl (by simpa using hi)]
theorem Y3{α:Type}{l:List α}{n i:Nat}{a b:α}(h:(l++List.replicate n a)[i]? =some b):(i<l.length/\l[i]? =some b)\/(l.length≤i/\b=a):=by
 by_cases hi:i<l.length
 ·rw[Yl hi]at h;exact .inl ⟨hi,h⟩
 ·rw[List.getElem?_append_right (by omega),Yo]at h
  split at h
  ·cases h;exact .inr ⟨by omega,rfl⟩
  ·cases h
section
variable{K:Qq}{G:Hp}{vs:List V}{ws:List W}{H:Hp}{N:List Str}
theorem JW(hl:ws.length=vs.length){n:Nat}{a:Addr}:d6 (start N vs) (ws++List.replicate n .nil) a↔d6 (vs.map some) ws a:=by
 constructor
 ·rintro⟨i,w,ds,e1,e2,e3⟩
  rcases Y3 e1 with⟨h1,h2⟩|⟨h1,h2⟩
  ·rw[U5 (by omega)]at e3;exact⟨i,w,ds,h2,e2,e3⟩
  ·rw[h2]at e2;cases e2
 ·rintro⟨i,w,ds,e1,e2,e3⟩
  have hi:i<ws.length:=(Qy.mp e1).1
  exact⟨i,w,ds,by rw[Yl hi];exact e1,e2,by rw[U5 (by omega)];exact e3⟩
theorem Cs(r:Rel K M6 G (vs.map some) ws H)(ok:CA ws)(hN:vs.length≤N.length):Rel K (fun b=>H b≠none) G (start N vs) (ws++List.replicate (N.length-ws.length) .nil) H:=by
 have hl:ws.length=vs.length:=by have:=r.len;rwa [Ql]at this
 have noOwn:∀(i:Nat) (w:W),ws[i]? =some w->w.isOwn=true->False:=fun i w e h=>by
  rcases ok _ (Ys e)with⟨d,z⟩|z
  ·subst z;cases h
  ·cases w<;>first|(cases h;done)|(cases z;done)
 refine⟨r.sub,?_,fun i d e=>?_,fun i w ds e1 e2=>?_,fun i j w w' ds es a q1 q2 q3 q4 q5 q6=>?_,fun i w a q1 qo q2=>?_,fun b h=>h,r.tabs,r.gnt⟩
 ·unfold start
  simp only[Zq,Zg,Ql]
  omega
 ·rcases Y3 e with⟨h1,h2⟩|⟨h1,h2⟩
  ·obtain⟨v,e1,e2⟩:=r.dat i d h2
   exact⟨v,by rw[U5 (by omega)];exact e1,e2⟩
  ·cases h2
 ·rcases Y3 e1 with⟨h1,h2⟩|⟨h1,h2⟩
  ·obtain⟨a,xs,e3,e4⟩:=r.own i w ds h2 e2
   exact⟨a,xs,by rw[U5 (by omega)];exact e3,e4⟩
  ·rw[h2]at e2;cases e2
 ·rcases Y3 q1 with⟨h1,h2⟩|⟨h1,h2⟩
  ·rcases Y3 q3 with⟨h3,h4⟩|⟨h3,h4⟩
   ·rw[U5 (by omega)]at q5 q6
    exact r.inj i j w w' ds es a h2 q2 h4 q4 q5 q6
   ·rw[h4]at q4;cases q4
  ·rw[h2]at q2;cases q2
 ·rcases Y3 q1 with⟨h1,h2⟩|⟨h1,h2⟩
  ·exact(noOwn i w h2 qo).elim
  ·subst h2;cases qo
theorem Ct{ws env:List W}{i:Nat}{w:W}(h:(T2 ws env)[i]? =some w):∃w1 w2,ws[i]? =some w1/\env[i]? =some w2/\w=Cr w1 w2:=by
 unfold T2 at h;rw[Jz]at h;cases e1:ws[i]? with
 |none=>rw[e1]at h;cases h
 |some w1=>
  cases e2:env[i]? with
  |none=>rw[e1,e2]at h;cases h
  |some w2=>rw[e1,e2]at h;cases h;exact⟨w1,w2,rfl,rfl,rfl⟩
theorem FA{w1 w2:W}{m:Mu}(ok:(∃d,w1=.dat d)\/w1.isPar=true)(h:(Cr w1 w2).mut=some m):w2.mut=some m/\w2.isPar=true/\Cr w1 w2=w2/\w1.isPar=true:=by
 rcases ok with⟨d,z⟩|z
 ·subst z;cases h
 ·cases w1<;>cases w2<;>first|exact⟨h,rfl,rfl,rfl⟩|(cases z;done)|(cases h;done)
theorem AN{G':Hp}{σ':St}{env':c7}{H':Hp}(r:Rel K M6 G (vs.map some) ws H)(ok:CA ws)(hN:vs.length≤N.length)
  (ev:Ev K (fun b=>H b≠none) G (start N vs) (ws++List.replicate (N.length-ws.length) .nil) H G' σ' env' H'):Ev K M6 G (vs.map some) ws H G' (vs.map some) (T2 ws env') H':=by
 have hl:ws.length=vs.length:=by have:=r.len;rwa [Ql]at this
 have okg:∀{i:Nat}{w:W},ws[i]? =some w->(∃d,w=.dat d)\/w.isPar=true:=fun e=>ok _ (Ys e)
 have hle:ws.length≤env'.length:=by
  have h1:=ev.rel.len
  have h2:=ev.slen
  have h3:(start N vs).length=N.length:=by unfold start;simp only[Zq,Zg,Ql];omega
  omega
 have par:∀(i:Nat) (w:W) (m:Mu),(T2 ws env')[i]? =some w->w.mut=some m->∃w0,ws[i]? =some w0/\w0.isPar=true/\env'[i]? =some w/\w.isPar=true/\σ'[i]? =(vs.map some)[i]?:=fun i w m e1 e2=>by
  obtain⟨w1,w2,h1,h2,h3⟩:=Ct e1;subst h3;obtain⟨h4,h5,h6,h7⟩:=FA (okg h1) e2;have hi:i<vs.length:=by have:=(Qy.mp h1).1;omega
  rw[h6];exact⟨w1,h1,h7,h2,h5,(ev.par i w2 h2 h5).1.trans (U5 hi)⟩
 refine⟨⟨ev.rel.sub,?_,fun i d e=>?_,fun i w ds e1 e2=>?_,fun i j w w' ds es a q1 q2 q3 q4 q5 q6=>?_,fun i w a q1 qo q2 h=>h,fun b h=>h.elim,ev.rel.tabs,ev.rel.gnt⟩,ev.same,fun b o n t e=>ev.keep b o (fun z=>n ((JW hl).mp z)) t e,ev.live,fun b e n g=>ev.stay b e (fun z=>n ((JW hl).mp z)) g,fun a z=>?_,fun i w e hp=>?_,rfl⟩
 ·unfold T2
  rw[Yj,Ql];omega
 ·obtain⟨w1,w2,h1,h2,h3⟩:=Ct e
  rcases okg h1 with⟨d1,z⟩|z
  ·subst z
   cases h3;obtain⟨v,e1,e2⟩:=r.dat i d h1;exact⟨v,e1,a9.mono ev.same d e2⟩
  ·cases w1<;>cases w2<;>first|(cases h3;done)|(cases z;done)
 ·obtain⟨d0,h1,hp,h2,h3,h4⟩:=par i w ds e1 e2
  obtain⟨a,xs,e3,e4⟩:=ev.rel.own i _ ds h2 e2;exact⟨a,xs,by rw[←h4];exact e3,e4⟩
 ·obtain⟨d0,h1,hp,h2,h3,h4⟩:=par i w ds q1 q2
  obtain⟨d1,h5,hp',h6,h7,h8⟩:=par j w' es q3 q4;exact ev.rel.inj i j _ _ ds es a h2 q2 h6 q4 (by rw[h4];exact q5) (by rw[h8];exact q6)
 ·obtain⟨i,w,ds,e1,e2,e3⟩:=z
  obtain⟨d0,h1,hp,h2,h3,h4⟩:=par i w ds e1 e2;obtain⟨m0,hm0⟩:=kC hp;exact .inl ⟨i,_,m0,h1,hm0,e3⟩
 ·obtain⟨m,hm⟩:=kC hp
  obtain⟨d0,h1,hp',h2,h3,h4⟩:=par i _ m e hm;exact⟨rfl,d0,h1,hp'⟩
end
theorem F9{P:Program}{w:World}{K:Qq}{mg:OI}{base:Heap}{x qual:Str}{st:Stmt}{f:Addr}{fd:FuncData}{N ps:List Str}{k:Nat}{mb:Mo Fl}(F:fT K x qual st f fd)(S:b0 N ps (D5 st))
  (hb:∀(cdv:Value) (A:Around) (outer:List Env) (s:Shared) (H:Hp) (E:XK),fA k (A.deeper (envOfC qual (D5 st) s.heap.objs.size f cdv))->
   nK (K8 gA P w K mg base N qual (D5 st) f cdv A outer s H E).nox (fun b=>H b≠none) (P0 st) mb):c8 P w K mg base gA (k+1) f fd ps (gU K ps.length (iO N.length mb)):=by
 have hpl:ps.length≤N.length:=by have:=Yy List.length S.pre;rw[Yh]at this;omega
 refine F.ok S (fun vs H Q E h=>?_) (fun cdv A outer s H vs Q E hr h=>?_)
 ·obtain⟨G,ws,r,ws',hl,ok,rl,_⟩:=h
  have:=rl.len;rw[Ql]at this;omega
 ·obtain⟨G,ws,r,ws',hl,ok,rl,e,k⟩:=h
  have hv:ws.length=vs.length:=by have:=rl.len;rwa [Ql]at this
  refine⟨_,hb cdv A outer s H E hr,?_⟩;have rl':=Cs (N:=N) rl ok (by omega)
  unfold iO at e;split at e
  ·rename_i d env em
   cases e;refine⟨G,_,_,env,rl',em,?_⟩;exact fun v σ' G' H' ev rp=>k v G' H' (AN rl ok (by omega) ev) rp
  ·rename_i ds env em
   cases e;refine⟨G,_,_,env,rl',em,?_⟩;intro a xs σ' G' H' ev nb no h' g' rp;refine k a xs G' H' (AN rl ok (by omega) ev) (Classical.byContradiction nb) ?_ h' g' rp
   rintro⟨i,w',es,e1,e2,e3⟩;obtain⟨w1,w2,q1,q2,q3⟩:=Ct e1;subst q3;obtain⟨q4,q5,q6,q7⟩:=FA (ok _ (Ys q1)) e2;have hi:i<vs.length:=by have:=(Qy.mp q1).1;omega
   exact no ⟨i,_,es,q2,q4,by rw[(ev.par i w2 q2 q5).1,U5 hi];exact e3⟩
  ·rename_i env em
   cases e;refine⟨G,_,_,env,rl',em,?_⟩;exact fun σ' G' H' ev=>k .non G' H' (AN rl ok (by omega) ev) (by simp only[a9])
  ·cases e
def slots:List Ar->List Nat
 |[]=>[]
 |.d _::r=>slots r
 |.sl i::r=>i::slots r
def Y4:Mu->W
 |.l ds=>.par ds
 |.d ks vs=>.parD ks vs
 |.x ks vs=>.parX ks vs
theorem JX(c:Mu):(Y4 c).mut=some c:=by cases c<;>rfl
theorem JY(c:Mu):(Y4 c).isPar=true:=by cases c<;>rfl
def N4(c:Mu):Ar->W
 |.d d=>.dat d
 |.sl _=>Y4 c
def Y5:List W->Option Mu
 |[]=>none
 |.par ds::_=>some (.l ds)
 |.parD ks vs::_=>some (.d ks vs)
 |.parX ks vs::_=>some (.x ks vs)
 |_::r=>Y5 r
def BR(n:Nat)(f:Fn)(as:Mo (List Ar)):Mo Rr:=fun env=>(as env).bind fun p=>if p.1.length=n then
 match slots p.1 with
 |[]=>(f (p.1.map (N4 (.l [])))).map fun q=>(q.1,p.2)
 |[i]=>(p.2[i]?).bind fun w=>w.mut.bind fun c=>(f (p.1.map (N4 c))).bind fun q=>(Y5 q.2).map fun c'=>(q.1,p.2.set i (w.putM c'))
 |_=>none
 else none
theorem O5:∀{as:List Ar},slots as=[]->∀(k j:Nat),as[k]? ≠some (.sl j)
 |[],_,k,j,e=>by simp at e
 |.d _::r,h,k,j,e=>by
  cases k with
  |zero=>simp at e
  |succ k=>exact O5 (as:=r) h k j (by simpa using e)
 |.sl i::r,h,k,j,e=>by simp[slots]at h
theorem FB:∀{as:List Ar}{i:Nat},slots as=[i]->∃k:Nat,as[k]? =some (.sl i)/\∀(k' j:Nat),as[k']? =some (.sl j)->k'=k/\j=i
 |[],_,h=>by simp[slots]at h
 |.d _::r,i,h=>by
  obtain⟨k,h1,h2⟩:=FB (as:=r) h;refine⟨k+1,by simpa using h1,fun k' j e=>?_⟩
  cases k' with
  |zero=>simp at e
  |succ k'=>
   obtain⟨a,b⟩:=h2 k' j (by simpa using e)
   exact⟨by omega,b⟩
 |.sl i'::r,i,h=>by
  simp only[slots,List.cons.injEq]at h;obtain⟨rfl,h⟩:=h;refine⟨0,by simp,fun k' j e=>?_⟩
  cases k' with
  |zero=>simp at e;exact⟨rfl,e.symm⟩
  |succ k'=>exact absurd (by simpa using e) (O5 h k' j)
theorem BS:∀{ws:List W}{c:Mu},Y5 ws=some c->∃k:Nat,ws[k]? =some (Y4 c)
 |[],_,h=>by simp[Y5]at h
 |.par ds::r,c,h=>by simp only[Y5,Zb]at h;subst h;exact⟨0,by simp[Y4]⟩
 |.parD ks vs::r,c,h=>by simp only[Y5,Zb]at h;subst h;exact⟨0,by simp[Y4]⟩
 |.parX ks vs::r,c,h=>by simp only[Y5,Zb]at h;subst h;exact⟨0,by simp[Y4]⟩
 |.ownX _ _::r,c,h=>by obtain⟨k,e⟩:=BS (ws:=r) h;exact⟨k+1,by simpa using e⟩
 |.nil::r,c,h=>by obtain⟨k,e⟩:=BS (ws:=r) h;exact⟨k+1,by simpa using e⟩
 |.dat _::r,c,h=>by obtain⟨k,e⟩:=BS (ws:=r) h;exact⟨k+1,by simpa using e⟩
 |.own _::r,c,h=>by obtain⟨k,e⟩:=BS (ws:=r) h;exact⟨k+1,by simpa using e⟩
 |.ownD _ _::r,c,h=>by obtain⟨k,e⟩:=BS (ws:=r) h;exact⟨k+1,by simpa using e⟩
section
variable{K:Qq}{G:Hp}{σ:St}
theorem gP.length:∀{as:List Ar}{vs:List V},gP K G σ vs as->vs.length=as.length
 |[],_,h=>by simp only[gP]at h;subst h;rfl
 |.d d::as,_,h=>by
  simp only[gP]at h;obtain⟨x,r,rfl,_,t⟩:=h
  simp[gP.length t]
 |.sl i::as,_,h=>by
  simp only[gP]at h;obtain⟨x,r,rfl,_,t⟩:=h
  simp[gP.length t]
theorem gP.getD:∀{as:List Ar}{vs:List V}{k:Nat}{d:D},gP K G σ vs as->as[k]? =some (.d d)->∃v,vs[k]? =some v/\a9 K G v d
 |[],_,k,d,h,e=>by simp at e
 |.d d'::as,_,k,d,h,e=>by
  simp only[gP]at h;obtain⟨x,r,rfl,q,t⟩:=h;cases k with
  |zero=>simp at e;subst e;exact⟨x,by simp,q⟩
  |succ k=>simpa using gP.getD (k:=k) t (by simpa using e)
 |.sl i::as,_,k,d,h,e=>by
  simp only[gP]at h;obtain⟨x,r,rfl,q,t⟩:=h;cases k with
  |zero=>simp at e
  |succ k=>simpa using gP.getD (k:=k) t (by simpa using e)
theorem gP.getS:∀{as:List Ar}{vs:List V}{k i:Nat},gP K G σ vs as->as[k]? =some (.sl i)->∃v,vs[k]? =some v/\σ[i]? =some (some v)
 |[],_,k,i,h,e=>by simp at e
 |.d d'::as,_,k,i,h,e=>by
  simp only[gP]at h;obtain⟨x,r,rfl,q,t⟩:=h;cases k with
  |zero=>simp at e
  |succ k=>simpa using gP.getS (k:=k) t (by simpa using e)
 |.sl i'::as,_,k,i,h,e=>by
  simp only[gP]at h;obtain⟨x,r,rfl,q,t⟩:=h;cases k with
  |zero=>simp at e;subst e;exact⟨x,by simp,q⟩
  |succ k=>simpa using gP.getS (k:=k) t (by simpa using e)
end
section
variable{K:Qq}{B:OE}{G:Hp}{σ:St}{env:c7}{H:Hp}{as:List Ar}{vs:List V}{c:Mu}
theorem AO:CA (as.map (N4 c)):=fun w hw=>by
 obtain⟨a,_,rfl⟩:=List.mem_map.mp hw;cases a with
 |d d=>exact .inl ⟨d,rfl⟩
 |sl i=>exact .inr (JY c)
theorem BU{k:Nat}{w:W}(e:(as.map (N4 c))[k]? =some w):(∃d,as[k]? =some (.d d)/\w=.dat d)\/ ∃j,as[k]? =some (.sl j)/\w=Y4 c:=by
 rw[Zc]at e;cases h:as[k]? with
 |none=>rw[h]at e;cases e
 |some a=>
  rw[h]at e;cases a with
  |d d=>cases e;exact .inl ⟨d,rfl,rfl⟩
  |sl j=>cases e;exact .inr ⟨j,rfl,rfl⟩
theorem JZ{k:Nat}{v:V}(h:vs[k]? =some v):(vs.map some)[k]? =some (some v):=by rw[Zc,h];rfl
theorem KA{k:Nat}{v:V}(h:(vs.map some)[k]? =some (some v)):vs[k]? =some v:=by
 rw[Zc]at h;cases e:vs[k]? with
 |none=>rw[e]at h;cases h
 |some u=>rw[e]at h;cases h;rfl
theorem AQ{i:Nat}{w:W}(rl:Rel K B G σ env H)(ra:gP K G σ vs as)(u:∀(k j:Nat),as[k]? =some (.sl j)->j=i/\env[i]? =some w/\w.mut=some c)(un:∀(k k' j j':Nat),as[k]? =some (.sl j)->as[k']? =some (.sl j')->k=k'):
  Rel K M6 G (vs.map some) (as.map (N4 c)) H:=by
 refine⟨rl.sub,by rw[Ql,Ql,ra.length],fun k d e=>?_,fun k v ds e1 e2=>?_,fun k k' v v' ds es a q1 q2 q3 q4 q5 q6=>?_,fun k w a e _ _ h=>h,fun b h=>h.elim,rl.tabs,rl.gnt⟩
 ·rcases BU e with⟨d',h1,h2⟩|⟨j,h1,h2⟩
  ·cases h2
   obtain⟨v,q1,q2⟩:=ra.getD h1;exact⟨v,JZ q1,q2⟩
  ·cases c<;>cases h2
 ·rcases BU e1 with⟨d',h1,h2⟩|⟨j,h1,h2⟩
  ·subst h2;cases e2
  ·subst h2;rw[JX]at e2;cases e2
   obtain⟨v,q1,q2⟩:=ra.getS h1;obtain⟨rfl,q3,q4⟩:=u k j h1;obtain⟨a,xs,q5,q6,q7,q8⟩:=rl.own j w c q3 q4;rw[q2]at q5;cases q5;exact⟨a,xs,JZ q1,q6,q7,q8⟩
 ·rcases BU q1 with⟨d',h1,h2⟩|⟨j,h1,h2⟩
  ·subst h2;cases q2
  ·rcases BU q3 with⟨d',h3,h4⟩|⟨j',h3,h4⟩
   ·subst h4;cases q4
   ·exact un k k' j j' h1 h3
theorem KB{i:Nat}(ra:gP K G σ vs as)(u:∀(k j:Nat),as[k]? =some (.sl j)->j=i){a:Addr}(h:d6 (vs.map some) (as.map (N4 c)) a):σ[i]? =some (some (V.ref a))/\∃k:Nat,as[k]? =some (Ar.sl i):=by
 obtain⟨k,v,ds,e1,e2,e3⟩:=h
 rcases BU e1 with⟨d',h1,h2⟩|⟨j,h1,h2⟩
 ·subst h2;cases e2
 ·obtain⟨v',q1,q2⟩:=ra.getS h1
  have:=u k j h1;subst this;have e4:=KA e3;rw[q1]at e4;cases e4;exact⟨q2,k,h1⟩
theorem AR{G2 H2:Hp}{ws':List W}(rl:Rel K B G σ env H)(ra:gP K G σ vs as)(hs:slots as=[])(ev:Ev K M6 G (vs.map some) (as.map (N4 c)) H G2 (vs.map some) ws' H2):Ev K B G σ env H G2 σ env H2:=by
 have no:∀a,¬ d6 (vs.map some) (as.map (N4 c)) a:=fun a z=>by
  obtain⟨_,k,e⟩:=KB (i:=0) ra (fun k j e=>absurd e (O5 hs k j)) z
  exact O5 hs k 0 e
 refine⟨⟨ev.rel.sub,rl.len,fun i d e=>?_,fun i w ds e1 e2=>?_,rl.inj,rl.fresh,fun b h=>ev.live b (rl.old b h),ev.rel.tabs,ev.rel.gnt⟩,ev.same,fun b o _ t e=>ev.keep b o (no b) t e,ev.live,fun b e _ g=>ev.stay b e (no b) g,fun a z=>.inl z,fun i w e hp=>⟨rfl,w,e,hp⟩,rfl⟩
 ·obtain⟨v,q1,q2⟩:=rl.dat i d e
  exact⟨v,q1,a9.mono ev.same d q2⟩
 ·obtain⟨a,xs,q1,q2,q3,q4⟩:=rl.own i w ds e1 e2
  exact⟨a,xs,q1,ev.keep a _ (no a) q3.nt q2,q3.mono ev.same,ev.stay a (by rw[q2];simp) (no a) q4⟩
theorem KC{G2 H2:Hp}{ws':List W}{i:Nat}{w:W}{c':Mu}(rl:Rel K B G σ env H)(ra:gP K G σ vs as)(hs:slots as=[i])(e1:env[i]? =some w)(e2:w.mut=some c)(hp:Y5 ws'=some c')
  (ev:Ev K M6 G (vs.map some) (as.map (N4 c)) H G2 (vs.map some) ws' H2):Ev K B G σ env H G2 σ (env.set i (w.putM c')) H2:=by
 obtain⟨k,hk,uk⟩:=FB hs;obtain⟨a,xs,h1,h2,h3,h4⟩:=rl.own i w c e1 e2;have ow:d6 σ env a:=⟨i,w,c,e1,e2,h1⟩;have isA:∀b,d6 (vs.map some) (as.map (N4 c)) b->b=a:=fun b z=>by
  obtain⟨q,_⟩:=KB ra (fun k j e=>(uk k j e).2) z
  rw[h1]at q;cases q;rfl
 obtain⟨k',hk'⟩:=BS hp;have ek:k'=k:=by
  obtain⟨_,d0,q,qp⟩:=ev.par k' _ hk' (JY c')
  rcases BU q with⟨d',z1,z2⟩|⟨j,z1,z2⟩
  ·subst z2;cases qp
  ·exact(uk k' j z1).1
 subst ek;obtain⟨a2,ys,g1,g2,g3,g4⟩:=ev.rel.own k' _ c' hk' (JX c');obtain⟨v,q1,q2⟩:=ra.getS hk;have g5:=KA g1;rw[q1]at g5;cases g5;rw[h1]at q2;cases q2;have wp:(w.putM c').mut=some c':=W.putM_mut e2 c';have nd:∀d,w.putM c'≠.dat d:=fun d z=>by rw[z]at wp;cases wp
 refine⟨⟨ev.rel.sub,by rw[Zp];exact rl.len,fun j d' q=>?_,fun j v es y1 y2=>?_,fun j m v v' es fs b y1 y2 y3 y4 y5 y6=>?_,fun j v b y1 yo y2=>?_,fun b h=>ev.live b (rl.old b h),ev.rel.tabs,ev.rel.gnt⟩,ev.same,fun b o n t e=>ev.keep b o (fun z=>n (isA b z ▸ ow)) t e,ev.live,fun b e n g=>ev.stay b e (fun z=>n (isA b z ▸ ow)) g,fun b z=>.inl ?_,fun j v q qp=>⟨rfl,?_⟩,rfl⟩
 ·rcases K1 q with⟨z1,z2⟩|⟨z1,z2⟩
  ·exact absurd z2.symm (nd d')
  ·obtain⟨v,q1,q2⟩:=rl.dat j d' z2
   exact⟨v,q1,a9.mono ev.same d' q2⟩
 ·rcases K1 y1 with⟨z1,z2⟩|⟨z1,z2⟩
  ·subst z1 z2
   rw[wp]at y2;cases y2;exact⟨a,ys,h1,g2,g3,g4⟩
  ·obtain⟨p,zs,f1,f2,f3,f4⟩:=rl.own j v es z2 y2
   have hp:p≠a:=fun z=>z1 (rl.inj j i v w es c a z2 y2 e1 e2 (by rw[f1,z]) h1)
   have np:¬ d6 (vs.map some) (as.map (N4 c)) p:=fun z=>hp (isA p z)
   exact⟨p,zs,f1,ev.keep p _ np f3.nt f2,f3.mono ev.same,ev.stay p (by rw[f2];simp) np f4⟩
 ·have g:∀(m:Nat) (v:W) (es:Mu),(env.set i (w.putM c'))[m]? =some v->v.mut=some es->∃v0 es0,env[m]? =some v0/\v0.mut=some es0:=fun m v es y1 y2=>by
   rcases K1 y1 with⟨z1,z2⟩|⟨z1,z2⟩
   ·rw[z1];exact⟨w,c,e1,e2⟩
   ·exact⟨v,es,z2,y2⟩
  obtain⟨v0,es0,x1,x2⟩:=g j v es y1 y2;obtain⟨v1,es1,x3,x4⟩:=g m v' fs y3 y4;exact rl.inj j m v0 v1 es0 es1 b x1 x2 x3 x4 y5 y6
 ·rcases K1 y1 with⟨z1,z2⟩|⟨z1,z2⟩
  ·subst z1
   exact rl.fresh j w b e1 (by rw[z2,W.putM_own e2]at yo;exact yo) y2
  ·exact rl.fresh j v b z2 yo y2
 ·obtain⟨j,v,es,y1,y2,y3⟩:=z
  rcases K1 y1 with⟨z1,z2⟩|⟨z1,z2⟩
  ·rw[z1,h1]at y3;cases y3;exact ow
  ·exact⟨j,v,es,z2,y2,y3⟩
 ·rcases K1 q with⟨z1,z2⟩|⟨z1,z2⟩
  ·subst z1
   exact⟨w,e1,by rw[z2,W.putM_par e2]at qp;exact qp⟩
  ·exact⟨v,z2,qp⟩
end
def uA:Rr×c7->Option (D×c7)
 |(.d d,e)=>some (d,e)
 |_=>none
def uB:Rr×c7->Option (List D×c7)
 |(.l d,e)=>some (d,e)
 |_=>none
def gJ(n:Nat)(f:Fn)(as:Mo (List Ar)):Mo D:=fun env=>(BR n f as env).bind uA
def Q6(n:Nat)(f:Fn)(as:Mo (List Ar)):Mo (List D):=fun env=>(BR n f as env).bind uB
def RF(K:Qq)(B:OE)(G:Hp)(σ:St)(env:c7)(H:Hp)(env':c7)(Q:VK):Rr->Prop
 |.d d=>∀v G' H',Ev K B G σ env H G' σ env' H'->a9 K G' v d->Q v H'
 |.l ds=>∀a xs G' H',Ev K B G σ env H G' σ env' H'->H a=none-> ¬ d6 σ env' a->H' a=some (.lst xs)->G' a=none->B9 K G' xs ds->Q (.ref a) H'
theorem FC{K:Qq}{B:OE}{n:Nat}{f:Fn}{as:Mo (List Ar)}{σ:St}{H:Hp}{G:Hp}{env env':c7}{r:Rr}{Q:VK}{E:XK}(rl:Rel K B G σ env H)(e:BR n f as env=some (r,env'))
  (k:RF K B G σ env H env' Q r):
  Ed (gU K n f) [] E (sP K B as) σ H Q:=by
 obtain⟨⟨av,a8⟩,e1,e2⟩:=C8 e;dsimp only at e2;split at e2
 ·rename_i hn
  refine⟨G,env,av,a8,rl,e1,fun vs G1 H1 ev ra=>?_⟩
  show gU K n f (vs++[]) H1 Q E;rw[Yr];have hnone:∀a,H1 a=none->H a=none:=fun a h=>by
   cases q:H a with
   |none=>rfl
   |some o=>exact absurd h (ev.live a (by rw[q];simp))
  split at e2
  ·rename_i hs
   obtain⟨⟨r',ws'⟩,e3,e4⟩:=E8 e2;cases e4;refine⟨G1,av.map (N4 (.l [])),r',ws',by rw[Ql];exact hn,AO,AQ (i:=0) (w:=.nil) ev.rel ra (fun k j e=>absurd e (O5 hs k j)) (fun k k' j j' e=>absurd e (O5 hs k j)),e3,?_⟩
   cases r' with
   |d d=>exact fun v G2 H2 d5 rp=>k v G2 H2 (ev.trans (AR ev.rel ra hs d5)) rp
   |l ds=>
    intro a xs G2 H2 d5 ha no h' g' rp;exact k a xs G2 H2 (ev.trans (AR ev.rel ra hs d5)) (hnone a ha) (ev.rel.unowned ha) h' g' rp
  ·rename_i i hs
   obtain⟨w,e3,e4⟩:=C8 e2;obtain⟨c,e5,e6⟩:=C8 e4;obtain⟨⟨r',ws'⟩,e7,e8⟩:=C8 e6;obtain⟨c',e9,e10⟩:=E8 e8;cases e10;obtain⟨kk,hk,uk⟩:=FB hs;refine⟨G1,av.map (N4 c),r',ws',by rw[Ql];exact hn,AO,AQ (i:=i) (w:=w) ev.rel ra (fun k j e=>⟨(uk k j e).2,e3,e5⟩) (fun k k' j j' h1 h2=>(uk k j h1).1.trans (uk k' j' h2).1.symm),e7,?_⟩
   cases r' with
   |d d=>exact fun v G2 H2 d5 rp=>k v G2 H2 (ev.trans (KC ev.rel ra hs e3 e5 e9 d5)) rp
   |l ds=>
    intro a xs G2 H2 d5 ha no h' g' rp;have evc:=KC ev.rel ra hs e3 e5 e9 d5;refine k a xs G2 H2 (ev.trans evc) (hnone a ha) (fun z=>?_) h' g' rp
    rcases evc.sub a z with q|q
    ·exact ev.rel.unowned ha q
    ·obtain⟨j,v,es,y1,y2,y3⟩:=z
     rcases K1 y1 with⟨z1,z2⟩|⟨z1,z2⟩
     ·subst z1
      exact ev.rel.unowned ha ⟨j,w,c,e3,e5,y3⟩
     ·exact ev.rel.unowned ha ⟨j,v,es,z2,y2,y3⟩
  ·cases e2
 ·cases e2
section
variable{X:Cx}{B:OE}{pos p:Pos}{e:Expr}{es:List Expr}{as:Mo (List Ar)}{fn:Fn}{k:Nat}{f:Addr}{fd:FuncData}{ps:List Str}{x:Str}
theorem RG(F:c8 X.prog X.w X.K X.mg X.base gA k f fd ps (gU X.K ps.length fn))(hr:fA k X.A)(hg:Gl X x)(hm:X.mg x=some (.ref f))(hk:PySem.W.keepIn X.K (.ref f)=true)(hb:L8 X.K fd ps [])
  (ha:n9 X B (e::es) as)(hdb:(x==("__debug__":Str))=false:=by decide)(he:starEach (e::es) X.env=(false,eval e X.env)::starEach es X.env:=by rfl)(hpl:(backTo pos (starEach es X.env)).any (·.1)=false:=by rfl):
  ED X B (.Call (.Name x p) (e::es) [] pos) (gJ ps.length fn as):=by
 refine d9 (Eg F hr hg hm hk hb .nil BI ha hdb he hpl) ?_
 rintro σ H Q ⟨G,env,d,env',rl,e,k⟩;obtain⟨⟨r,a8⟩,e1,e2⟩:=C8 e;cases r with
 |d d'=>cases e2;exact FC rl e1 k
 |l ds=>cases e2
theorem RH(F:c8 X.prog X.w X.K X.mg X.base gA k f fd ps (gU X.K ps.length fn))(hr:fA k X.A)(hg:Gl X x)(hm:X.mg x=some (.ref f))(hk:PySem.W.keepIn X.K (.ref f)=true)(hb:L8 X.K fd ps [])
  (ha:n9 X B (e::es) as)(hdb:(x==("__debug__":Str))=false:=by decide)(he:starEach (e::es) X.env=(false,eval e X.env)::starEach es X.env:=by rfl)(hpl:(backTo pos (starEach es X.env)).any (·.1)=false:=by rfl):
  EL X B (.Call (.Name x p) (e::es) [] pos) (Q6 ps.length fn as):=by
 refine d9 (Eg F hr hg hm hk hb .nil BI ha hdb he hpl) ?_
 rintro σ H Q ⟨G,env,d,env',rl,e,k⟩;obtain⟨⟨r,a8⟩,e1,e2⟩:=C8 e;cases r with
 |d d'=>cases e2
 |l ds=>cases e2;exact FC rl e1 k
end
def M0(cells:List (Str×Addr)):List (Str×NameKind)->List (Str×Addr)->List (Str×Addr)
 |[],acc=>acc
 |(n,k)::r,acc=>if k==.free then(match cells.lookup n with
  |some c=>M0 cells r ((n,c)::acc)
  |none=>M0 cells r acc)else M0 cells r acc
theorem P7{α:Type}{n x:Str}{a:α}{r:List (Str×α)}:((n,a)::r).lookup x=if x=n then some a else r.lookup x:=by
 rw[List.lookup_cons]
 by_cases h:x=n
 ·subst h;simp
 ·have:(x==n)=false:=by simpa using h
  rw[this,Qd h]
theorem Y6{cells:List (Str×Addr)}:∀{names:List (Str×NameKind)}{acc:List (Str×Addr)}{x:Str}{c:Addr},(M0 cells names acc).lookup x=some c->acc.lookup x=some c\/cells.lookup x=some c
 |[],acc,x,c,h=>.inl h
 |(n,k)::r,acc,x,c,h=>by
  unfold M0 at h;split at h
  ·split at h
   ·rename_i c' hc
    rcases Y6 h with q|q
    ·rw[P7]at q
     split at q
     ·rename_i e;subst e;cases q;exact .inr hc
     ·exact .inl q
    ·exact .inr q
   ·exact Y6 h
  ·exact Y6 h
theorem Cu{cells:List (Str×Addr)}:∀{names:List (Str×NameKind)}{acc:List (Str×Addr)}{x:Str},(acc.lookup x).isSome=true->((M0 cells names acc).lookup x).isSome=true
 |[],acc,x,h=>h
 |(n,k)::r,acc,x,h=>by
  unfold M0;split
  ·split
   ·refine Cu ?_
    rw[P7];split<;>simp[h]
   ·exact Cu h
  ·exact Cu h
theorem AS{cells:List (Str×Addr)}:∀{names:List (Str×NameKind)}{acc:List (Str×Addr)}{x:Str},(x,NameKind.free)∈names->(cells.lookup x).isSome=true->((M0 cells names acc).lookup x).isSome=true
 |[],acc,x,h,_=>by cases h
 |(n,k)::r,acc,x,h,hc=>by
  unfold M0
  rcases Qg.mp h with e|h
  ·cases e
   rw[Qt (by decide)]
   split
   ·refine Cu ?_
    rw[P7];simp
   ·rename_i hn;rw[hn]at hc;cases hc
  ·split
   ·split
    ·exact AS h hc
    ·exact AS h hc
   ·exact AS h hc
theorem FD:∀{names:List (Str×NameKind)}{h:Heap}{acc:List (Str×Addr)}{x:Str}{c:Addr},(cellsFrom h.objs.size names acc).lookup x=some c->
  acc.lookup x=some c\/((pushCells h names).IsCell c none/\h.objs.size≤c/\(x,NameKind.cell)∈names)
 |[],h,acc,x,c,q=>.inl q
 |(n,k)::r,h,acc,x,c,q=>by
  unfold cellsFrom at q;unfold pushCells;split at q
  ·rename_i hk
   rw[Qt hk];have hk':k=.cell:=by simpa using hk
   have ih:=FD (names:=r) (h:=h.push {cls:=.type "cell",data:=.cell none}) (acc:=(n,h.objs.size)::acc) (x:=x) (c:=c) (by rw[Zy];exact q)
   rcases ih with z|⟨z1,z2,z3⟩
   ·rw[P7]at z
    split at z
    ·rename_i e;subst e;cases z
     exact .inr ⟨⟨_,Jh _ _ _ _ (Qw _ rfl),rfl⟩,Qv _,by rw[hk'];exact Yx⟩
    ·exact .inl z
   ·rw[Zy]at z2
    exact .inr ⟨z1,by omega,Qi _ z3⟩
  ·rename_i hk
   rw[Qd hk]
   rcases FD q with z|⟨z1,z2,z3⟩
   ·exact .inl z
   ·exact .inr ⟨z1,z2,Qi _ z3⟩
theorem FE:∀{names:List (Str×NameKind)}{n:Nat}{acc:List (Str×Addr)},(∀x y c,acc.lookup x=some c->acc.lookup y=some c->x=y)->(∀x c,acc.lookup x=some c->c<n)->
  ∀x y c,(cellsFrom n names acc).lookup x=some c->(cellsFrom n names acc).lookup y=some c->x=y
 |[],n,acc,h1,h2=>h1
 |(m,k)::r,n,acc,h1,h2=>by
  unfold cellsFrom;split
  ·refine FE (names:=r) (fun x y c q1 q2=>?_) (fun x c q=>?_)
   ·rw[P7]at q1 q2
    split at q1<;>split at q2
    ·rename_i e1 e2;rw[e1,e2]
    ·cases q1;exact absurd (h2 _ _ q2) (Za _)
    ·cases q2;exact absurd (h2 _ _ q1) (Za _)
    ·exact h1 x y c q1 q2
   ·rw[P7]at q
    split at q
    ·cases q;exact Vu _
    ·exact Jx (h2 _ _ q)
  ·exact FE (names:=r) h1 h2
theorem Cv{env:Env}{x:Str}:∀{names:List (Str×NameKind)},((names.map fun(n,k)=>if(k==NameKind.free&&env.scope.kind==.function&&env.kindOf n==some .cell)then(n,NameKind.cell)else(n,k)).lookup x)=
  (names.lookup x).map fun k=>if(k==NameKind.free&&env.scope.kind==.function&&env.kindOf x==some .cell)then NameKind.cell else k
 |[]=>rfl
 |(n,k)::r=>by
  have ih:=Cv (env:=env) (x:=x) (names:=r)
  show List.lookup x ((if(k==NameKind.free&&env.scope.kind==.function&&env.kindOf n==some .cell)=true then(n,NameKind.cell)else(n,k))::_)=_
  by_cases hx:x=n
  ·subst hx
   rw[P7 (a:=k),Qt rfl]
   by_cases hc:(k==NameKind.free&&env.scope.kind==.function&&env.kindOf x==some .cell)=true
   ·rw[Qt hc,P7,Qt rfl]
    show _=some (if(k==NameKind.free&&env.scope.kind==.function&&env.kindOf x==some .cell)=true then NameKind.cell else k)
    rw[Qt hc]
   ·rw[Qd hc,P7,Qt rfl]
    show _=some (if(k==NameKind.free&&env.scope.kind==.function&&env.kindOf x==some .cell)=true then NameKind.cell else k)
    rw[Qd hc]
  ·rw[P7 (a:=k),Qd hx]
   by_cases hc:(k==NameKind.free&&env.scope.kind==.function&&env.kindOf n==some .cell)=true
   ·rw[Qt hc,P7,Qd hx];exact ih
   ·rw[Qd hc,P7,Qd hx];exact ih
theorem Cw:∀{names:List (Str×NameKind)}{n:Nat}{acc:List (Str×Addr)}{x:Str}{c0:Addr},acc.lookup x=some c0->∃c,(cellsFrom n names acc).lookup x=some c/\(c=c0\/n≤c)
 |[],n,acc,x,c0,h=>⟨c0,h,.inl rfl⟩
 |(m,k)::r,n,acc,x,c0,h=>by
  unfold cellsFrom;split
  ·by_cases hx:x=m
   ·obtain⟨c,h1,h2⟩:=Cw (names:=r) (n:=n+1) (acc:=(m,n)::acc) (x:=x) (c0:=n) (by rw[P7,Qt hx])
    exact⟨c,h1,.inr (h2.elim (fun z=>Vy z.symm) fun z=>Jk z)⟩
   ·obtain⟨c,h1,h2⟩:=Cw (names:=r) (n:=n+1) (acc:=(m,n)::acc) (x:=x) (c0:=c0) (by rw[P7,Qd hx];exact h)
    exact⟨c,h1,h2.elim .inl fun z=>.inr (Jk z)⟩
  ·exact Cw h
theorem FF:∀{names:List (Str×NameKind)}{n:Nat}{acc:List (Str×Addr)}{x:Str},(x,NameKind.cell)∈names->∃c,(cellsFrom n names acc).lookup x=some c/\n≤c
 |[],n,acc,x,h=>by cases h
 |(m,k)::r,n,acc,x,h=>by
  unfold cellsFrom
  rcases Qg.mp h with e|h
  ·cases e
   rw[Qt (by decide)]
   obtain⟨c,h1,h2⟩:=Cw (names:=r) (n:=n+1) (acc:=(m,n)::acc) (x:=m) (c0:=n) (by rw[P7,Qt rfl])
   exact⟨c,h1,h2.elim (fun z=>Vy z.symm) fun z=>Jk z⟩
  ·split
   ·obtain⟨c,h1,h2⟩:=FF (names:=r) (n:=n+1) (acc:=(m,n)::acc) h
    exact⟨c,h1,Jk h2⟩
   ·exact FF h
def T3(scope:Scope)(env:Env)(C:Addr):Env:=
 {scope:=relabel scope env,locals:=C,globals:=env.globals,cells:=cellsFrom (C+1) scope.names (M0 env.cells scope.names []),qual:=env.qual,func:=none,code:=env.code,frame:=env.frame,builtins:=env.builtins}
def D7(X:Cx)(N':List Str)(scope:Scope)(s:Shared)(H:Hp)(fp:List Addr):Cx where
 prog:=X.prog
 w:=X.w
 K:=X.K
 mg:=X.mg
 base:=X.base
 A:=X.A
 N:=N'
 s₀:=s
 H₀:=H
 env:=T3 scope X.env s.heap.objs.size
 outer:=X.stack
 stack:=X.stack
 ex:=fp
 fn:=fun x=>scope.names.lookup x==some .cell
 calm:=X.calm
 pn:=[]
 xe:=fun _ _=>False
structure gM(X:Cx)(N':List Str)(scope:Scope)(keep:List Bool)(more:Nat):Prop where
 kind:scope.kind=.function
 uniq:∀y∈scope.names,scope.names.lookup y.1=some y.2
 clos:closureFor scope X.env=pure (M0 X.env.cells scope.names [])
 free:∀y∈scope.names,y.2=.free->(X.env.cells.lookup y.1).isSome=true
 klen:keep.length=X.N.length
 len:N'.length=X.N.length+more
 kept:∀(i:Nat) (x:Str),keep[i]? =some true->N'[i]? =some x->X.N[i]? =some x/\scope.names.lookup x≠some .local/\scope.names.lookup x≠some .cell
 outVis:∀(i:Nat) (x:Str),keep[i]? =some true->X.N[i]? =some x->scope.names.lookup x=some .free->X.env.scope.names.lookup x=some .cell\/X.env.scope.names.lookup x=some .free
def J0(keep:List Bool)(more:Nat)(σ:St):St:=List.zipWith (fun k v=>if k then v else none) keep σ++List.replicate more none
theorem AU{keep:List Bool}{more:Nat}{σ:St}{i:Nat}{v:V}(h:(J0 keep more σ)[i]? =some (some v)):keep[i]? =some true/\σ[i]? =some (some v):=by
 unfold J0 at h
 rcases Y3 h with⟨_,h⟩|⟨_,h⟩
 ·rw[Jz]at h
  cases e1:keep[i]? with
  |none=>rw[e1]at h;cases h
  |some k=>
   cases e2:σ[i]? with
   |none=>rw[e1,e2]at h;cases h
   |some u=>
    rw[e1,e2]at h;cases k with
    |true=>simp at h;exact⟨rfl,by rw[h]⟩
    |false=>simp at h
 ·cases h
theorem FG{X:Cx}{N':List Str}{scope:Scope}{keep:List Bool}{more:Nat}{pins:OA}{σ:St}{H:Hp}{s:Shared}{fp:List Addr}(ok:gM X N' scope keep more)(I:Inv X pins σ H s)
  (hf:∀b∈fp,J4 X pins H b/\b<s.heap.objs.size):
  Inv (D7 X N' scope s H fp) [] (J0 keep more σ) H {s with heap:=pushCells (s.heap.push {cls:=.type "dict",data:=.dict #[]}) scope.names}:=by
 have hsz:(s.heap.push {cls:=.type "dict",data:=.dict #[]}).objs.size=s.heap.objs.size+1:=Zy ..
 have keepAll:∀b u,s.heap.get? b=some u->(pushCells (s.heap.push {cls:=.type "dict",data:=.dict #[]}) scope.names).get? b=some u:=fun b u e=>Jh _ _ _ _ (Qj _ e)
 have cases':∀x c,(T3 scope X.env s.heap.objs.size).cells.lookup x=some c->X.env.cells.lookup x=some c\/((pushCells (s.heap.push {cls:=.type "dict",data:=.dict #[]}) scope.names).IsCell c none/\s.heap.objs.size+1≤c/\(x,NameKind.cell)∈scope.names):=fun x c e=>by
  have e':(cellsFrom ((s.heap.push {cls:=.type "dict",data:=.dict #[]}).objs.size) scope.names (M0 X.env.cells scope.names [])).lookup x=some c:=by rw[hsz];exact e
  rcases FD e' with z|⟨z1,z2,z3⟩
  ·rcases Y6 z with y|y
   ·cases y
   ·exact .inl y
  ·rw[hsz]at z2;exact .inr ⟨z1,z2,z3⟩
 have cellLt:∀x c,X.env.cells.lookup x=some c->c<s.heap.objs.size:=fun x c e=>by
  obtain⟨v,q⟩:=I.cell x c e;exact q.lt
 have fsSub:∀b∈iN X.stack,b<s.heap.objs.size:=fun b hb=>by
  obtain⟨_,o,ho,_⟩:=I.stack.mem hb;exact Qk ho
 refine⟨⟨I.ok.mod,?_,I.ok.glob,I.ok.blt,Qv _,fun x y c e1 e2=>?_,fun x hx=>?_,fun x c e1 e2=>?_,I.ok.hd,I.ok.frames,.inl rfl,fun b hb=>?_,I.bs,Qe I.ok.bsz I.sz,fun b o e hb=>?_,fun b hb hb2=>?_,I.stack,I.stkFree⟩,
  rfl,I.bare,Un.kept keepAll,⟨fun _=>none,(Heap.Ns.new s.heap (.type "dict")).keeps (Jh _ _),fun i x v e1 e2 e3=>?_⟩,fun x c e=>?_,I.hok.fresh (Qv _),fun x c e=>?_,fun p hp=>absurd (show p∈([]:OA)from hp) (by simp),I.hok.kept keepAll,?_⟩
 ·show(relabel scope X.env).kind=.function
  exact ok.kind
 ·refine FE (names:=scope.names) (n:=s.heap.objs.size+1) (acc:=M0 X.env.cells scope.names []) (fun x y c q1 q2=>?_) (fun x c q=>?_) x y c e1 e2
  ·rcases Y6 q1 with z1|z1
   ·cases z1
   ·rcases Y6 q2 with z2|z2
    ·cases z2
    ·exact I.ok.inj x y c z1 z2
  ·rcases Y6 q with z1|z1
   ·cases z1
   ·exact Jx (cellLt x c z1)
 ·have hx':(relabel scope X.env).names.lookup x=some .cell\/(relabel scope X.env).names.lookup x=some .free:=hx
  have h1:scope.names.lookup x=some .cell\/scope.names.lookup x=some .free:=by
   unfold relabel at hx';rw[Cv]at hx';cases q:scope.names.lookup x with
   |none=>rw[q]at hx';simp at hx'
   |some k=>
    rw[q]at hx';cases k<;>simp at hx'<;>first|exact .inl rfl|exact .inr rfl
  refine Zl.mp (Jn scope.names _ _ ?_)
  rcases h1 with h1|h1
  ·exact .inl h1
  ·exact .inr (AS (Qo h1) (ok.free _ (Qo h1) rfl))
 ·have e1':scope.names.lookup x=some .cell:=by simpa [D7]using e1
  obtain⟨c',q1,q2⟩:=FF (names:=scope.names) (n:=s.heap.objs.size+1) (acc:=M0 X.env.cells scope.names []) (Qo e1');have e2':(cellsFrom (s.heap.objs.size+1) scope.names (M0 X.env.cells scope.names [])).lookup x=some c:=e2;rw[q1]at e2';cases e2';exact Jk q2
 ·refine⟨Qh (hf b hb).2,fun x c e z=>?_⟩
  rcases cases' x c e with y|⟨_,y,_⟩
  ·exact(hf b hb).1.2.2.2.2.1 x c y z
  ·exact absurd (Qu (hf b hb).2 (Jk y)) (by rw[z];exact Za _)
 ·have:=(I.bs b o e).1
  rcases(hf b hb).1.2.2.2.1 with z|z
  ·exact I.ok.noex b o e z
  ·exact absurd (Qu (Qk e) (Qe I.ok.bsz z)) (Za _)
 ·rcases Qg.mp (I.stkSub b hb2)with z|z
  ·exact(hf b hb).1.2.1 z
  ·exact(hf b hb).1.2.2.1 z
 ·obtain⟨k1,k2⟩:=AU e2
  obtain⟨h1,h2,h3⟩:=ok.kept i x k1 e1;have e3':(relabel scope X.env).names.lookup x=some .local\/(relabel scope X.env).names.lookup x=some .cell\/(relabel scope X.env).names.lookup x=some .free:=e3;have hfree:scope.names.lookup x=some .free:=by
   unfold relabel at e3';rw[Cv]at e3';cases q:scope.names.lookup x with
   |none=>rw[q]at e3';simp at e3'
   |some k=>
    rw[q]at e3' h2 h3;cases k<;>simp at e3' h2 h3<;>rfl
  obtain⟨m,hn,hl⟩:=I.loc;have ov:=ok.outVis i x k1 h1 hfree;obtain⟨u,r,l⟩:=hl i x v h1 k2 (.inr ov);refine⟨u,r,.inr ?_⟩;obtain⟨c0,hc0⟩:=Zl.mp (ok.free _ (Qo hfree) rfl);have hcell:s.heap.IsCell c0 (some u):=by
   rcases l with⟨kl,_⟩|⟨_,c,hc,hz⟩
   ·have kl':X.env.scope.names.lookup x=some .local:=kl
    rcases ov with z|z<;>(rw[z]at kl';cases kl')
   ·have hc':X.env.cells.lookup x=some c:=hc
    have hc0':X.env.cells.lookup x=some c0:=hc0
    rw[hc']at hc0';cases hc0';exact hz
  have hk:(T3 scope X.env s.heap.objs.size).kindOf x=some .cell\/(T3 scope X.env s.heap.objs.size).kindOf x=some .free:=by
   show(relabel scope X.env).names.lookup x=some .cell\/(relabel scope X.env).names.lookup x=some .free
   rcases e3' with z|z
   ·exfalso
    unfold relabel at z;rw[Cv,hfree]at z;simp only[Option.map_some,Zb]at z;split at z<;>cases z
   ·exact z
  refine⟨hk,c0,?_,hcell.keeps keepAll⟩;obtain⟨c1,hc1⟩:=Zl.mp (Jn (x:=x) scope.names (s.heap.objs.size+1) (M0 X.env.cells scope.names []) (.inr (AS (Qo hfree) (ok.free _ (Qo hfree) rfl))));have hc1':(T3 scope X.env s.heap.objs.size).cells.lookup x=some c1:=hc1
  rcases cases' x c1 hc1' with z|⟨_,_,z⟩
  ·have hc0':X.env.cells.lookup x=some c0:=hc0
   rw[hc0']at z;cases z;exact hc1'
  ·have:=ok.uniq _ z
   rw[hfree]at this;cases this
 ·rcases cases' x c e with y|⟨y,_,_⟩
  ·obtain⟨v,q⟩:=I.cell x c y
   exact⟨v,q.keeps keepAll⟩
  ·exact⟨none,y⟩
 ·rcases cases' x c e with y|⟨_,y,_⟩
  ·exact I.freeC x c y
  ·exact I.hok.fresh (by omega)
 ·show(J0 keep more σ).length=N'.length
  unfold J0;rw[Zq,Yj,Zg,ok.len,ok.klen,I.len]
  omega
section
variable{prog:Program}{w:World}{A:Around}{R:Result->Shared->Prop}{s:Shared}
theorem RI{elt target iter:Expr}{ifs:List Expr}{scope:Scope}{pos:Pos}{it acc:Value}{env:Env}(I:Nat->Shared->Prop)
  (turn:∀n s,I n s->wpAny (model prog w) A (pyNext it) (fun r s₁=>match r with
   |none=>R (.ok .next) s₁
   |some v=>wpAny (model prog w) A (letOwnedTupleGo target it v) (fun _ s₁'=>wpAny (model prog w) A (assign target env v) (fun _ s₂=>
     wpAny (model prog w) A (forIn ifs true fun c r=>if r=true then do let ok←isTrue c env (eval c env);pure (ForInStep.yield ok)else pure (ForInStep.yield r)) (fun ok s₃=>
      if ok=true then wpAny (model prog w) A (eval elt env) (fun x s₄=>
       wpAny (model prog w) A (call (.builtin "list.append") [acc,x]) (fun _ s₅=>∃m,m<n/\I m s₅) (fun _ _=>False) s₄) (fun _ _=>False) s₃
      else∃m,m<n/\I m s₃) (fun _ _=>False) s₂) (fun _ _=>False) s₁') (fun _ _=>False) s₁) (fun _ _=>False) s)
  (n:Nat)(h:I n s):
  codeAny (model prog w) A (.compLoop (.ListComp elt [⟨target,iter,ifs,0⟩] scope pos) 0 it acc env) R s:=by
 refine codeAny_loop rfl I (fun n s hI=>?_) n h
 show wpAny _ A ((compTurn (.ListComp elt [⟨target,iter,ifs,0⟩] scope pos) 0 it acc env).onRaise (fun x=>do noteFrame x env;theTreesLotGoes x)) _ _ s
 refine wpAny_noted ?_
 rw[compTurn_list];refine Qz (Ye (Qz (Qb (turn n s hI) (fun r s₁ h₁=>?_) fun _ _ h'=>h'.elim)))
 cases r with
 |none=>exact Qx h₁
 |some v=>
  refine Qz (Qb h₁ (fun _ s₁' h₁'=>?_) fun _ _ h'=>h'.elim)
  refine Qz (Qb h₁' (fun _ s₂ h₂=>Qz (Qb h₂ (fun ok s₃ h₃=>?_) fun _ _ h'=>h'.elim)) fun _ _ h'=>h'.elim)
  cases ok with
  |false=>exact Qx ⟨rfl,h₃⟩
  |true=>
   exact Qz (Qz (Qb h₃ (fun x s₄ h₄=>Qz (Qb h₄ (fun _ s₅ h₅=>Qx (Qx ⟨rfl,h₅⟩)) fun _ _ h'=>h'.elim)) fun _ _ h'=>h'.elim))
theorem FH{M:Model}{E:OU}{scope:Scope}{env:Env}{Q:Env->Shared->Prop}(cl:List (Str×Addr))
  (h:Q {scope:=scope,locals:=s.heap.objs.size,globals:=env.globals,cells:=cellsFrom (s.heap.objs.size+1) scope.names cl,qual:=env.qual,func:=none,code:=env.code,frame:=env.frame,builtins:=env.builtins}
   {s with heap:=pushCells (s.heap.push {cls:=.type "dict",data:=.dict #[]}) scope.names}):
  wpAny M A (newFunctionEnv scope env.globals cl [] env.qual none .none (some env)) Q E s:=by
 simp only[newFunctionEnv,Option.isSome_some,Zd];refine Qz (wpAny_alloc ?_);refine Qz (wpAny_layCells _ (fun name kind cells=>by cases hkc:kind==NameKind.cell<;>simp[hkc]) _ _ _ _ ?_)
 rw[show({s with heap:=s.heap.push {cls:=.type "dict",data:=.dict #[]}}:Shared).heap.objs.size=s.heap.objs.size+1 from Zy ..]
 exact Qz (by rw[Ji];exact Qx (Qx h))
end
def N9(X:Cx)(ifs:List Expr)(t:TT):Prop:=
 ∀(pins:OA) (s:Shared) (σ:St) (H:Hp) (Q:Bool->Hp->Prop),Inv X pins σ H s->t σ H Q->
  wpAny (model X.prog X.w) X.A (forIn ifs true fun c r=>if r=true then do let ok←isTrue c X.env (eval c X.env);pure (ForInStep.yield ok)else pure (ForInStep.yield r)) (TP X pins σ Q) X.xe s
theorem RJ{X:Cx}:N9 X [] (fun _ H Q=>Q true H):=fun _ _ _ H _ I h=>wpAny_tests_nil ⟨H,I,h⟩
theorem RK{X:Cx}{c:Expr}{t:TT}(h:PT X c t):N9 X [c] t:=fun pins s σ H Q I q=>wpAny_tests_one (h pins s σ H Q I q)
def KD(J:It)(g:TG)(tt:TT)(te:TE)(p:Addr)(σ₀:St)(H₀:Hp)(Q:Hp->Prop):Prop:=
 ∃W:Nat->Nat->St->Hp->Prop,(∃m,W 0 m σ₀ (upd H₀ p (.lst [])))/\∀i m σ H,W i m σ H->
  (J.stop i H/\Q H)\/(J.go i H/\∀x H',J.yld i H x H'->g x σ H' fun σ2 H2=>tt σ2 H2 fun b H3=>
   if b=true then te σ2 H3 fun y H4=>∃ys,H4 p=some (.lst ys)/\ys.length<sizeLine/\∃m',m'<m/\W (i+1) m' σ2 (upd H4 p (.lst (ys++[y])))
   else∃m',m'<m/\W (i+1) m' σ2 H3)
section
variable{X:Cx}{N':List Str}{scope:Scope}{keep:List Bool}{more:Nat}{tg iter elt:Expr}{ifs:List Expr}{g:TG}{tt:TT}{te:TE}{pos:Pos}
theorem RL{E:OU}{pins:OA}{σ:St}{H:Hp}{s:Shared}{it:Addr}{fp:List Addr}{tn:Nat->Heap->Prop}{J:It}{Qf:Addr->Hp->Prop}{RR:Value->Addr->Result->Shared->Prop}
  (ok:gM X N' scope keep more)(hc:X.calm=true)(hg:∀s H fp,PG (D7 X N' scope s H fp) tg g)(ht:∀s H fp,N9 (D7 X N' scope s H fp) ifs tt)(he:∀s H fp,PE (D7 X N' scope s H fp) elt te)
  (I:Inv X pins σ H s)(T:Turn X.prog X.w X.K tg J fp it tn)(st:tn 0 s.heap)(hf:∀b∈fp,J4 X pins H b)
  (run:∀p,H p=none->KD J g tt te p (J0 keep more σ) H (Qf p))
  (hRR:∀p C s' H' m,Inv X pins σ H' s'->Qf p H'->s'.heap.Ns C m->C≠X.env.locals->(∀x c,X.env.cells.lookup x=some c->c≠C)->H' C=none->(∀σ'' H'' s'' h',Inv X pins σ'' H'' s''->H'' C=none->Heap.SameBut C s''.heap h'->Inv X pins σ'' H'' {s'' with heap:=h'})->RR (.ref p) C (.ok .next) s'):
  wpAny (model X.prog X.w) X.A (newList []) (fun acc s₃=>wpAny (model X.prog X.w) X.A (newFunctionEnv scope X.env.globals (M0 X.env.cells scope.names []) [] X.env.qual none .none (some X.env)) (fun cenv s₄=>
   codeAny (model X.prog X.w) X.A (.compStart (.ListComp elt [⟨tg,iter,ifs,0⟩] scope pos) 0 (.ref it) acc {cenv with scope:=relabel scope X.env}) (RR acc cenv.locals) s₄) E s₃) E s:=by
 have hp0:H s.heap.objs.size=none:=I.hok.fresh (Qv _)
 refine Yq ?_
 have I3:Inv X pins σ (upd H s.heap.objs.size (.lst [])) {s with heap:=s.heap.push {cls:=.type "list",dict:=none,data:=.seq ([]:List Value).toArray}}:=
  I.laid (t':=s.toks) (fun b u e=>Qj _ e) (Qv _) ⟨Yb _,[],0,.nil,Qw _ rfl⟩
 have fpOld:∀b∈fp,b<s.heap.objs.size:=fun b hb=>by
  obtain⟨o,e,_⟩:=T.obj 0 _ st b hb;exact Qk e
 have hf3:∀b∈fp,J4 X pins (upd H s.heap.objs.size (.lst [])) b/\b<(s.heap.push {cls:=.type "list",dict:=none,data:=.seq ([]:List Value).toArray}).objs.size:=fun b hb=>by
  refine⟨⟨by rw[C4 (Qh (fpOld b hb))];exact(hf b hb).1,(hf b hb).2⟩,?_⟩
  rw[Zy];exact Jx (fpOld b hb)
 have st3:tn 0 (s.heap.push {cls:=.type "list",dict:=none,data:=.seq ([]:List Value).toArray}):=T.keep 0 _ _ st fun b hb o e=>Qj _ e
 generalize hs3:({s with heap:=s.heap.push {cls:=.type "list",dict:=none,data:=.seq ([]:List Value).toArray}}:Shared)=s3 at I3 ⊢
 have hs3h:s3.heap=s.heap.push {cls:=.type "list",dict:=none,data:=.seq ([]:List Value).toArray}:=by rw[←hs3]
 rw[←hs3h]at hf3 st3;generalize hp:s.heap.objs.size=p at hp0 I3 hf3 ⊢;generalize hH3:upd H p (.lst [])=H3 at I3 hf3;refine FH _ ?_
 have I4:=FG ok I3 hf3
 generalize hs4:({s3 with heap:=pushCells (s3.heap.push {cls:=.type "dict",data:=.dict #[]}) scope.names}:Shared)=s4 at I4 ⊢
 have st4:tn 0 s4.heap:=T.keep 0 _ _ st3 fun b hb o e=>by rw[←hs4];exact Jh _ _ _ _ (Qj _ e)
 obtain⟨W,⟨m0,w0⟩,turn⟩:=run p hp0;have stat:∀{H':Hp},(∀b∈fp,H' b=none)->∀b∈fp,J4 (D7 X N' scope s3 H3 fp) [] H' b:=fun hn b hb=>by
  have z:=I4.ok.exf b hb
  exact⟨hn b hb,z.1,I4.ok.exfs b hb,.inl hb,z.2,fun p hp=>absurd (show p∈([]:OA)from hp) (by simp)⟩
 have loop:codeAny (model X.prog X.w) X.A (.compLoop (.ListComp elt [⟨tg,iter,ifs,0⟩] scope pos) 0 (.ref it) (.ref p) (T3 scope X.env s3.heap.objs.size)) (RR (.ref p) s3.heap.objs.size) s4:=by
  refine RI (fun n s'=>∃i σ' H',Inv (D7 X N' scope s3 H3 fp) [] σ' H' s'/\tn i s'.heap/\(∀b∈fp,H' b=none)/\W i n σ' H') ?_ m0 ⟨0,_,H3,I4,st4,fun b hb=>(hf3 b hb).1.1,by rw[←hH3];exact w0⟩
  rintro n s5 ⟨i,σ5,H5,I5,st5,fr5,w5⟩
  rcases turn i n σ5 H5 w5 with⟨stop,qf⟩|⟨go,step⟩
  ·refine eV (T.done (D7 X N' scope s3 H3 fp) rfl rfl rfl hc i [] s5 σ5 H5 (fun _ _=>False) I5 (stat fr5) st5 stop) fun r s6 ⟨hr,I6⟩=>?_
   subst hr;obtain⟨m6,hn6,_⟩:=I6.loc;have hch:∀b∈fp,(b∈X.ex\/X.s₀.heap.objs.size≤b)/\b≠X.env.locals/\(∀x c,X.env.cells.lookup x=some c->c≠b)/\∀p∈X.pn++pins,p.1≠b:=fun b hb=>by
    obtain⟨_,f1,_,f3,f4,f5⟩:=hf b hb;exact⟨f3,f1,f4,f5⟩
   have IX:Inv X pins σ H5 s6:=I3.call' (s':=s6) (I6.os) (I6.base) I6.hok I6.bare hch
   have szC:X.s₀.heap.objs.size≤s3.heap.objs.size:=I3.sz
   have hCL:s3.heap.objs.size≠X.env.locals:=Js I3.lt
   have hCc:∀x c,X.env.cells.lookup x=some c->c≠s3.heap.objs.size:=fun x c e=>by
    obtain⟨v,q⟩:=I3.cell x c e;exact Qh q.lt
   have hCp:∀q∈X.pn++pins,q.1≠s3.heap.objs.size:=fun q hq=>Qh (Qk (I3.pin q hq).1)
   refine hRR p s3.heap.objs.size s6 H5 m6 IX qf hn6 hCL hCc I6.free fun σ'' H'' s'' h' I'' hn hs=>?_
   exact I''.turned (t':=s''.toks) (it:=s3.heap.objs.size) (fun b o hb e=>(hs.2 b hb).trans e) hn hCL (.inr szC) hCc hCp
  ·refine eV (T.item (D7 X N' scope s3 H3 fp) rfl rfl rfl hc i [] s5 σ5 H5 (fun _ _=>False) I5 (stat fr5) st5 go) fun r s6 ⟨u,hr,h6⟩=>?_
   subst hr;refine eV h6 fun _ s7 ⟨x,H7,I7,r7,y7,st7,fr7⟩=>?_
   have I7':=I7.pinned (stat fr7) (T.obj _ _ st7)
   have back:∀{σ8:St}{H8:Hp}{s8:Shared}{m':Nat},Inv (D7 X N' scope s3 H3 fp) ([]++X4 fp s7.heap) σ8 H8 s8->m'<n->W (i+1) m' σ8 H8->∃m,m<n/\∃i σ' H',Inv (D7 X N' scope s3 H3 fp) [] σ' H' s8/\tn i s8.heap/\(∀b∈fp,H' b=none)/\W i m σ' H':=fun{σ8 H8 s8 m'} I8 hm w8=>by
    refine⟨m',hm,i+1,σ8,H8,I8.unpinned,T.keep _ _ _ st7 fun b hb o e=>(I8.pin (b,o) (Qm _ (Qm _ (U2 hb e)))).1,fun b hb=>?_,w8⟩
    obtain⟨o,e,d⟩:=T.obj _ _ st7 b hb;exact(I8.pin (b,o) (Qm _ (Qm _ (U2 hb e)))).2.1
   refine eV (hg s3 H3 fp _ s7 σ5 H7 x u _ I7' r7 (step x H7 y7)) fun _ s8 ⟨σ8,H8,I8,q8⟩=>?_
   refine eV (ht s3 H3 fp _ s8 σ8 H8 _ I8 q8) fun b s9 ⟨H9,I9,q9⟩=>?_
   cases b with
   |false=>
    simp only[Zz,Yz]at q9 ⊢;obtain⟨m',hm,w9⟩:=q9;exact back I9 hm w9
   |true=>
    simp only[Zd]at q9 ⊢;refine eV (he s3 H3 fp _ s9 σ8 H9 _ I9 q9) fun v s10 ⟨y,H10,I10,r10,ys,hys,hl,m',hm,w10⟩=>?_
    exact eV (Ca (X:=D7 X N' scope s3 H3 fp) _ s10 σ8 H10 (.ref p) [y] (.ref p) [v] (fun _ H11=>W (i+1) m' σ8 H11) I10 rfl (.cons r10 .nil) ⟨p,ys,y,rfl,rfl,hys,hl,w10⟩) fun _ s11 ⟨_,H11,I11,_,w11⟩=>back I11 hm w11
 refine codeAny_compStart_list loop ?_
 exact Qb (T.self X.A 0 s4 _ (fun _ _=>False) st4 loop) (fun _ _ q=>q) fun _ _ q=>q.elim
def KE(wi:TI)(keep:List Bool)(more:Nat)(g:TG)(tt:TT)(te:TE):TE:=fun σ H Q=>wi σ H fun J H1=>∀p,H1 p=none->KD J g tt te p (J0 keep more σ) H1 (Q (.ref p))
theorem RM{wi:TI}{i:Nat}{y:Str}{py spos:Pos}(ok:gM X N' scope keep more)(hc:X.calm=true)(hN:X.N.Nodup)(hy:X.N[i]? =some y)(hyl:X.env.scope.names.lookup y=some .local)
  (hsw:swapsWith (.ListComp elt [⟨tg,iter,ifs,0⟩] scope pos) (some (.Name y py)) spos.line X.env=pure true)
  (hi:PI X tg iter wi)(hg:∀s H fp,PG (D7 X N' scope s H fp) tg g)(ht:∀s H fp,N9 (D7 X N' scope s H fp) ifs tt)(he:∀s H fp,PE (D7 X N' scope s H fp) elt te)
  (hs:∀x,foldedSetIterable iter X.env x=pure x:=by intro _;rfl):PS X (.Assign [.Name y py] (.ListComp elt [⟨tg,iter,ifs,0⟩] scope pos) spos) (Bu (KE wi keep more g tt te) (Bt i)):=by
 intro pins s σ H D I h;rw[exec_Assign_Name_used _ _ _ _ hsw];refine Qz (Ye (Qz ?_));show wpAny _ X.A (do let _←comprehension (.ListComp elt [⟨tg,iter,ifs,0⟩] scope pos) scope X.env _ (newList []) false (eval iter X.env) (some (assign (.Name y py) X.env))) _ _ s
 refine Qz (Qb (Jp (use:=some (assign (.Name y py) X.env)) (Q:=fun _ s'=>SP X pins D .next s') rfl hs ok.clos ok.kind (fun x hx hl=>by have:=ok.uniq x hx;rwa [hl]at this) (eV (hi pins s σ H _ I h) fun v s1 h1=>eV h1 fun itv s2 h2=>?_)) (fun _ s' hq=>Qx (Qx hq)) fun _ _ e=>e)
 obtain⟨it,fp,tn,J,H2,e,I2,T,st2,f2,run⟩:=h2;subst e;refine RL (Qf:=fun p H'=>D.nx (σ.set i (some (.ref p))) H') (RR:=fun acc C=>compPost (model X.prog X.w) X.A X.xe (some (assign (.Name y py) X.env)) (fun _ s'=>SP X pins D .next s') acc C) ok hc hg ht he I2 T st2 f2 run ?_
 intro p C s' H' m IX qf hn hCL hCc hCn turn;refine Uw (CT (v:=.ref p) (u:=.ref p) IX hN hy (.inl hyl) rfl (fun s'' I'' hs''=>?_) (.inr hyl))
 obtain⟨a,hsb,ha⟩:=hs'';have hCa:C≠a:=by
  rcases ha with z|z
  ·rw[z];exact hCL
  ·exact fun q=>hCc y a z q.symm
 exact⟨m,hn.sameBut hsb hCa,fun h' hs'=>⟨_,H',turn _ H' s'' h' I'' hCn hs',qf⟩⟩
end
def N1(keep:List Bool)(more:Nat)(env:c7):c7:=List.zipWith (fun k w=>if k then w else .nil) keep env++List.replicate more .nil
def S0:Bool->W->W->Option W
 |false,w,_=>some w
 |true,.nil,_=>some .nil
 |true,.dat d,_=>some (.dat d)
 |true,.own _,.own ds=>some (.own ds)
 |true,.own _,.dat d=>some (.dat d)
 |true,.par _,.par ds=>some (.par ds)
 |true,.ownD _ _,.ownD ks vs=>some (.ownD ks vs)
 |true,.ownD _ _,.dat d=>some (.dat d)
 |true,.parD _ _,.parD ks vs=>some (.parD ks vs)
 |true,.ownX _ _,.ownX ks vs=>some (.ownX ks vs)
 |true,.ownX _ _,.dat d=>some (.dat d)
 |true,.parX _ _,.parX ks vs=>some (.parX ks vs)
 |_,_,_=>none
theorem RN{w w2 w':W}{m:Mu}(h:S0 true w w2=some w')(e:w'.mut=some m):w2=w'/\∃d0,w.mut=some d0/\w.isOwn=w'.isOwn/\w.isPar=w'.isPar:=by
 cases w<;>cases w2<;>first
  |(simp only[S0,Zb]at h;subst h;exact⟨rfl,_,rfl,rfl,rfl⟩)
  |(simp only[S0,Zb]at h;subst h;cases e;done)
  |(simp[S0]at h;done)
theorem RO{w w2:W}{d:D}(h:S0 true w w2=some (.dat d)):w=.dat d\/(w2=.dat d/\∃d0,w.mut=some d0):=by
 cases w<;>cases w2<;>first
  |(simp only[S0,Zb]at h;exact .inl h)
  |(simp only[S0,Zb]at h;exact .inr ⟨h,_,rfl⟩)
  |(simp[S0]at h;done)
def O6:List Bool->c7->c7->Option c7
 |[],[],_=>some []
 |k::ks,w::ws,w2::rY=>(S0 k w w2).bind fun x=>(O6 ks ws rY).map fun r=>x::r
 |_,_,_=>none
theorem FI:∀{keep:List Bool}{env eW env':c7}{i:Nat}{w':W},O6 keep env eW=some env'->env'[i]? =some w'->∃k w w2,keep[i]? =some k/\env[i]? =some w/\eW[i]? =some w2/\S0 k w w2=some w'
 |[],[],_,env',i,w',h,e=>by simp only[O6,Zb]at h;subst h;simp at e
 |[],_::_,_,env',i,w',h,e=>by simp[O6]at h
 |k::ks,[],_,env',i,w',h,e=>by simp[O6]at h
 |k::ks,w::ws,[],env',i,w',h,e=>by simp[O6]at h
 |k::ks,w::ws,w2::rY,env',i,w',h,e=>by
  unfold O6 at h;obtain⟨x,h1,h2⟩:=C8 h;obtain⟨r,h3,h4⟩:=E8 h2;subst h4;cases i with
  |zero=>simp at e;subst e;exact⟨k,w,w2,rfl,rfl,rfl,h1⟩
  |succ i=>simpa using FI (i:=i) h3 (by simpa using e)
theorem KG:∀{keep:List Bool}{env eW env':c7},O6 keep env eW=some env'->env'.length=env.length
 |[],[],_,env',h=>by simp only[O6,Zb]at h;subst h;rfl
 |[],_::_,_,env',h=>by simp[O6]at h
 |k::ks,[],_,env',h=>by simp[O6]at h
 |k::ks,w::ws,[],env',h=>by simp[O6]at h
 |k::ks,w::ws,w2::rY,env',h=>by
  unfold O6 at h;obtain⟨x,h1,h2⟩:=C8 h;obtain⟨r,h3,h4⟩:=E8 h2;subst h4
  simp[KG h3]
theorem AV{keep:List Bool}{more:Nat}{env:c7}{i:Nat}{w:W}(h:(N1 keep more env)[i]? =some w)(hw:w≠.nil):keep[i]? =some true/\env[i]? =some w:=by
 unfold N1 at h
 rcases Y3 h with⟨_,h⟩|⟨_,h⟩
 ·rw[Jz]at h
  cases e1:keep[i]? with
  |none=>rw[e1]at h;cases h
  |some k=>
   cases e2:env[i]? with
   |none=>rw[e1,e2]at h;cases h
   |some u=>
    rw[e1,e2]at h;cases k with
    |true=>simp at h;exact⟨rfl,by rw[h]⟩
    |false=>simp at h;exact absurd h.symm hw
 ·exact absurd h hw
theorem CB{keep:List Bool}{more:Nat}{σ:St}{i:Nat}{v:Option V}(hk:keep[i]? =some true)(h:σ[i]? =some v):(J0 keep more σ)[i]? =some v:=by
 unfold J0;have h1:i<keep.length:=(Qy.mp hk).1;have h2:i<σ.length:=(Qy.mp h).1;rw[Yl (by rw[Yj];omega),Jz,hk,h]
 rfl
theorem CC{w:W}{ds:Mu}(h:w.mut=some ds):w≠.nil:=fun z=>by rw[z]at h;cases h
section
variable{K:Qq}{B:OE}{G G':Hp}{σ σ':St}{env eW env':c7}{H H':Hp}{keep:List Bool}{more:Nat}
theorem AW{a:Addr}(h:d6 (J0 keep more σ) (N1 keep more env) a):d6 σ env a:=by
 obtain⟨i,w,ds,e1,e2,e3⟩:=h;exact⟨i,w,ds,(AV e1 (CC e2)).2,e2,(AU e3).2⟩
theorem Rel.ext(r:Rel K B G σ env H)(hk:keep.length=σ.length):Rel K B G (J0 keep more σ) (N1 keep more env) H:=by
 refine⟨r.sub,?_,fun i d e=>?_,fun i w ds e1 e2=>?_,fun i j w w' ds es a q1 q2 q3 q4 q5 q6=>?_,fun i w a q1 qo q2=>?_,r.old,r.tabs,r.gnt⟩
 ·unfold N1 J0
  rw[Zq,Zq,Yj,Yj,Zg,Zg,r.len]
 ·obtain⟨k1,k2⟩:=AV e (by simp)
  obtain⟨v,e1,e2⟩:=r.dat i d k2;exact⟨v,CB k1 e1,e2⟩
 ·obtain⟨k1,k2⟩:=AV e1 (CC e2)
  obtain⟨a,xs,e3,e4⟩:=r.own i w ds k2 e2;exact⟨a,xs,CB k1 e3,e4⟩
 ·exact r.inj i j w w' ds es a (AV q1 (CC q2)).2 q2 (AV q3 (CC q4)).2 q4 (AU q5).2 (AU q6).2
 ·exact r.fresh i w a (AV q1 (by rintro rfl;cases qo)).2 qo (AU q2).2
theorem Ev.out(r:Rel K B G σ env H)(hk:keep.length=σ.length)(ev:Ev K B G (J0 keep more σ) (N1 keep more env) H G' σ' eW H')(hσ:∀j,j<σ.length->σ'[j]? =(J0 keep more σ)[j]?)(ho:O6 keep env eW=some env'):
  Ev K B G σ env H G' σ env' H':=by
 have mutO:∀(i:Nat) (w':W) (ds:Mu),env'[i]? =some w'->w'.mut=some ds->∃w0 d0,env[i]? =some w0/\w0.mut=some d0/\w0.isOwn=w'.isOwn/\w0.isPar=w'.isPar/\
   ∃a o,σ[i]? =some (some (V.ref a))/\H' a=some o/\kW K G' o ds/\G' a=none:=fun i w' ds e1 e2=>by
  obtain⟨k,w,w2,h1,h2,h3,h4⟩:=FI ho e1;have hi:i<σ.length:=by have:=(Qy.mp h2).1;rw[←r.len];exact this
  cases k with
  |false=>
   simp only[S0,Zb]at h4;subst h4;obtain⟨a,xs,q1,q2,q3,q4⟩:=r.own i w ds h2 e2;have no:¬ d6 (J0 keep more σ) (N1 keep more env) a:=by
    rintro⟨j,v,es,y1,y2,y3⟩;obtain⟨z1,z2⟩:=AV y1 (CC y2);have:=r.inj j i v w es ds a z2 y2 h2 e2 (AU y3).2 q1;subst this;rw[h1]at z1;cases z1
   exact⟨w,ds,h2,e2,rfl,rfl,a,xs,q1,ev.keep a _ no q3.nt q2,q3.mono ev.same,ev.stay a (by rw[q2];simp) no q4⟩
  |true=>
   obtain⟨z,d0,z1,z2,z3⟩:=RN h4 e2;subst z;refine⟨w,d0,h2,z1,z2,z3,?_⟩;obtain⟨a,xs,q1,q2,q3,q4⟩:=ev.rel.own i w2 ds h3 e2;obtain⟨a0,xs0,p1,_⟩:=r.own i w d0 h2 z1;rw[hσ i hi,CB h1 p1]at q1;cases q1;exact⟨a,xs,p1,q2,q3,q4⟩
 refine⟨⟨ev.rel.sub,by rw[KG ho];exact r.len,fun i d e=>?_,fun i w ds e1 e2=>?_,fun i j w w' ds es a q1 q2 q3 q4 q5 q6=>?_,fun i w a q1 qo q2=>?_,ev.rel.old,ev.rel.tabs,ev.rel.gnt⟩,ev.same,fun b o n t e=>ev.keep b o (fun z=>n (AW z)) t e,ev.live,fun b e n g=>ev.stay b e (fun z=>n (AW z)) g,fun a z=>.inl ?_,fun i w e hp=>⟨rfl,?_⟩,rfl⟩
 ·obtain⟨k,w,w2,h1,h2,h3,h4⟩:=FI ho e
  have hi:i<σ.length:=by have:=(Qy.mp h2).1;rw[←r.len];exact this
  have old:w=.dat d->∃v,σ[i]? =some (some v)/\a9 K G' v d:=fun z=>by
   subst z;obtain⟨v,e1,e2⟩:=r.dat i d h2;exact⟨v,e1,a9.mono ev.same d e2⟩
  cases k with
  |false=>simp only[S0,Zb]at h4;exact old h4
  |true=>
   rcases RO h4 with z|⟨z,d0,z0⟩
   ·exact old z
   ·subst z
    obtain⟨v,q1,q2⟩:=ev.rel.dat i d h3;obtain⟨a0,xs0,p1,_⟩:=r.own i _ d0 h2 z0;rw[hσ i hi,CB h1 p1]at q1;cases q1;exact⟨_,p1,q2⟩
 ·obtain⟨w0,d0,_,_,_,_,q⟩:=mutO i w ds e1 e2
  exact q
 ·obtain⟨w0,d0,y1,y2,_⟩:=mutO i w ds q1 q2
  obtain⟨w1,d1,y3,y4,_⟩:=mutO j w' es q3 q4;exact r.inj i j w0 w1 d0 d1 a y1 y2 y3 y4 q5 q6
 ·obtain⟨m,hm⟩:=kY qo
  obtain⟨w0,d0,y1,_,y3,_⟩:=mutO i _ m q1 hm;exact r.fresh i w0 a y1 (y3.trans qo) q2
 ·obtain⟨i,w,ds,e1,e2,e3⟩:=z
  obtain⟨w0,d0,y1,y2,_⟩:=mutO i w ds e1 e2;exact⟨i,w0,d0,y1,y2,e3⟩
 ·obtain⟨m,hm⟩:=kC hp
  obtain⟨w0,d0,y1,_,_,y4,_⟩:=mutO i _ m e hm;exact⟨w0,y1,y4.trans hp⟩
theorem Ev.swapAt{p:Addr}{o:HO}(ev:Ev K B G σ env H G' σ' env' H')(no:¬ d6 σ env p)(hp:H p≠none)(gp:G p=none)(nt:NT o)(nx:∀φ,H' p≠some (.ext φ)):Ev K B G σ env (upd H p o) G' σ' env' (upd H' p o):=by
 have np:∀(i:Nat) (w:W) (ds:Mu) (a:Addr),env'[i]? =some w->w.mut=some ds->σ'[i]? =some (some (V.ref a))->a≠p:=fun i w ds a e1 e2 e3 z=>by
  rcases ev.sub a ⟨i,w,ds,e1,e2,e3⟩with q|q
  ·exact no (z ▸ q)
  ·exact hp (z ▸ q)
 have gp':G' p=none:=ev.stay p hp no gp
 have live':∀b,H' b≠none->(upd H' p o) b≠none:=fun b h=>by
  by_cases hb:b=p
  ·subst hb;rw[D9];simp
  ·rw[C4 hb];exact h
 refine⟨⟨fun b u e=>?_,ev.rel.len,ev.rel.dat,fun i w ds e1 e2=>?_,ev.rel.inj,ev.rel.fresh,fun b h=>live' b (ev.rel.old b h),ev.rel.tabs.upd nt nx,ev.rel.gnt⟩,ev.same,fun b u n t e=>?_,fun b e=>?_,fun b e n g=>?_,fun a z=>?_,ev.par,ev.slen⟩
 ·have hb:b≠p:=fun z=>by rw[z,gp']at e;cases e
  rw[C4 hb];exact ev.rel.sub b u e
 ·obtain⟨a,xs,e3,e4,e5,e6⟩:=ev.rel.own i w ds e1 e2
  exact⟨a,xs,e3,by rw[C4 (np i w ds a e1 e2 e3)];exact e4,e5,e6⟩
 ·by_cases hb:b=p
  ·subst hb;rw[D9]at e ⊢;exact e
  ·rw[C4 hb]at e ⊢;exact ev.keep b u n t e
 ·by_cases hb:b=p
  ·subst hb;rw[D9];simp
  ·rw[C4 hb]at e ⊢;exact ev.live b e
 ·by_cases hb:b=p
  ·subst hb;exact gp'
  ·rw[C4 hb]at e;exact ev.stay b e n g
 ·obtain⟨i,w,ds,e1,e2,e3⟩:=id z
  rw[C4 (np i w ds a e1 e2 e3)];exact ev.sub a z
end
def AX(g:OX)(t:Mo Bool)(m:Mo D):List D->Mo (List D)
 |[],env=>some ([],env)
 |d::ds,env=>(g d env).bind fun e1=>(t e1).bind fun p=>if p.1 then(m p.2).bind fun q=>(AX g t m ds q.2).map fun r=>(q.1::r.1,r.2)else AX g t m ds p.2
def K4(mi:Mo (List D))(keep:List Bool)(more:Nat)(g:OX)(t:Mo Bool)(m:Mo D):Mo (List D):=fun env=>(mi env).bind fun p=>if p.1.length≤100000 then
 (AX g t m p.1 (N1 keep more p.2)).bind fun q=>(O6 keep p.2 q.2).map fun e=>(q.1,e)else none
def K5:Mo Bool:=fun env=>some (true,env)
theorem K6{X:Cx}{B:OE}:N9 X [] (lK X.K B K5):=fun pins s σ H Q I h=>by
 obtain⟨G,env,b,env',rl,e,k⟩:=h;cases e;exact RJ pins s σ H Q I (k G H (.refl rl))
theorem FJ{X:Cx}{B:OE}{c:Expr}{t:Mo Bool}(h:ET X B c t):N9 X [c] (lK X.K B t):=RK h
theorem RP{K:Qq}{B:OE}{mi:Mo (List D)}{keep:List Bool}{more n:Nat}{g:OX}{t:Mo Bool}{m:Mo D}(hkl:keep.length=n):
  ∀(σ:St) H Q,σ.length=n->TL K B (K4 mi keep more g t m) σ H Q->KE (pN K B mi) keep more (oU K B n g) (lK K B t) (TD K B m) σ H Q:=by
 rintro σ H Q hσn ⟨G,env,total,env',rl,e,k⟩;obtain⟨⟨items,a8⟩,e1,e2⟩:=C8 e;dsimp only at e2;split at e2
 ·rename_i hlen
  obtain⟨⟨total',envF⟩,e3,e4⟩:=C8 e2;obtain⟨env'',e5,e6⟩:=E8 e4;cases e6;refine⟨G,env,items,a8,rl,e1,fun J G1 H1 fR itd p hp=>?_⟩
  have hk:keep.length=σ.length:=by rw[hkl,hσn]
  have gp:G1 p=none:=fR.rel.gnone hp
  have no1:¬ d6 σ a8 p:=fR.rel.unowned hp
  have no:¬ d6 (J0 keep more σ) (N1 keep more a8) p:=fun z=>no1 (AW z)
  have relS:∀ys,Rel K B G1 σ a8 (upd H1 p (.lst ys)):=fun ys=>(fR.rel.allocM hp).rel
  refine⟨fun i m' σ2 H2=>m'=items.length-i/\i≤items.length/\∃G2 eW ys acc rest,Ev K B G1 (J0 keep more σ) (N1 keep more a8) (upd H1 p (.lst ys)) G2 σ2 eW H2/\(∀j,j<n->σ2[j]? =(J0 keep more σ)[j]?)/\
   B9 K G2 ys acc/\AX g t m (items.drop i) eW=some (rest,envF)/\acc++rest=total'/\acc.length≤i,⟨_,rfl,Yb _,G1,_,[],[],total',.refl ((relS []).ext hk),fun _ _=>rfl,eY,by simpa using e3,by simp,Qv _⟩,?_⟩
  rintro i m' σ2 H2 ⟨rfl,hi,G2,eW,ys,acc,rest,d5,y2,r2,c2,t2,l2⟩;have hpS:(upd H1 p (.lst ys)) p=some (.lst ys):=D9;have hp2:H2 p=some (.lst ys):=d5.keep p _ no gL hpS;have lH:Le G1 H2:=d5.same.trans d5.rel.sub
  by_cases hlt:i<items.length
  ·refine .inr ⟨itd.go i H2 lH hlt,fun x H3 y=>?_⟩
   have ed:items.drop i=items[i]::items.drop (i+1):=Jv hlt
   rw[ed]at c2;obtain⟨kX,e7,e8⟩:=C8 c2;obtain⟨⟨b,k7⟩,e9,e10⟩:=C8 e8;have hget:items[i]? =some items[i]:=by simp[hlt]
   have st:∃G3,Ev K B G1 (J0 keep more σ) (N1 keep more a8) (upd H1 p (.lst ys)) G3 σ2 eW H3/\Le G2 G3/\a9 K G3 x items[i]:=by
    rcases itd.yld i H2 x H3 items[i] lH y hget with⟨rfl,r⟩|⟨q,o,hno,hq,rfl,r⟩
    ·exact⟨G2,d5,Le.refl,a9.mono d5.same _ r⟩
    ·have gq:=d5.rel.gnone hq
     refine⟨upd G2 q o,d5.trans (d5.rel.alloc hq hno),Le.upd gq,a9.mono (fun b u z=>?_) _ r⟩
     by_cases hb2:b=q
     ·subst hb2;rw[D9]at z ⊢;exact z
     ·rw[C4 hb2]at z ⊢;exact d5.same b u z
   obtain⟨G3,iS,l3,r3⟩:=st;refine⟨G3,eW,items[i],kX,iS.rel,r3,e7,fun σ4 G4 H4 kI y4=>?_⟩
   refine⟨G4,kX,b,k7,kI.rel,e9,fun G5 H5 lC=>?_⟩
   have j0:=(iS.trans kI).trans lC
   have r5:B9 K G5 ys acc:=B9.mono ((l3.trans kI.same).trans lC.same) acc r2
   have y5:∀j,j<n->σ4[j]? =(J0 keep more σ)[j]?:=fun j hj=>(y4 j hj).trans (y2 j hj)
   cases b with
   |true=>
    simp only[Zd]at e10 ⊢;obtain⟨⟨d7,nG⟩,e11,e12⟩:=C8 e10;obtain⟨⟨rest8,rZ⟩,e13,e14⟩:=E8 e12;cases e14;refine .bind lC.rel e11 fun v G7 H7 nV r7=>?_
    have lD:=j0.trans nV
    have qA:H7 p=some (.lst ys):=lD.keep p _ no gL hpS
    refine⟨ys,qA,by rw[r2.length];exact Uq l2 (Qu hlt (Qe hlen (by decide))),items.length-(i+1),by omega,rfl,hlt,G7,nG,ys++[v],acc++[d7],rest8,?_,y5,(B9.mono nV.same acc r5).append (fB r7 eY),e13,by rw[Vw];exact t2,by rw[Zq];simp;omega⟩
    have:=lD.swapAt (o:=.lst (ys++[v])) no (by rw[hpS];simp) gp gL (fun φ z=>by rw[lD.keep p _ no gL hpS]at z;cases z)
    rwa [CS]at this
   |false=>
    simp only[Zz,Yz]at e10 ⊢;exact⟨items.length-(i+1),by omega,rfl,hlt,G5,k7,ys,acc,rest,j0,y5,r5,e10,t2,by omega⟩
  ·have ei:i=items.length:=by omega
   subst ei;rw[Ud]at c2;cases c2;rw[Yr]at t2;subst t2;refine .inl ⟨itd.stop _ H2 lH (Qv _),?_⟩;have evO:=Ev.out (relS ys) hk d5 (fun j hj=>y2 j (by omega)) e5
   have evA:=fR.trans ((fR.rel.allocM (o:=.lst ys) hp).trans evO)
   have hpn:H p=none:=by
    cases q:H p with
    |none=>rfl
    |some o=>exact absurd hp (fR.live p (by rw[q];simp))
   refine k p ys G2 H2 evA hpn (fun z=>?_) hp2 (d5.stay p (by rw[hpS];simp) no gp) r2
   rcases evO.sub p z with q|q
   ·exact no1 q
   ·rw[hpS]at q;cases q
 ·cases e2
section
variable{X:Cx}{B:OE}{N':List Str}{scope:Scope}{keep:List Bool}{more:Nat}{tg iter elt:Expr}{ifs:List Expr}{g:OX}{t:Mo Bool}{m:Mo D}{mi:Mo (List D)}{pos:Pos}
theorem RQ{i:Nat}{y:Str}{py spos:Pos}(ok:gM X N' scope keep more)(hc:X.calm=true)(hN:X.N.Nodup)(hy:X.N[i]? =some y)(hyl:X.env.scope.names.lookup y=some .local)
  (hsw:swapsWith (.ListComp elt [⟨tg,iter,ifs,0⟩] scope pos) (some (.Name y py)) spos.line X.env=pure true)
  (hi:EI X B tg iter mi)(hg:∀s H fp,EG (D7 X N' scope s H fp) B X.N.length tg g)(ht:∀s H fp,N9 (D7 X N' scope s H fp) ifs (lK X.K B t))(he:∀s H fp,ED (D7 X N' scope s H fp) B elt m)
  (hs:∀x,foldedSetIterable iter X.env x=pure x:=by intro _;rfl):ES X B (.Assign [.Name y py] (.ListComp elt [⟨tg,iter,ifs,0⟩] scope pos) spos) (M4 i (K4 mi keep more g t m)):=by
 intro pins s σ H D I h;obtain⟨G,env,fl,env',rl,e,k⟩:=h;obtain⟨⟨d,a8⟩,e1,e2⟩:=E8 e;cases e2;exact RM ok hc hN hy hyl hsw hi hg ht he hs pins s σ H D I (RP ok.klen σ H _ I.len ⟨G,env,d,_,rl,e1,fun a xs G' H' ev ha no h' g' r=>k _ G' H' (ev.setOwn (fun z=>rl.old a z ha) ha no h' g' r)⟩)
end
section
variable{X:Cx}{B:OE}{pos:Pos}{a b c e:Expr}{ma mb mc:Mo D}{ms:Mo (List D)}{es:List Expr}
def pO:D->String
 |.non=>"NoneType"|.bl _=>"bool"|.int _=>"int"|.str _=>"str"|.tup _=>"tuple"|.lst _=>"list"|.emp=>"dict"|.obj _=>"object"|.dct _ _=>"dict"|.dcx _ _=>"dict"
def O7(K:Qq)(T:String):Prop:=T∈(["tuple","list","int","bool","str"]:List String)
def BV(t T:String):Bool:=t==T||(t=="bool"&&T=="int")
theorem RS{K:Qq}{T:String}(h:O7 K T):∀d,(∀o,d≠.obj o)->PySem.W.kitOne K (.type (pO d)) (.type T)=some (BV (pO d) T):=by
 intro d hd;unfold O7 at h;simp only[Qg,Zx,Yu]at h
 rcases h with rfl|rfl|rfl|rfl|rfl<;>cases d<;>first|rfl|exact absurd rfl (hd _)
theorem RT{pins:OA}{σ:St}{G H:Hp}{s:Shared}{A:Around}{E:OU}{Q:OU}{T:String}{x:V}{u:Value}{d:D}(I:Inv X pins σ H s)(l:Le G H)(rx:E3 x u)(rp:a9 X.K G x d)
  (kt:O7 X.K T)(h:∀tk,Q (.bool (BV (pO d) T)) {s with toks:=tk}):wpAny (model X.prog X.w) A (call (.builtin "isinstance") [u,.type T]) Q E s:=by
 have e:=RS kt d
 cases d with
 |non=>simp only[a9]at rp;subst rp;exact V6 I rx (.non) (e nofun) h
 |bl b=>simp only[a9]at rp;subst rp;exact V6 I rx (.bl b) (e nofun) h
 |int i=>simp only[a9]at rp;subst rp;exact V6 I rx (.int i) (e nofun) h
 |str z=>simp only[a9]at rp;obtain⟨rp,_⟩:=rp;subst rp;exact V6 I rx (.str z) (e nofun) h
 |tup ds=>
  simp only[a9]at rp;obtain⟨a,xs,rfl,q,_⟩:=rp;cases rx;obtain⟨its,_,⟨o,h1,h2,_⟩,_⟩:=I.tuple (l.sqT q);exact Zk PySem.W.kitx_tuple I.kIn ⟨o,h1,h2⟩ (e nofun) (fun z=>nomatch z) h
 |lst ds=>
  simp only[a9]at rp;obtain⟨a,xs,rfl,q,_⟩:=rp;cases rx;obtain⟨its,_,⟨o,n,h1,h2,_⟩,_⟩:=I.list (l.sqL q);exact Zk Vv I.kIn ⟨o,h1,h2⟩ (e nofun) (fun z=>nomatch z) h
 |emp=>
  simp only[a9]at rp;obtain⟨a,kvs,rfl,q⟩:=rp;exact V6 I rx (.dK (l _ _ q)) (e nofun) h
 |dct ks vs=>
  simp only[a9]at rp;obtain⟨a,kvs,rfl,q,_⟩:=rp;exact V6 I rx (.dT (l _ _ q)) (e nofun) h
 |dcx ks vs=>
  simp only[a9]at rp;obtain⟨a,es,ep,xs,rfl,q,_⟩:=rp;exact V6 I rx (.dX (l _ _ q)) (e nofun) h
 |obj o=>
  have h0:BV "object" T=false:=by
   unfold O7 at kt;simp only[Qg,Zx,Yu]at kt
   rcases kt with rfl|rfl|rfl|rfl|rfl<;>rfl
  have h':∀tk,Q (.bool false) {s with toks:=tk}:=fun tk=>by have:=h tk;rwa [show BV (pO (.obj o)) T=false from h0]at this
  simp only[a9]at rp;cases o with
  |exc n=>
   obtain⟨a,C,HP,rfl,_,h3,h4,h5⟩:=rp;cases rx;exact Zk h4 I.kIn (I.hok a _ (l _ _ h3)).1 (h5 T kt) (fun z=>nomatch z) h'
  |fn n=>
   obtain⟨f,rfl,_,h4⟩:=rp;cases rx;refine Zk h4 I.kIn True.intro ?_ (fun z=>nomatch z) h'
   unfold O7 at kt;simp only[Qg,Zx,Yu]at kt
   rcases kt with rfl|rfl|rfl|rfl|rfl<;>rfl
  |dk kvs=>
   obtain⟨a,rfl,q⟩:=rp;obtain⟨_,_,vs,_,dd⟩:=(show J3 X.prog X.w H s.heap a (.dK _)from I.hok a _ (l _ _ q))
   obtain⟨o,h1,h2⟩:∃o,s.heap.get? a=some o/\o.cls=.type "dict":=by
    obtain⟨o,es,ep,g1,g2,_⟩:=dd;exact⟨o,g1,g2.1⟩
   cases rx;refine Zk Jd I.kIn ⟨o,h1,h2⟩ ?_ (fun z=>nomatch z) h'
   unfold O7 at kt;simp only[Qg,Zx,Yu]at kt
   rcases kt with rfl|rfl|rfl|rfl|rfl<;>rfl
  |dt kvs=>
   obtain⟨a,ps,rfl,q,_⟩:=rp;obtain⟨_,_,vs,_,dd⟩:=(show J3 X.prog X.w H s.heap a (.dK _)from I.hok a _ (l _ _ q))
   obtain⟨o,h1,h2⟩:∃o,s.heap.get? a=some o/\o.cls=.type "dict":=by
    obtain⟨o,es,ep,g1,g2,_⟩:=dd;exact⟨o,g1,g2.1⟩
   cases rx;refine Zk Jd I.kIn ⟨o,h1,h2⟩ ?_ (fun z=>nomatch z) h'
   unfold O7 at kt;simp only[Qg,Zx,Yu]at kt
   rcases kt with rfl|rfl|rfl|rfl|rfl<;>rfl
  |dsk kvs=>
   obtain⟨a,C,dx,d,ps,rfl,_,⟨cl,ha,hn,htk,hm,nt,_⟩,q,_⟩:=rp;exact V6 I rx (.ins (l _ _ q) cl ha hn htk hm) (nt T kt) h'
  |pin a d=>
   obtain⟨rfl,C,dx,_,⟨cl,ha,hn,htk,hm,nt,_⟩,q,_⟩:=rp;exact V6 I rx (.ins (l _ _ q) cl ha hn htk hm) (nt T kt) h'
theorem RU{K:Qq}:O7 K "tuple":=by simp[O7]
theorem RV{K:Qq}:O7 K "int":=by simp[O7]
theorem RW{K:Qq}:O7 K "bool":=by simp[O7]
theorem RX{K:Qq}:O7 K "str":=by simp[O7]
def nW(T:String)(m:Mo D):Mo D:=fun env=>(m env).map fun p=>(.bl (BV (pO p.1) T),p.2)
theorem U6{T:String}{y:Str}{p p2:Pos}(kt:O7 X.K T)(ha:ED X B a ma)(hg:Gl X "isinstance")(hm:X.mg "isinstance"=none)(hgT:Gl X y)(hmT:X.mg y=none)(hvT:bootBuiltins y=some (.type T))
  (hnT:y≠"__name__":=by decide)(hdT:(y==("__debug__":Str))=false:=by decide)
  (he:starEach [a,.Name y p2] X.env=[(false,eval a X.env),(false,eval (.Name y p2) X.env)]:=by rfl):ED X B (.Call (.Name "isinstance" p) [a,.Name y p2] [] pos) (nW T ma):=by
 have hT:PE X (.Name y p2) (tC (.ty T)):=Hy hgT hmT hvT rfl hnT hdT
 have hc:M3 X (.builtin "isinstance") (fun xs H Q=>∃x G d,xs=[x,.ty T]/\Le G H/\a9 X.K G x d/\Q (.bl (BV (pO d) T)) H):=by
  intro pins s σ H xs us Q I r h;obtain⟨x,G,d,rfl,l,rp,q⟩:=h;obtain⟨u,w',rfl,r1,r2⟩:=AG r;cases r2;exact RT I l r1 rp kt fun tk=>⟨.bl _,H,I.tok _,rfl,q⟩
 have h1:starEach [Expr.Name y p2] X.env=[(false,eval (.Name y p2) X.env)]:=rfl
 refine d9 (Bx (pos:=pos) (p:=p) hc hg hm (by rfl') (M7 ha (M7 hT Q3) he) (he:=he)) ?_
 rintro σ H Q ⟨G,env,d,env',rl,e,k⟩;obtain⟨⟨d1,a8⟩,e1,e2⟩:=E8 e;cases e2;exact .bind rl e1 fun v G1 H1 ev r=>⟨v,G1,d1,rfl,ev.rel.sub,r,k _ G1 H1 ev (by simp only[a9])⟩
def BW:List D->Option Bool
 |[]=>some true
 |.bl b::r=>(BW r).map fun k=>b&&k
 |_::_=>none
def V9:List D->Option D
 |[.lst ds]=>(BW ds).map fun k=>.bl k
 |_=>none
theorem KH{K:Qq}{G:Hp}:∀{ds:List D}{xs:List V}{us:List Value}{k:Bool},B9 K G xs ds->D6 xs us->BW ds=some k->∃bs,LSm.BoolsAre us bs/\bs.all id=k
 |[],_,us,k,r,v,e=>by
  simp only[B9]at r;subst r;cases v;cases e;exact⟨[],.nil,rfl⟩
 |d::ds,_,us,k,r,v,e=>by
  simp only[B9]at r;obtain⟨x,t,rfl,q,r⟩:=r;cases d<;>first|(exact absurd (show(none:Option Bool)=some k from e) (by simp))|skip
  obtain⟨k',e1,e2⟩:=E8 (show(BW ds).map _=some k from e)
  simp only[a9]at q;subst q;cases v with
  |cons v1 v2=>
   cases v1;obtain⟨bs,h1,h2⟩:=KH r v2 e1;exact⟨_::bs,.cons _ h1,by rw[←e2,←h2];rfl⟩
theorem Y7(hc:X.calm=true):M3 X (.builtin "all") (fun xs H Q=>∃p G ys ds k,xs=[.ref p]/\Le G H/\kA X.K G p ys/\B9 X.K G ys ds/\BW ds=some k/\Q (.bl k) H):=by
 intro pins s σ H xs us Q I r h;obtain⟨p,G,ys,ds,k,rfl,l,hq,rp,ek,q⟩:=h;obtain⟨u,rfl,rx⟩:=R6 r;cases rx;obtain⟨its,r',pl,hz⟩:=I.list (l.sqL hq);obtain⟨bs,hb,hk⟩:=KH rp r' ek;have hh:X.A.handled=none:=I.ok.hd hc;have hl:=pl.isList;have hlt:p<s.heap.objs.size:=by obtain⟨_,e,_⟩:=hl;exact Qk e
 refine call_all_walk (Uu hl ?_);refine⟨s.heap.objs.size,[s.heap.objs.size,p],[s.heap.objs.size],its.toArray.size,_,_,fun i=>(bs[i]?).getD true,rfl,Walks.list (A:=X.A.in1) hh _ p (Qh hlt) its.toArray,
  ⟨⟨_,Qw _ rfl,rfl,rfl⟩,hl.push _⟩,fun i v s' Q' E' hP hQ=>?_,fun h' tk hk'=>?_⟩
 ·obtain⟨b,e,rfl⟩:=hb.get i v (by simpa using hP)
  simp only[e,Option.getD_some]at hQ;exact Zn hQ
 ·have e:((List.range its.toArray.size).all fun i=>(bs[i]?).getD true)=bs.all id:=by
   rw[Qc,hb.length];exact LSm.range_all bs
  rw[e,hk];exact⟨.bl k,H,I.kept (t':=tk) (LSm.kept_iter hk'),rfl,q⟩
theorem FK:R9 X B (fun xs H Q=>∃p G ys ds k,xs=[.ref p]/\Le G H/\kA X.K G p ys/\B9 X.K G ys ds/\BW ds=some k/\Q (.bl k) H) V9:=by
 intro G σ env H xs ds c Q rl r e k;unfold V9 at e;split at e
 ·rename_i ds
  obtain⟨x,rfl,q⟩:=Q9 r;obtain⟨k',e1,e2⟩:=E8 e;subst e2;simp only[a9]at q;obtain⟨a,ys,rfl,h1,h2⟩:=q;exact⟨a,G,ys,ds,k',rfl,rl.sub,h1,h2,e1,k _ G H (.refl rl) (by simp only[a9])⟩
 ·cases e
def uC:List D->Option D
 |[.int i,.int j]=>some (.int (if j>i then j else i))
 |_=>none
def FL:List D->Option D
 |[.int i,.int j]=>some (.int (if j<i then j else i))
 |_=>none
def FM:List D->Option D
 |[.int i]=>some (.int i)
 |[.bl k]=>some (.int (if k then 1 else 0))
 |_=>none
theorem RY:R9 X B (fun xs H Q=>∃i j,xs=[.int i,.int j]/\Q (.int (if j<i then j else i)) H) FL:=by
 intro G σ env H xs ds c Q rl r e k;unfold FL at e;split at e
 ·rename_i i j
  cases e;obtain⟨x,y,rfl,q1,q2⟩:=Cj r;simp only[a9]at q1 q2;subst q1 q2;exact⟨i,j,rfl,k _ G H (.refl rl) (by simp only[a9])⟩
 ·cases e
theorem RZ:R9 X B (fun xs H Q=>(∃i,xs=[.int i]/\Q (.int i) H)\/ ∃k,xs=[.bl k]/\Q (.int (if k then 1 else 0)) H) FM:=by
 intro G σ env H xs ds c Q rl r e k;unfold FM at e;split at e
 ·rename_i i
  cases e;obtain⟨x,rfl,q1⟩:=Q9 r;simp only[a9]at q1;subst q1;exact .inl ⟨i,rfl,k _ G H (.refl rl) (by simp only[a9])⟩
 ·rename_i b
  cases e;obtain⟨x,rfl,q1⟩:=Q9 r;simp only[a9]at q1;subst q1;exact .inr ⟨b,rfl,k _ G H (.refl rl) (by simp only[a9])⟩
 ·cases e
def k8:List D->Option (List Int)
 |[]=>some []
 |.int i::r=>(k8 r).map fun l=>i::l
 |_::_=>none
theorem Cy{K:Qq}{G:Hp}:∀{ds:List D}{xs:List V}{ns:List Int},B9 K G xs ds->k8 ds=some ns->xs=ns.map V.int
 |[],_,ns,r,e=>by simp only[B9]at r;subst r;cases e;rfl
 |d::ds,_,ns,r,e=>by
  simp only[B9]at r;obtain⟨x,t,rfl,q,r⟩:=r;cases d<;>first|(exact absurd (show(none:Option (List Int))=some ns from e) (by simp))|skip
  obtain⟨l,e1,e2⟩:=E8 (show(k8 ds).map _=some ns from e)
  subst e2;simp only[a9]at q;subst q;rw[Cy r e1];rfl
def sT(neg:Bool):D->D->Option D
 |.int i,d=>d.items.bind fun ds=>(k8 ds).map fun ns=>.bl (if neg then !ns.contains i else ns.contains i)
 |_,_=>none
theorem Ra(ns:List Int):(ns.map V.int).all R7=true:=by
 induction ns with
 |nil=>rfl
 |cons n ns ih=>simp[R7,ih]
theorem Rb(i:Int)(ns:List Int):qT (.int i) (ns.map V.int)=ns.contains i:=by
 unfold qT
 induction ns with
 |nil=>rfl
 |cons n ns ih=>
  rw[Zu,List.any_cons,ih,List.contains_cons]
  congr 1
  show(n==i)=(i==n);exact Bool.beq_comm ..
theorem Rc{neg:Bool}:jZ X B (sN X.K neg) (sT neg):=by
 intro G σ env H x y a b d Q rl ra rb e k;cases a<;>first|(exact absurd (show(none:Option D)=some d from e) (by simp))|skip
 rename_i i;obtain⟨ds,e1,e2⟩:=C8 (show b.items.bind _=some d from e)
 obtain⟨ns,e3,e4⟩:=E8 e2;subst e4;simp only[a9]at ra;subst ra;obtain⟨p,xs,rfl,h1,h2⟩:=JQ rl.sub rb e1;have hx:=Cy h2 e3;subst hx;exact⟨p,_,rfl,h1,rfl,Ra ns,k _ G H (.refl rl) (by rw[Rb];simp only[a9])⟩
end
section
variable{X:Cx}{pins:OA}{σ:St}{G H:Hp}{s:Shared}
end
mutual
def j1:D->PyData
 |.non=>.none
 |.bl b=>.bool b
 |.int i=>.int i
 |.str x=>.str x
 |.tup ds=>.tuple (L7 ds)
 |.lst ds=>.list (L7 ds)
 |.emp=>.dict []
 |.obj _=>.dict []
 |.dct _ _=>.dict []
 |.dcx _ _=>.dict []
def L7:List D->List PyData
 |[]=>[]
 |d::ds=>j1 d::L7 ds
end
def pP(d:D):Bool:=SeqAt.shaped (j1 d)
section
variable{X:Cx}{B:OE}{pins:OA}{σ:St}{G H:Hp}{s:Shared}
mutual
theorem gG(I:Inv X pins σ H s)(l:Le G H):∀(d:D) (x:V) (u:Value),(j1 d).canLay0=true->E3 x u->a9 X.K G x d->∃as,Reads s.heap u (j1 d) as
 |.non,x,u,c,r,p=>by simp only[a9]at p;subst p;cases r;exact⟨_,.none⟩
 |.bl b,x,u,c,r,p=>by simp only[a9]at p;subst p;cases r;exact⟨_,.bool b⟩
 |.int i,x,u,c,r,p=>by simp only[a9]at p;subst p;obtain⟨t,rfl⟩:=r;exact⟨_,.int i t⟩
 |.str z,x,u,c,r,p=>by simp only[a9]at p;obtain⟨p,_⟩:=p;subst p;obtain⟨t,rfl⟩:=r;exact⟨_,.str z t⟩
 |.tup ds,x,u,c,r,p=>by
  simp only[a9]at p;obtain⟨a,xs,rfl,q,rp⟩:=p;cases r;obtain⟨its,rv,⟨o,h1,h2,n,h3⟩,_⟩:=I.tuple (l.sqT q);have hc:PyData.canLayAll0 (L7 ds)=true:=by simpa [j1,PyData.canLay0]using c
  obtain⟨as,h⟩:=jG I l ds xs its hc rv rp;exact⟨_,.tuple h1 h2 h3 (by simpa using h)⟩
 |.lst ds,x,u,c,r,p=>by
  simp only[a9]at p;obtain⟨a,xs,rfl,q,rp⟩:=p;cases r;obtain⟨its,rv,⟨o,n,h1,h2,_,h3⟩,_⟩:=I.list (l.sqL q);have hc:PyData.canLayAll0 (L7 ds)=true:=by simpa [j1,PyData.canLay0]using c
  obtain⟨as,h⟩:=jG I l ds xs its hc rv rp;exact⟨_,.list h1 h2 h3 (by simpa using h)⟩
 |.emp,x,u,c,r,p=>by simp[j1,PyData.canLay0]at c
 |.obj _,x,u,c,r,p=>by simp[j1,PyData.canLay0]at c
 |.dct _ _,x,u,c,r,p=>by simp[j1,PyData.canLay0]at c
 |.dcx _ _,x,u,c,r,p=>by simp[j1,PyData.canLay0]at c
theorem jG(I:Inv X pins σ H s)(l:Le G H):∀(ds:List D) (xs:List V) (us:List Value),PyData.canLayAll0 (L7 ds)=true->D6 xs us->B9 X.K G xs ds->∃as,ReadsAll s.heap us (L7 ds) as
 |[],xs,us,c,v,p=>by simp only[B9]at p;subst p;cases v;exact⟨_,.nil⟩
 |d::ds,xs,us,c,v,p=>by
  simp only[B9]at p;obtain⟨x,r,rfl,q,t⟩:=p;have hc:(j1 d).canLay0=true/\PyData.canLayAll0 (L7 ds)=true:=by simpa [L7,PyData.canLayAll0]using c
  cases v with
  |cons v1 v2=>
   obtain⟨as,h1⟩:=gG I l d x _ hc.1 v1 q;obtain⟨bs,h2⟩:=jG I l ds r _ hc.2 v2 t;exact⟨_,.cons h1 h2⟩
end
def pB(K:Qq)(neg:Bool):R2:=fun x y H Q=>∃G a b,Le G H/\a9 K G x a/\a9 K G y b/\pP a=true/\pP b=true/\Q (.bl (if neg then !PyData.eqv (j1 a) (j1 b)else PyData.eqv (j1 a) (j1 b))) H
theorem gY(hu:X.A.units+64<cLine):i5 X (compareOp .Eq) (pB X.K false):=by
 intro pins s σ H x y v u Q I rx ry h;obtain⟨G,a,b,l,ra,rb,ha,hb,q⟩:=h;obtain⟨as,h1⟩:=gG I l a x v (Yg ha) rx ra;obtain⟨bs,h2⟩:=gG I l b y u (Yg hb) ry rb;exact eq_dataH h1 h2 ha hb hu ⟨.bl _,H,I,rfl,q⟩
theorem kJ(hu:X.A.units+64<cLine):i5 X (compareOp .NotEq) (pB X.K true):=by
 intro pins s σ H x y v u Q I rx ry h;obtain⟨G,a,b,l,ra,rb,ha,hb,q⟩:=h;obtain⟨as,h1⟩:=gG I l a x v (Yg ha) rx ra;obtain⟨bs,h2⟩:=gG I l b y u (Yg hb) ry rb;exact ne_dataH h1 h2 ha hb hu ⟨.bl _,H,I,rfl,q⟩
def jM(neg:Bool):D->D->Option D:=fun a b=>if pP a&&pP b then some (.bl (if neg then !PyData.eqv (j1 a) (j1 b)else PyData.eqv (j1 a) (j1 b)))else none
theorem gO{neg:Bool}:jZ X B (pB X.K neg) (jM neg):=by
 intro G σ env H x y a b d Q rl ra rb e k;unfold jM at e;split at e
 ·rename_i h
  rw[Qr]at h;cases e;exact⟨G,a,b,rl.sub,ra,rb,h.1,h.2,k _ G H (.refl rl) (by simp only[a9])⟩
 ·cases e
end
section
variable{X:Cx}{B:OE}
def lM(K:Qq):R2:=fun x y H Q=>∃a b xs ys,x=.ref a/\y=.ref b/\kN K H a xs/\kN K H b ys/\xs.length+ys.length≤sizeLine/\
 (xs=[]->Q (.ref b) H)/\(ys=[]->Q (.ref a) H)/\(∀p,H p=none->Q (.ref p) (upd H p (.tup (xs++ys))))
theorem nX:i5 X (binaryOp .Add) (lM X.K):=by
 intro pins s σ H x y v u Q I rx ry h;obtain⟨a,b,xs,ys,rfl,rfl,ha,hb,hz,q0,q1,q2⟩:=h;cases rx;cases ry;obtain⟨vs,r1,p1,_⟩:=I.tuple ha;obtain⟨ws,r2,p2,_⟩:=I.tuple hb;have hsz:vs.length+ws.length≤sizeLine:=by rw[←r1.length,←r2.length];exact hz
 obtain⟨⟨cls,dd,data,sl⟩,ho,hc,n,hd⟩:=id p1;obtain⟨⟨cls2,dd2,data2,sl2⟩,ho2,hc2,n2,hd2⟩:=id p2;simp only at hc hd hc2 hd2;subst hc hd hc2 hd2;have e:vs.toArray++ws.toArray=(vs++ws).toArray:=by simp
 by_cases hv:vs=[]
 ·exact concat_meets ⟨_,ho,rfl⟩ ⟨_,ho2,rfl⟩ noFill_tuple_add seq_tuple_add Um Uk (Uz _ _)
   (tuple_addW0 a b vs.toArray ws.toArray n n2 dd dd2 sl sl2 (by simp[hv])) ⟨ho,ho2,⟨.ref b,H,I,rfl,q0 (r1.nil_iff.mp hv)⟩⟩
 ·by_cases hw:ws=[]
  ·exact concat_meets ⟨_,ho,rfl⟩ ⟨_,ho2,rfl⟩ noFill_tuple_add seq_tuple_add Um Uk (Uz _ _)
    (tuple_addW1 a b vs.toArray ws.toArray n n2 dd dd2 sl sl2 (by simpa using hv) (by simp[hw])) ⟨ho,ho2,⟨.ref a,H,I,rfl,q1 (r2.nil_iff.mp hw)⟩⟩
  ·refine concat_meets ⟨_,ho,rfl⟩ ⟨_,ho2,rfl⟩ noFill_tuple_add seq_tuple_add Um Uk (Uz _ _)
    (tuple_addW2 a b vs.toArray ws.toArray n n2 dd dd2 sl sl2 (by simpa using hv) (by simpa using hw) (by rw[Qc,Qc];exact hsz)) ⟨ho,ho2,?_⟩
   rw[e];refine⟨.ref s.heap.objs.size,_,I.laid (t':=s.toks) (o:=.tup (xs++ys)) (fun b ob q=>Qj _ q) (Qv _) ?_,rfl,q2 _ (I.hok.fresh (Qv _))⟩
   exact⟨by rw[Zq];exact hz,_,r1.append r2,S9.new _ _⟩
def pC(K:Qq):R2:=fun x y H Q=>∃a b xs ys,x=.ref a/\y=.ref b/\kA K H a xs/\kA K H b ys/\xs.length+ys.length≤sizeLine/\
 (∀p,H p=none->Q (.ref p) (upd H p (.lst (xs++ys))))
theorem nY:i5 X (binaryOp .Add) (pC X.K):=by
 intro pins s σ H x y v u Q I rx ry h;obtain⟨a,b,xs,ys,rfl,rfl,ha,hb,hz,q2⟩:=h;cases rx;cases ry;obtain⟨vs,r1,p1,_⟩:=I.list ha;obtain⟨ws,r2,p2,_⟩:=I.list hb;have hsz:vs.length+ws.length≤sizeLine:=by rw[←r1.length,←r2.length];exact hz
 obtain⟨⟨cls,dd,data,sl⟩,ho,hc,n,hd⟩:=id p1.isList;obtain⟨⟨cls2,dd2,data2,sl2⟩,ho2,hc2,n2,hd2⟩:=id p2.isList;simp only at hc hd hc2 hd2;subst hc hd hc2 hd2;have e:vs.toArray++ws.toArray=(vs++ws).toArray:=by simp
 refine concat_meets ⟨_,ho,rfl⟩ ⟨_,ho2,rfl⟩ noFill_list_add seq_list_add PySem.F.slot_list_add PySem.F.entry_list_add (PySem.F.args_list_add_2 _ _)
    (list_addW a b vs.toArray ws.toArray n n2 dd dd2 sl sl2 (by rw[Qc,Qc];exact hsz)) ⟨ho,ho2,?_⟩
 rw[e];refine⟨.ref s.heap.objs.size,_,I.lnew (t':=s.toks) (r1.append r2) (by rw[Zq];exact hz),rfl,q2 _ I.fresh⟩
end
end L2.Mir
namespace L2.Mir
open PySem PySem.Spec PyProof.Rows PySem.Builtin
open AutoSeq1 (wpAny_loadPart')
section
variable{X:Cx}{B:OE}
end
section
variable{X:Cx}{B:OE}{pos:Pos}{a b:Expr}{ma mb:Mo D}
def FN:D->D->Option D
 |.tup xs,.tup ys=>if xs.length+ys.length≤10000 then some (.tup (xs++ys))else none
 |_,_=>none
theorem KI{n:Nat}(h:n≤10000):n≤sizeLine:=Qe h (by decide)
theorem Rf:jZ X B (lM X.K) FN:=by
 intro G σ env H x y a b d Q rl ra rb e k;cases a<;>cases b<;>first|(exact absurd (show(none:Option D)=some d from e) (by simp))|skip
 rename_i ds es;simp only[FN]at e;split at e
 ·rename_i hl
  cases e;have ra0:=ra;have rb0:=rb;simp only[a9]at ra rb;obtain⟨p,xs,rfl,q1,r1⟩:=ra;obtain⟨p',ys,rfl,q2,r2⟩:=rb;refine⟨p,p',xs,ys,rfl,rfl,rl.sub.sqT q1,rl.sub.sqT q2,by rw[r1.length,r2.length];exact KI hl,fun z=>?_,fun z=>?_,fun l hp=>?_⟩
  ·subst z
   have:ds=[]:=Uv.mp r1.length.symm;subst this;exact k _ G H (.refl rl) rb0
  ·subst z
   have:es=[]:=Uv.mp r2.length.symm;subst this;exact k _ G H (.refl rl) (by rw[Yr];exact ra0)
  ·exact k _ _ _ (rl.alloc hp) (BL D9 (B9.mono (Le.upd (rl.gnone hp)) _ (r1.append r2)))
 ·cases e
def AY:=rV En FN
theorem KJ:i5 X (binaryOp .Add) (fun x y H Q=>mX (fun i j=>.int (i+j)) x y H Q\/lM X.K x y H Q):=i5.or PH nX
theorem KL:jZ X B (fun x y H Q=>mX (fun i j=>.int (i+j)) x y H Q\/lM X.K x y H Q) AY:=JH.or Rf
def M1(ma mb:Mo D):Mo (List D):=fun env=>(ma env).bind fun p=>(mb p.2).bind fun q=>match p.1,q.1 with
 |.lst xs,.lst ys=>if xs.length+ys.length≤10000 then some (xs++ys,q.2)else none
 |_,_=>none
theorem O0(ha:ED X B a ma)(hb:ED X B b mb):EL X B (.BinOp a .Add b pos) (M1 ma mb):=by
 refine d9 (IM nY ha hb) ?_
 rintro σ H Q ⟨G,env,ds,env',rl,e,k⟩;obtain⟨⟨d1,a8⟩,e1,e2⟩:=C8 e;obtain⟨⟨d2,eW⟩,e3,e4⟩:=C8 e2;dsimp only at e4 e3;refine .bind rl e1 fun v1 G1 H1 fR r1=>.bind fR.rel e3 fun v2 G2 H2 d5 r2=>?_
 split at e4
 ·rename_i xs ys
  split at e4
  ·rename_i hl
   cases e4;have r1':=a9.mono d5.same _ r1;simp only[a9]at r1' r2;obtain⟨p,us,rfl,q1,t1⟩:=r1';obtain⟨p',ws,rfl,q2,t2⟩:=r2;exact⟨p,p',us,ws,rfl,rfl,d5.rel.sub.sqL q1,d5.rel.sub.sqL q2,by rw[t1.length,t2.length];exact KI hl,fun l hp=>AJ (fR.trans d5) hp (t1.append t2) k⟩
  ·cases e4
 ·cases e4
end
end L2.Mir
namespace HT
open PySem PySem.Spec PyProof.Rows
section
variable{prog:Program}{w:World}{A:Around}{E:OU}{s:Shared}
theorem jQ{t sl:Addr}{items:Array Value}{vl vu:Value}{lo hi:Option Int}{Q:OU}(ht:IsTup s.heap t items)(hs:s.heap.IsSliceOf sl vl vu .none)(pl:IsPart vl lo)(pu:IsPart vu hi)
  (hw:gI items.size 0 lo=0/\gI items.size items.size hi=items.size)
  (h:Q (.ref t) s):wpAny (model prog w) A (getItem (.ref t) (.ref sl)) Q E s:=by
 obtain⟨os,hos,hcs,hds⟩:=id hs;have hTs:s.TypeIs (.ref sl) "slice":=⟨os,hos,hcs⟩;unfold getItem
 try with_reducible refine Yt ?_
 first|refine Qz (Qx ?_)|skip
 refine Qz (wpAny_sequenceKey ht.typeIs (by decide) ?_)
 refine Qz (Zh (name:=Str.ofString "__getitem__") ht.typeIs Zf
  (Yk Zf ht.typeIs entry_tuple_getitem ?_ (args_tuple_getitem _ _)))
 show wpAny _ _ (Builtin.Tuple.tupleItemsOf (.ref t)>>=_) _ _ s;refine Qz (tupleItemsOf_ ht ?_);refine Qz (wpAny_typeOf hTs ?_);rw[Qt (by decide)]
 refine Qz (i6 hs pl pu ?_);have hno:((((gI items.size 0 lo:Nat):Int)==0&&(1:Int)==1&&(gI items.size items.size hi-gI items.size 0 lo)==items.size)=true):=by
  rw[hw.1,hw.2];simp
 show wpAny _ _ (if(((gI items.size 0 lo:Nat):Int)==0&&(1:Int)==1&&(gI items.size items.size hi-gI items.size 0 lo)==items.size)=true then _ else _) _ _ s
 rw[Qt hno];refine Qz (Qz (m:=typeOf (.ref t)) (wpAny_typeOf ht.typeIs (Qx ?_)));rw[Qt (by decide)]
 refine Qz (Jm ?_)
 first
  |exact Qx ⟨_,rfl,Qx h⟩
  |exact Qz (Qx ⟨_,rfl,Qx h⟩)
  |exact Qz (Qz (Qx ⟨_,rfl,Qx h⟩))
end
end HT
namespace L2.Mir
open PySem PySem.Spec PyProof.Rows
section
variable{X:Cx}{B:OE}{e lo hi st:Expr}{ma ml mh:Mo D}{pos p2:Pos}
def Rg(K:Qq):V->Option Int->Option Int->Hp->VK->Prop:=fun x lo hi H Q=>∃a xs,x=.ref a/\kN K H a xs/\
 ((HT.gI xs.length 0 lo=0/\HT.gI xs.length xs.length hi=xs.length)->Q (.ref a) H)/\∀p,H p=none->Q (.ref p) (upd H p (.tup (V7 xs lo hi)))
theorem Rh:oG X (Rg X.K):=by
 intro pins s σ H x v vl vu lo hi sl Q I rx hs pl pu h;obtain⟨a,xs,rfl,hx,qw,q⟩:=h
 by_cases hw:HT.gI xs.length 0 lo=0/\HT.gI xs.length xs.length hi=xs.length
 ·cases rx
  obtain⟨its,r,ht,hz⟩:=I.tuple hx;have hlen:its.toArray.size=xs.length:=by rw[Qc];exact r.length.symm
  refine⟨"tuple",_,Zf.lookup,ht.typeIs,?_⟩;exact HT.jQ ht hs pl pu (by rw[hlen];exact hw) ⟨.ref a,H,I,rfl,qw hw⟩
 ·exact Ip pins s σ H (.ref a) v vl vu lo hi sl Q I rx hs pl pu ⟨a,xs,rfl,hx,hw,q⟩
def T4(xs:List D)(lo hi:Option Int):List D:=(xs.drop (HT.gI xs.length 0 lo)).take (HT.gI xs.length xs.length hi-HT.gI xs.length 0 lo)
def Y8:Mo (Option Int):=fun env=>some (none,env)
def Y9(m:Mo D):Mo (Option Int):=fun env=>(m env).bind fun p=>match p.1 with
 |.int i=>some (some i,p.2)
 |_=>none
def uD(K:Qq)(B:OE)(m:Mo (Option Int)):TO:=fun σ H Q=>∃G env o env',Rel K B G σ env H/\m env=some (o,env')/\∀G' H',Ev K B G σ env H G' σ env' H'->Q o H'
abbrev EO(X:Cx)(B:OE)(e:Option Expr)(m:Mo (Option Int)):Prop:=PO X e (uD X.K B m)
theorem KM{X:Cx}{e:Option Expr}{t t':TO}(h:PO X e t)(i:∀σ H Q,t' σ H Q->t σ H Q):PO X e t':=fun pins s σ H Q I q=>h pins s σ H Q I (i σ H Q q)
theorem FO:EO X B none Y8:=by
 refine KM Px ?_
 rintro σ H Q ⟨G,env,o,env',rl,e,k⟩;cases e;exact k G H (.refl rl)
theorem FP(h:ED X B e ma):EO X B (some e) (Y9 ma):=by
 refine KM (Py h) ?_
 rintro σ H Q ⟨G,env,o,env',rl,e,k⟩;obtain⟨⟨d,a8⟩,e1,e2⟩:=C8 e;dsimp only at e2;split at e2
 ·rename_i i
  cases e2;refine .bind rl e1 fun v G1 H1 ev r=>?_
  simp only[a9]at r;exact⟨i,r,k G1 H1 ev⟩
 ·cases e2
def sU(m:Mo D)(ml mh:Mo (Option Int)):Mo D:=fun env=>(m env).bind fun p=>(ml p.2).bind fun q=>(mh q.2).bind fun r=>match p.1 with
 |.tup ds=>some (.tup (T4 ds q.1 r.1),r.2)
 |_=>none
theorem B9.cut{K:Qq}{G:Hp}{xs:List V}{ds:List D}(r:B9 K G xs ds)(lo hi:Option Int):B9 K G (V7 xs lo hi) (T4 ds lo hi):=by
 unfold V7 T4;rw[r.length];exact(r.drop _).take _
theorem Ri{ds:List D}{lo hi:Option Int}(h:HT.gI ds.length 0 lo=0/\HT.gI ds.length ds.length hi=ds.length):T4 ds lo hi=ds:=by
 unfold T4;rw[h.1,h.2];simp
end
section
variable{X:Cx}{pins:OA}{σ:St}{H:Hp}{s:Shared}{h':Heap}
theorem Cz{t':Nat}{ch:List Addr}(I:Inv X pins σ H s)(k:∀b o,b∉ch->s.heap.get? b=some o->h'.get? b=some o)(hf:∀b∈ch,J4 X pins H b):Inv X pins σ H {s with heap:=h',toks:=t'}:=by
 have nit:∀b u,H b=some u->b∉ch:=fun b u e z=>by rw[(hf b z).1]at e;cases e
 refine I.step (g':=s.gens) (d':=s.drawn) (ch:=ch) (fun b hb=>⟨(hf b hb).2.2.2.1,(hf b hb).2.1,(hf b hb).2.2.2.2.1,(hf b hb).2.2.2.2.2⟩) (fun b o _ _ hc e _=>k b o hc e) (fun b o _ _ hc e _=>⟨o.slots,k b o hc e⟩) (fun _ _ _ _ n=>n)
  (fun b o hc e=>⟨o,k b o hc e⟩) (fun _ _ e=>e) (fun _ _ _ e=>e) (fun b ps e=>⟨#[],by rw[e];simp⟩) (fun m hm=>?_) (fun b u e=>?_) I.bare
 ·obtain⟨o,es,ep,ho,r⟩:=hm
  exact⟨o,es,ep,k _ o (fun z=>(hf _ z).2.1 rfl) ho,r⟩
 ·refine(I.hok b u e).stay (fun c v hc q=>k c v ?_ q) (fun _ q=>q) fun _ _ q=>q
  rcases hc with z|z
  ·rw[z];exact nit b u e
  ·exact nit c _ z
theorem KN{t':Nat}{ch:List Addr}{p:Addr}{o:HO}(I:Inv X pins σ H s)(k:∀b o,b∉ch->s.heap.get? b=some o->h'.get? b=some o)(hf:∀b∈ch,J4 X pins H b)
  (hp:s.heap.objs.size≤p)(new:J3 X.prog X.w (upd H p o) h' p o):Inv X pins σ (upd H p o) {s with heap:=h',toks:=t'}:=by
 have nit:∀b u,H b=some u->b∉ch:=fun b u e z=>by rw[(hf b z).1]at e;cases e
 have hn:H p=none:=I.hok.fresh hp
 have np:∀b u,s.heap.get? b=some u->b≠p:=fun b u q=>Qh (Qu (Qk q) hp)
 refine I.step (g':=s.gens) (d':=s.drawn) (ch:=ch) (fun b hb=>⟨(hf b hb).2.2.2.1,(hf b hb).2.1,(hf b hb).2.2.2.2.1,(hf b hb).2.2.2.2.2⟩) (fun b o _ _ hc e _=>k b o hc e) (fun b o _ _ hc e _=>⟨o.slots,k b o hc e⟩) (fun b o _ e n=>by rw[C4 (np b o e)];exact n)
  (fun b o hc e=>⟨o,k b o hc e⟩) (fun b xs q=>by rw[C4 (J5 q hn)];exact q) (fun b u xs q=>by rw[C4 (J5 q hn)];exact q) (fun b ps e=>⟨#[],by rw[C4 (J5 e hn),e];simp⟩) (fun m hm=>?_) (fun b u e=>?_) I.bare
 ·obtain⟨o,es,ep,ho,r⟩:=hm
  exact⟨o,es,ep,k _ o (fun z=>(hf _ z).2.1 rfl) ho,r⟩
 ·by_cases hb:b=p
  ·subst hb;rw[D9]at e;cases e;exact new
  ·rw[C4 hb]at e
   refine(I.hok b u e).stay (fun c v hc q=>k c v ?_ q) (fun c q=>by rw[C4 (J5 q hn)];exact q) fun c xs q=>by rw[C4 (J5 q hn)];exact q
   rcases hc with z|z
   ·rw[z];exact nit b u e
   ·exact nit c _ z
end
def jR(k:Bool)(h:Heap)(l:Addr)(xs:Array Value):Prop:=if k then h.IsTuple l xs else h.IsList l xs
def iH(k:Bool)(h:Heap)(i l:Addr)(n:Nat):Prop:=if k then h.IsTupleIter i l n else h.IsListIter i l n
section
variable{k:Bool}{h h':Heap}{i l b:Addr}{n:Nat}{xs:Array Value}
theorem jR.at'(x:jR k h l xs)(e:∀o,h.get? l=some o->h'.get? l=some o):jR k h' l xs:=by
 cases k
 ·exact Heap.IsList.at (show h.IsList l xs from x) e
 ·obtain⟨o,ho,r⟩:=(show h.IsTuple l xs from x)
  exact(⟨o,e _ ho,r⟩:h'.IsTuple l xs)
theorem iH.at'(x:iH k h i l n)(e:∀o,h.get? i=some o->h'.get? i=some o):iH k h' i l n:=by
 cases k
 ·exact Heap.IsListIter.at (show h.IsListIter i l n from x) e
 ·exact Heap.IsTupleIter.at (show h.IsTupleIter i l n from x) e
theorem iH.get(x:iH k h i l n):∃o,h.get? i=some o/\∀v,o.data≠.cell v:=by
 cases k
 ·obtain⟨o,ho,_,d⟩:=(show h.IsListIter i l n from x);exact⟨o,ho,fun v z=>by rw[d]at z;cases z⟩
 ·obtain⟨o,ho,_,d⟩:=(show h.IsTupleIter i l n from x);exact⟨o,ho,fun v z=>by rw[d]at z;cases z⟩
theorem iH.but(x:iH k h i l n)(hs:Heap.ExtBut b h h')(hb:i≠b):iH k h' i l n:=x.at' fun o e=>hs i o hb e
theorem jR.but(x:jR k h l xs)(hs:Heap.ExtBut b h h')(hb:l≠b):jR k h' l xs:=x.at' fun o e=>hs l o hb e
end
section
variable{prog:Program}{w:World}{A:Around}{E:OU}{s:Shared}
theorem Rj{it l:Addr}{i:Nat}{items:Array Value}{x:Value}{Q:OU}(hit:s.heap.IsTupleIter it l i)(hl:s.heap.IsTuple l items)(hx:items[i]? =some x)
  (hQ:∀h',h'.IsTupleIter it l (i+1)->Heap.SameBut it s.heap h'->Q x {s with heap:=h'}):wpAny (model prog w) A (Builtin.SmallTypes.nextOf (.ref it)) Q E s:=by
 obtain⟨o,ho,hc,hd⟩:=id hit;obtain⟨ol,hol,_,nl,hdl⟩:=hl;unfold Builtin.SmallTypes.nextOf;refine Qz (Zh (name:=Str.ofString "__next__") hit.typeIs Ym (Yk Ym hit.typeIs Uc ?_ (Up _)));show wpAny _ _ (field (.ref it) 0>>=_) _ _ s;refine Qz (Zj ho hd (x:=.ref l) rfl ?_);rw[Qd (show ¬ ((Value.ref l==Value.none)=true)from Zm)]
 refine Qz (Zj ho hd (x:=.int i 0) rfl ?_);refine Qz (Zo hol hdl ?_);simp only[Uy,hx];refine Qz (Vz ho hd (by simp) (Qx ⟨x,rfl,Qx (hQ _ ⟨_,Yn _ ho (Obj.isFreed_of_fields (Uj hd _)),(Obj.cls_mapFields ..).trans hc,?_⟩ (Heap.SameBut.update ..))⟩))
 rw[Uj hd];simp[rawInt]
theorem Rk{it l:Addr}{i:Nat}{items:Array Value}{Q:OU}(hh:A.handled=none)(hit:s.heap.IsTupleIter it l i)(hl:s.heap.IsTuple l items)(hx:items[i]? =none)
  (hE:∀h' e,Heap.ExtBut it s.heap h'->(∃o,h'.get? e=some o/\o.cls=.type "StopIteration")->E (.ref e) {s with heap:=h'}):wpAny (model prog w) A (Builtin.SmallTypes.nextOf (.ref it)) Q E s:=by
 obtain⟨o,ho,hc,hd⟩:=id hit;obtain⟨ol,hol,_,nl,hdl⟩:=hl;unfold Builtin.SmallTypes.nextOf;refine Qz (Zh (name:=Str.ofString "__next__") hit.typeIs Ym (Yk Ym hit.typeIs Uc ?_ (Up _)));show wpAny _ _ (field (.ref it) 0>>=_) _ _ s;refine Qz (Zj ho hd (x:=.ref l) rfl ?_);rw[Qd (show ¬ ((Value.ref l==Value.none)=true)from Zm)]
 refine Qz (Zj ho hd (x:=.int i 0) rfl ?_);refine Qz (Zo hol hdl ?_);simp only[Uy,hx];refine Qz (Jm (Qz (Vz ho hd (by simp) ?_)))
 refine Qz ?_
 simp only[newExc,newTuple];refine Qz (Yq ?_ (by size_fits))
 refine Qz (m:=firstArgMember _ _) (wpAny_of_eq (a:=Value.none) (by first|rfl|(simp only[firstArgMember];rfl)) ?_)
 refine Yq ?_ (by size_fits)
 simp only[raiseNew];refine Qz (wpAny_handled ?_)
 first|rw[show A.in1.handled=none from hh]|rw[hh]
 refine Qz (Qx (wpAny_throw ?_));exact hE _ _ (((Heap.SameBut.update ..).extBut.push _).push _) ⟨_,Qw _ rfl,rfl⟩
theorem BX{k:Bool}{it l:Addr}{i:Nat}{items:Array Value}{x:Value}{Q:OU}(hit:iH k s.heap it l i)(hl:jR k s.heap l items)(hx:items[i]? =some x)
  (hQ:∀h',iH k h' it l (i+1)->Heap.SameBut it s.heap h'->Q x {s with heap:=h'}):wpAny (model prog w) A (Builtin.SmallTypes.nextOf (.ref it)) Q E s:=by
 cases k
 ·exact wpAny_nextOf_list_item hit hl hx hQ
 ·exact Rj hit hl hx hQ
theorem DA{k:Bool}{it l:Addr}{i:Nat}{items:Array Value}{Q:OU}(hh:A.handled=none)(hit:iH k s.heap it l i)(hl:jR k s.heap l items)(hx:items[i]? =none)
  (hE:∀h' e,Heap.ExtBut it s.heap h'->(∃o,h'.get? e=some o/\o.cls=.type "StopIteration")->E (.ref e) {s with heap:=h'}):wpAny (model prog w) A (Builtin.SmallTypes.nextOf (.ref it)) Q E s:=by
 cases k
 ·exact wpAny_nextOf_list_end hh hit hl hx hE
 ·exact Rk hh hit hl hx hE
end
section
variable{prog:Program}{w:World}{A:Around}{E:OU}{s:Shared}{c1 c2:Bool}
theorem Rl{z TI TO i1 i2 l1 l2:Addr}{k1 k2:Nat}{xs ys:Array Value}{x y a b:Value}{Q:OU}(D:ZipApart z TI TO i1 i2 l1 l2)
  (hz:IsZip s.heap z TI TO .none)(hTI:IsPair s.heap TI (.ref i1) (.ref i2))(hTO:IsPair s.heap TO a b)
  (h1:iH c1 s.heap i1 l1 k1)(h2:iH c2 s.heap i2 l2 k2)(hl1:jR c1 s.heap l1 xs)(hl2:jR c2 s.heap l2 ys)(hx:xs[k1]? =some x)(hy:ys[k2]? =some y)
  (hQ:∀h',IsZip h' z TI TO (rawInt s.heap.objs.size)->IsPair h' TO x y->iH c1 h' i1 l1 (k1+1)->iH c2 h' i2 l2 (k2+1)->IsPair h' s.heap.objs.size x y->h'.objs.size=s.heap.objs.size+1->
   (∀c o,c≠z->c≠TO->c≠i1->c≠i2->s.heap.get? c=some o->h'.get? c=some o)->Q (.ref s.heap.objs.size) {s with heap:=h'}):
  wpAny (model prog w) A (Builtin.«zip.__next__» ⟨[.ref z],[]⟩) (fun fin s'=>∃v,fin=.done (.ret v)/\Q v s') E s:=by
 show wpAny _ _ (field (.ref z) 2>>=_) _ _ _;refine Qz (Zj hz rfl (x:=.bool false) rfl (Qz (Zj hz rfl (x:=.ref TI) rfl ?_)));refine Qz (Zo hTI rfl (Qz ?_));unfold Builtin.SmallTypes.ownedTupleIsFree;refine Qz (Zj hz rfl (x:=.none) rfl (Qx ?_));simp only[Zd];refine Qz (Jm (Qz (Zj hz rfl (x:=.ref TO) rfl ?_)));refine Qz (Yc hz (by simp) fun g1 (z1:IsZip g1 z TI TO .ellipsis) s1=>Qz ?_)
 simp only[List.zipIdx_cons,List.zipIdx_nil,Ue,Ji];refine Qz (Qz (Ul (Qz (m:=Builtin.SmallTypes.nextOf (.ref i1)) ?_)));refine BX (h1.but s1.extBut D.i1z) (hl1.but s1.extBut D.l1z) hx fun g2 a2 s2=>Qx ?_
 have p2:IsPair g2 TO a b:=s2.extBut _ _ D.TOi1 (s1.extBut _ _ D.TOz hTO)
 refine Qz (Zo p2 rfl (Qz (Uo p2 fun g3 (p3:IsPair g3 TO x b) s3=>?_)))
 refine Qz (wpAny_letGo (Qx (Qz (Qz (Ul (Qz (m:=Builtin.SmallTypes.nextOf (.ref i2)) ?_))))));refine BX (((h2.but s1.extBut D.i2z).but s2.extBut D.i12.symm).but s3.extBut D.TOi2.symm) (((hl2.but s1.extBut D.l2z).but s2.extBut D.l2i1).but s3.extBut D.l2TO) hy fun g4 a4 s4=>Qx ?_
 have p4:IsPair g4 TO x b:=s4.extBut _ _ D.TOi2 p3
 refine Qz (Zo p4 rfl (Qz (Uo p4 fun g5 (p5:IsPair g5 TO x y) s5=>?_)))
 refine Qz (wpAny_letGo (Qx (Qx (Qz (Zo p5 rfl (Qz (wpAny_newTuple ?_)))))));have hsz:g5.objs.size=s.heap.objs.size:=by rw[s5.1,s4.1,s3.1,s2.1,s1.1]
 have z5:IsZip g5 z TI TO .ellipsis:=s5.extBut _ _ D.TOz.symm (s4.extBut _ _ D.i2z.symm (s3.extBut _ _ D.TOz.symm (s2.extBut _ _ D.i1z.symm z1)))
 have k5:∀c o,c≠z->c≠TO->c≠i1->c≠i2->s.heap.get? c=some o->g5.get? c=some o:=fun c o n1 n2 n3 n4 e=>
  s5.extBut _ _ n2 (s4.extBut _ _ n4 (s3.extBut _ _ n2 (s2.extBut _ _ n3 (s1.extBut _ _ n1 e))))
 have b1:iH c1 g5 i1 l1 (k1+1):=((a2.but s3.extBut D.TOi1.symm).but s4.extBut D.i12).but s5.extBut D.TOi1.symm
 have b2:iH c2 g5 i2 l2 (k2+1):=a4.but s5.extBut D.TOi2.symm
 refine Qz (m:=Builtin.SmallTypes.ownedTupleHandOut (.ref z) (.ref g5.objs.size)) ?_
 unfold Builtin.SmallTypes.ownedTupleHandOut;have z6:IsZip (g5.push {cls:=.type "tuple",data:=.seq #[x,y]}) z TI TO .ellipsis:=Qj _ z5;refine Qz (Yc z6 (by simp) fun g7 (z7:IsZip g7 z TI TO (rawInt g5.objs.size)) s7=>?_)
 refine Yc z7 (by simp) fun g8 (z8:IsZip g8 z TI TO (rawInt g5.objs.size)) s8=>?_
 have up:∀c o,c≠z->g5.get? c=some o->g8.get? c=some o:=fun c o n1 e=>s8.extBut _ _ n1 (s7.extBut _ _ n1 (Qj _ e))
 have t8:IsPair g8 g5.objs.size x y:=s8.extBut _ _ (Js (Qk z5)) (s7.extBut _ _ (Js (Qk z5)) (Qw _ rfl))
 have e8:g8.objs.size=g5.objs.size+1:=by rw[s8.1,s7.1,Zy]
 rw[hsz]at z8 t8 e8;refine Qx ⟨_,rfl,?_⟩;show Q (.ref g5.objs.size) _;rw[hsz];exact hQ g8 z8 (up _ _ D.TOz p5) (b1.at' fun o e=>up _ o D.i1z e) (b2.at' fun o e=>up _ o D.i2z e) t8 e8 fun c o n1 n2 n3 n4 e=>up c o n1 (k5 c o n1 n2 n3 n4 e)
theorem Rm{z TI TO i1 i2 l1 l2:Addr}{k1 k2:Nat}{xs ys:Array Value}{a b:Value}{Q:PySem.Fin->Shared->Prop}(hh:A.handled=none)(D:ZipApart z TI TO i1 i2 l1 l2)
  (hz:IsZip s.heap z TI TO .none)(hTI:IsPair s.heap TI (.ref i1) (.ref i2))(hTO:IsPair s.heap TO a b)
  (h1:iH c1 s.heap i1 l1 k1)(h2:iH c2 s.heap i2 l2 k2)(hl1:jR c1 s.heap l1 xs)(hl2:jR c2 s.heap l2 ys)(hend:xs[k1]? =none\/ys[k2]? =none)
  (hE:∀h' e,(∀c o,c≠z->c≠TO->c≠i1->c≠i2->s.heap.get? c=some o->h'.get? c=some o)->(∃o,h'.get? e=some o/\o.cls=.type "StopIteration")->E (.ref e) {s with heap:=h'}):
  wpAny (model prog w) A (Builtin.«zip.__next__» ⟨[.ref z],[]⟩) Q E s:=by
 show wpAny _ _ (field (.ref z) 2>>=_) _ _ _;refine Qz (Zj hz rfl (x:=.bool false) rfl (Qz (Zj hz rfl (x:=.ref TI) rfl ?_)));refine Qz (Zo hTI rfl (Qz ?_));unfold Builtin.SmallTypes.ownedTupleIsFree;refine Qz (Zj hz rfl (x:=.none) rfl (Qx ?_));simp only[Zd];refine Qz (Jm (Qz (Zj hz rfl (x:=.ref TO) rfl ?_)));refine Qz (Yc hz (by simp) fun g1 (z1:IsZip g1 z TI TO .ellipsis) s1=>Qz ?_)
 simp only[List.zipIdx_cons,List.zipIdx_nil,Ue,Ji];refine Qz (Qz (Ul (Qz (m:=Builtin.SmallTypes.nextOf (.ref i1)) ?_)));cases hx:xs[k1]? with
 |none=>
  refine DA hh (h1.but s1.extBut D.i1z) (hl1.but s1.extBut D.l1z) hx fun g2 e s2 he=>?_
  obtain⟨oe,q1,q2⟩:=he;have z2:IsZip g2 z TI TO .ellipsis:=s2 _ _ D.i1z.symm z1;have ne:e≠z:=fun x=>by subst x;rw[z2]at q1;cases q1;simp at q2
  exact Yc z2 (by simp) fun g3 _ s3=>hE g3 e (fun c o n1 _ n3 _ x=>s3.extBut _ _ n1 (s2 _ _ n3 (s1.extBut _ _ n1 x))) ⟨oe,s3.extBut _ _ ne q1,q2⟩
 |some x=>
  have hy:ys[k2]? =none:=by
   rcases hend with h|h
   ·rw[hx]at h;cases h
   ·exact h
  refine BX (h1.but s1.extBut D.i1z) (hl1.but s1.extBut D.l1z) hx fun g2 a2 s2=>Qx ?_
  have p2:IsPair g2 TO a b:=s2.extBut _ _ D.TOi1 (s1.extBut _ _ D.TOz hTO)
  refine Qz (Zo p2 rfl (Qz (Uo p2 fun g3 p3 s3=>?_)))
  refine Qz (wpAny_letGo (Qx (Qz (Qz (Ul (Qz (m:=Builtin.SmallTypes.nextOf (.ref i2)) ?_))))));refine DA hh (((h2.but s1.extBut D.i2z).but s2.extBut D.i12.symm).but s3.extBut D.TOi2.symm) (((hl2.but s1.extBut D.l2z).but s2.extBut D.l2i1).but s3.extBut D.l2TO) hy fun g4 e s4 he=>?_
  obtain⟨oe,q1,q2⟩:=he;have z4:IsZip g4 z TI TO .ellipsis:=s4 _ _ D.i2z.symm (s3.extBut _ _ D.TOz.symm (s2.extBut _ _ D.i1z.symm z1));have ne:e≠z:=fun x=>by subst x;rw[z4]at q1;cases q1;simp at q2
  exact Yc z4 (by simp) fun g5 _ s5=>hE g5 e (fun c o n1 n2 n3 n4 x=>s5.extBut _ _ n1 (s4 _ _ n4 (s3.extBut _ _ n2 (s2.extBut _ _ n3 (s1.extBut _ _ n1 x))))) ⟨oe,s5.extBut _ _ ne q1,q2⟩
theorem KO{z TI TO i1 i2 l1 l2:Addr}{k1 k2:Nat}{xs ys:Array Value}{x y a b:Value}{Q:Option Value->Shared->Prop}(D:ZipApart z TI TO i1 i2 l1 l2)
  (hz:IsZip s.heap z TI TO .none)(hTI:IsPair s.heap TI (.ref i1) (.ref i2))(hTO:IsPair s.heap TO a b)
  (h1:iH c1 s.heap i1 l1 k1)(h2:iH c2 s.heap i2 l2 k2)(hl1:jR c1 s.heap l1 xs)(hl2:jR c2 s.heap l2 ys)(hx:xs[k1]? =some x)(hy:ys[k2]? =some y)
  (hQ:∀h',IsZip h' z TI TO (rawInt s.heap.objs.size)->IsPair h' TO x y->iH c1 h' i1 l1 (k1+1)->iH c2 h' i2 l2 (k2+1)->IsPair h' s.heap.objs.size x y->h'.objs.size=s.heap.objs.size+1->
   (∀c o,c≠z->c≠TO->c≠i1->c≠i2->s.heap.get? c=some o->h'.get? c=some o)->Q (some (.ref s.heap.objs.size)) {s with heap:=h'}):
  wpAny (model prog w) A (pyNext (.ref z)) Q E s:=by
 have hT:s.TypeIs (.ref z) "zip":=⟨_,hz,rfl⟩
 unfold pyNext;exact Qz (Vk (Zh (name:=Str.ofString "__next__") hT Zr (Yk Zr hT Jc
  (Rl D hz hTI hTO h1 h2 hl1 hl2 hx hy fun h' a1 a2 a3 a4 a5 a6 a7=>Qx (hQ h' a1 a2 a3 a4 a5 a6 a7)) (Jf _))))
theorem KP{z TI TO i1 i2 l1 l2:Addr}{k1 k2:Nat}{xs ys:Array Value}{a b:Value}{Q:Option Value->Shared->Prop}(hh:A.handled=none)(D:ZipApart z TI TO i1 i2 l1 l2)
  (hz:IsZip s.heap z TI TO .none)(hTI:IsPair s.heap TI (.ref i1) (.ref i2))(hTO:IsPair s.heap TO a b)
  (h1:iH c1 s.heap i1 l1 k1)(h2:iH c2 s.heap i2 l2 k2)(hl1:jR c1 s.heap l1 xs)(hl2:jR c2 s.heap l2 ys)(hend:xs[k1]? =none\/ys[k2]? =none)
  (hQ:∀h',(∀c o,c≠z->c≠TO->c≠i1->c≠i2->s.heap.get? c=some o->h'.get? c=some o)->Q none {s with heap:=h'}):wpAny (model prog w) A (pyNext (.ref z)) Q E s:=by
 have hT:s.TypeIs (.ref z) "zip":=⟨_,hz,rfl⟩
 unfold pyNext;refine Qz (Vk (Zh (name:=Str.ofString "__next__") hT Zr (Yk Zr hT Jc
  (Rm hh D hz hTI hTO h1 h2 hl1 hl2 hend fun h' e hk he=>?_) (Jf _))))
 obtain⟨o,ho,hc⟩:=he;exact Qz (wpAny_isInstance (T:="StopIteration") (b:=true) ⟨o,ho,hc⟩ isSubtype_stop (Qx (hQ _ hk)))
end
def KQ(c:Bool):String:=if c then "tuple_iterator" else "list_iterator"
abbrev pQ(c1:Bool)(h:Heap)(l1:Addr):Heap:=h.push {cls:=.type (KQ c1),data:=.fields #[.ref l1,.int 0 0]}
abbrev qW(c1 c2:Bool)(h:Heap)(l1 l2:Addr):Heap:=(pQ c1 h l1).push {cls:=.type (KQ c2),data:=.fields #[.ref l2,.int 0 0]}
abbrev qX(c1 c2:Bool)(h:Heap)(l1 l2:Addr):Heap:=(qW c1 c2 h l1 l2).push {cls:=.type "tuple",data:=.seq #[.ref h.objs.size,.ref (pQ c1 h l1).objs.size]}
abbrev qY(c1 c2:Bool)(h:Heap)(l1 l2:Addr):Heap:=(qX c1 c2 h l1 l2).push {cls:=.type "tuple",data:=.seq #[.none,.none]}
abbrev pD(c1 c2:Bool)(h:Heap)(l1 l2:Addr):Heap:=(qY c1 c2 h l1 l2).push {cls:=.type "zip",data:=.fields #[.none,.bool false,.bool false,.ref (qW c1 c2 h l1 l2).objs.size,.ref (qX c1 c2 h l1 l2).objs.size]}
section
variable{prog:Program}{w:World}{A:Around}{E:OU}{s:Shared}
theorem KR{c:Bool}{l:Addr}{items:Array Value}{Q:OU}(hl:jR c s.heap l items)(hQ:Q (.ref s.heap.objs.size) {s with heap:=pQ c s.heap l}):wpAny (model prog w) A (pyIter (.ref l)) Q E s:=by
 cases c
 ·exact Uu hl hQ
 ·exact Vx hl hQ
end
theorem Rn(c1 c2:Bool)(l1 l2:Addr)(xs ys:Array Value):
  Meets (Builtin.«zip.__new__» ⟨[.type "zip",.ref l1,.ref l2],[]⟩) (fun _ R s=>jR c1 s.heap l1 xs/\jR c2 s.heap l2 ys/\R (.ok (.ret (.ref (qY c1 c2 s.heap l1 l2).objs.size))) {s with heap:=pD c1 c2 s.heap l1 l2}):=
 .of_wp fun prog w A R s h=>by
  obtain⟨hp,g,d,tk,os⟩:=s;obtain⟨hl1,hl2,h⟩:=h;have hsub:=sub_zip;have hL1:jR c1 (Shared.heap ⟨hp,g,d,tk,os⟩) l1 xs:=hl1;have hL2:jR c2 (Shared.heap ⟨pQ c1 hp l1,g,d,tk,os⟩) l2 ys:=jR.at' hl2 fun o e=>Qj _ e
  wp_walk using KR hL1,KR hL2
  exact⟨_,rfl,h⟩
section
variable{prog:Program}{w:World}{A:Around}{E:OU}{s:Shared}
theorem KS{c1 c2:Bool}{l1 l2:Addr}{xs ys:Array Value}{Q:OU}(hl1:jR c1 s.heap l1 xs)(hl2:jR c2 s.heap l2 ys)
  (h:∀h',IsZip h' (s.heap.objs.size+4) (s.heap.objs.size+2) (s.heap.objs.size+3) .none->IsPair h' (s.heap.objs.size+2) (.ref s.heap.objs.size) (.ref (s.heap.objs.size+1))->
   IsPair h' (s.heap.objs.size+3) .none .none->iH c1 h' s.heap.objs.size l1 0->iH c2 h' (s.heap.objs.size+1) l2 0->h'.objs.size=s.heap.objs.size+5->
   (∀c o,s.heap.get? c=some o->h'.get? c=some o)->Q (.ref (s.heap.objs.size+4)) {s with heap:=h'}):
  wpAny (model prog w) A (call (.type "zip") [.ref l1,.ref l2]) Q E s:=by
 refine callType_new PySem.F.called_zip (by decide) (PySem.F.typeCall_zip_2 _ _) (PySem.F.newCall_zip_2 _ _) (fun obj=>PySem.F.args_object_init_3 obj _ _) PySem.F.entry_zip_new (Rn c1 c2 l1 l2 xs ys) ⟨hl1,hl2,?_⟩
 have z1:(pQ c1 s.heap l1).objs.size=s.heap.objs.size+1:=Zy ..
 have z2:(qW c1 c2 s.heap l1 l2).objs.size=s.heap.objs.size+2:=by rw[Zy,z1]
 have z3:(qX c1 c2 s.heap l1 l2).objs.size=s.heap.objs.size+3:=by rw[Zy,z2]
 have z4:(qY c1 c2 s.heap l1 l2).objs.size=s.heap.objs.size+4:=by rw[Zy,z3]
 have z5:(pD c1 c2 s.heap l1 l2).objs.size=s.heap.objs.size+5:=by rw[Zy,z4]
 have g5:(pD c1 c2 s.heap l1 l2).get? (qY c1 c2 s.heap l1 l2).objs.size=some _:=Qw _ rfl
 have g4:(pD c1 c2 s.heap l1 l2).get? (qX c1 c2 s.heap l1 l2).objs.size=some _:=Qj _ (Qw _ rfl)
 have g3:(pD c1 c2 s.heap l1 l2).get? (qW c1 c2 s.heap l1 l2).objs.size=some _:=Qj _ (Qj _ (Qw _ rfl))
 have g2:(pD c1 c2 s.heap l1 l2).get? (pQ c1 s.heap l1).objs.size=some _:=Qj _ (Qj _ (Qj _ (Qw _ rfl)))
 have g1:(pD c1 c2 s.heap l1 l2).get? s.heap.objs.size=some _:=Qj _ (Qj _ (Qj _ (Qj _ (Qw _ rfl))))
 show _/\_;rw[z2,z3,z4]at g5;rw[z1,z2]at g3;rw[z3]at g4;rw[z1]at g2;rw[z4];refine⟨⟨_,g5,rfl⟩,h _ g5 g3 g4 ?_ ?_ z5 fun c o x=>Qj _ (Qj _ (Qj _ (Qj _ (Qj _ x))))⟩
 ·cases c1
  ·exact(⟨_,g1,rfl,rfl⟩:Heap.IsListIter _ _ _ _)
  ·exact(⟨_,g1,rfl,rfl⟩:Heap.IsTupleIter _ _ _ _)
 ·cases c2
  ·exact(⟨_,g2,rfl,rfl⟩:Heap.IsListIter _ _ _ _)
  ·exact(⟨_,g2,rfl,rfl⟩:Heap.IsTupleIter _ _ _ _)
end
def lY(c:Bool)(K:Qq)(H:Hp)(a:Addr)(xs:List V):Prop:=if c then kN K H a xs else kA K H a xs
theorem Le.sqA{K:Qq}{G G':Hp}(l:Le G G'){c:Bool}{a:Addr}{xs:List V}(h:lY c K G a xs):lY c K G' a xs:=by
 cases c
 ·exact l.sqL h
 ·exact l.sqT' h
section
variable{X:Cx}{pins:OA}{σ:St}{H:Hp}{s:Shared}{c:Bool}{a b:Addr}{xs:List V}
theorem S1(I:Inv X pins σ H s)(h:lY c X.K H a xs):∃its:List Value,D6 xs its/\jR c s.heap a its.toArray/\xs.length≤sizeLine:=by
 cases c
 ·obtain⟨its,r,p,z⟩:=I.list h
  exact⟨its,r,p.isList,z⟩
 ·obtain⟨its,r,p,z⟩:=I.tuple h
  exact⟨its,r,p,z⟩
theorem Z0(I:Inv X pins σ H s)(f:J4 X pins H b)(h:lY c X.K H a xs):a≠b:=by
 have k:∀{u:HO},Rd H a u->a≠b:=fun r z=>by
  subst z
  rcases r with r|⟨_,r⟩
  ·rw[f.1]at r;cases r
  ·rw[f.1]at r;cases r
 have m:∀{o:Obj},X.K.lookup a=some o->a≠b:=fun{o} q z=>by
  subst z;have e:X.base.get? a=some o:=I.mod.kin a o q
  rcases f.2.2.2.1 with z|z
  ·exact I.ok.noex a o e z
  ·exact absurd (Qu (Qk e) (Qe I.ok.bsz z)) (Za _)
 cases c
 ·rcases h with h|⟨o,_,_,q,_⟩
  ·exact k h
  ·exact m q
 ·rcases h with h|⟨o,_,_,q,_⟩
  ·exact k h
  ·exact m q
end
def r8(K:Qq)(c1 c2:Bool)(l1 l2:Addr)(xs ys:List V):It:=
 ⟨fun i H=>i<min xs.length ys.length/\lY c1 K H l1 xs/\lY c2 K H l2 ys,
  fun i H x H'=>∃p a b,H p=none/\x=.ref p/\H'=upd H p (.tup [a,b])/\xs[i]? =some a/\ys[i]? =some b,
  fun i H=>min xs.length ys.length≤i/\lY c1 K H l1 xs/\lY c2 K H l2 ys⟩
def Ro(c1 c2:Bool)(n:Nat)(l1 l2:Addr)(i:Nat)(h:Heap):Prop:=
 IsZip h (n+4) (n+2) (n+3) .none/\IsPair h (n+2) (.ref n) (.ref (n+1))/\(∃a b,IsPair h (n+3) a b)/\iH c1 h n l1 i/\iH c2 h (n+1) l2 i
theorem apart{n l1 l2:Addr}(h1:∀j,j<5->l1≠n+j)(h2:∀j,j<5->l2≠n+j):ZipApart (n+4) (n+2) (n+3) n (n+1) l1 l2:=by
 constructor<;>first
  |(show(_:Nat)≠_;omega)
  |exact h1 4 (by decide)
  |exact h1 3 (by decide)
  |exact h1 1 (by decide)
  |exact h1 0 (by decide)
  |exact h2 4 (by decide)
  |exact h2 3 (by decide)
  |exact h2 1 (by decide)
  |exact h2 0 (by decide)
abbrev lN(n:Nat):List Addr:=[n+4,n+2,n+3,n,n+1]
abbrev oI(n:Nat):List Addr:=[n+4,n+3,n,n+1]
theorem W0(n:Nat):∀{j:Nat},j<5->(n+j:Nat)∈lN n
 |0,_=>by simp[lN]
 |1,_=>by simp[lN]
 |2,_=>by simp[lN]
 |3,_=>by simp[lN]
 |4,_=>by simp[lN]
 |j+5,h=>by omega
theorem DB{n:Nat}{c:Addr}(h:c∈oI n):c∈lN n:=by
 simp only[oI,lN,Qg,Zx,Yu]at h ⊢
 rcases h with h|h|h|h<;>simp[h]
theorem Rp{n:Nat}{c:Addr}(h:c∈[n+4]):c∈lN n:=by
 simp only[Qg,Zx,Yu]at h;rw[h];simp
theorem sV{n:Nat}{c:Addr}(h:c∈lN n):n≤c:=by
 simp only[lN,Qg,Zx,Yu]at h
 rcases h with rfl|rfl|rfl|rfl|rfl
 ·exact Ur _ _
 ·exact Ur _ _
 ·exact Ur _ _
 ·exact Qv _
 ·exact Ur _ _
theorem Rq{P:Program}{w:World}{K:Qq}{elts:List Expr}{kk:Nat}{tp:Pos}(c1 c2:Bool)(n l1 l2:Addr)(xs ys:List V):
  Turn P w K (.Tuple elts kk tp) (r8 K c1 c2 l1 l2 xs ys) [n+4,n+2,n+3,n,n+1] (n+4) (Ro c1 c2 n l1 l2)where
 mem:=by simp
 obj:=fun i h st b hb=>by
  obtain⟨hz,hI,⟨a,b',hO⟩,h1,h2⟩:=st;simp only[Qg,Zx,Yu]at hb
  rcases hb with rfl|rfl|rfl|rfl|rfl
  ·exact⟨_,hz,fun v z=>by cases z⟩
  ·exact⟨_,hI,fun v z=>by cases z⟩
  ·exact⟨_,hO,fun v z=>by cases z⟩
  ·exact h1.get
  ·exact h2.get
 keep:=fun i h h' st k=>by
  obtain⟨hz,hI,⟨a,b',hO⟩,h1,h2⟩:=st;exact⟨k _ (by simp) _ hz,k _ (by simp) _ hI,⟨a,b',k _ (by simp) _ hO⟩,h1.at' fun o e=>k _ (by simp) o e,h2.at' fun o e=>k _ (by simp) o e⟩
 item:=by
  intro X hP hw hK hc i pins s σ H E I hf st hg;subst hP hw hK;obtain⟨hi,q1,q2⟩:=hg;obtain⟨hz,hI,⟨a,b,hO⟩,h1,h2⟩:=st;obtain⟨its,r1,p1,_⟩:=S1 I q1;obtain⟨jts,r2,p2,_⟩:=S1 I q2;have ex:xs[i]? =some (xs[i]'(by omega)):=by simp
  have ey:ys[i]? =some (ys[i]'(by omega)):=by simp
  obtain⟨u,hu,ru⟩:=r1.get ex;obtain⟨v,hv,rv⟩:=r2.get ey;have D:ZipApart (n+4) (n+2) (n+3) n (n+1) l1 l2:=apart
   (fun j hj=>Z0 I (hf _ (W0 n hj)) q1)
   (fun j hj=>Z0 I (hf _ (W0 n hj)) q2)
  refine KO D hz hI hO h1 h2 p1 p2 (x:=u) (y:=v) (by simpa using hu) (by simpa using hv) fun h' a1 a2 a3 a4 a5 a6 a7=>?_
  have hn:H s.heap.objs.size=none:=I.fresh
  have I1:Inv X pins σ (upd H s.heap.objs.size (.tup [xs[i]'(by omega),ys[i]'(by omega)])) {s with heap:=h'}:=KN (ch:=[n+4,n+3,n,n+1]) (t':=s.toks) I
   (fun c o hc e=>a7 c o (fun z=>hc (by simp[z])) (fun z=>hc (by simp[z])) (fun z=>hc (by simp[z])) (fun z=>hc (by simp[z])) e)
   (fun c hc=>hf c (DB hc)) (Qv _)
   ⟨by show 2≤sizeLine;decide,[u,v],.cons ru (.cons rv .nil),_,a5,rfl,rfl,0,rfl⟩
  have lt5:∀c∈[n+4,n+2,n+3,n,n+1],c≠s.heap.objs.size:=fun c hc=>by
   have:∃o,s.heap.get? c=some o:=by
    simp only[Qg,Zx,Yu]at hc
    rcases hc with rfl|rfl|rfl|rfl|rfl
    ·exact⟨_,hz⟩
    ·exact⟨_,hI⟩
    ·exact⟨_,hO⟩
    ·obtain⟨o,e,_⟩:=h1.get;exact⟨o,e⟩
    ·obtain⟨o,e,_⟩:=h2.get;exact⟨o,e⟩
   obtain⟨o,e⟩:=this;exact Qh (Qk e)
  have hf2:∀c∈[n+4,n+2,n+3,n,n+1],J4 X pins (upd H s.heap.objs.size (.tup [xs[i]'(by omega),ys[i]'(by omega)])) c:=fun c hc=>⟨by rw[C4 (lt5 c hc)];exact(hf c hc).1,(hf c hc).2⟩
  have hI':IsPair h' (n+2) (.ref n) (.ref (n+1)):=a7 _ _ D.TIz D.TITO D.TIi1 D.TIi2 hI
  refine⟨.ref s.heap.objs.size,rfl,wpAny_letOwnedTupleGo_zip (s:={s with heap:=h'}) a1 fun h2' b1 b2=>?_⟩
  have I2:Inv X pins σ (upd H s.heap.objs.size (.tup [xs[i]'(by omega),ys[i]'(by omega)])) {s with heap:=h2'}:=Cz (s:={s with heap:=h'}) (ch:=[n+4]) (t':=s.toks) I1
   (fun c o hc e=>b2.extBut _ _ (fun z=>hc (by simp[z])) e) (fun c hc=>hf2 c (Rp hc))
  exact⟨.ref s.heap.objs.size,_,I2,rfl,⟨_,_,_,hn,rfl,rfl,ex,ey⟩,
   ⟨b1,b2.extBut _ _ D.TIz hI',⟨_,_,b2.extBut _ _ D.TOz a2⟩,a3.but b2.extBut D.i1z,a4.but b2.extBut D.i2z⟩,fun c hc=>(hf2 c hc).1⟩
 done:=by
  intro X hP hw hK hc i pins s σ H E I hf st hg;subst hP hw hK;obtain⟨hi,q1,q2⟩:=hg;obtain⟨hz,hI,⟨a,b,hO⟩,h1,h2⟩:=st;obtain⟨its,r1,p1,_⟩:=S1 I q1;obtain⟨jts,r2,p2,_⟩:=S1 I q2;have D:ZipApart (n+4) (n+2) (n+3) n (n+1) l1 l2:=apart
   (fun j hj=>Z0 I (hf _ (W0 n hj)) q1)
   (fun j hj=>Z0 I (hf _ (W0 n hj)) q2)
  have e1:=r1.length
  have e2:=r2.length
  have hend:its.toArray[i]? =none\/jts.toArray[i]? =none:=by
   by_cases h:its.length≤i
   ·exact .inl (by simp;omega)
   ·exact .inr (by simp;omega)
  exact KP (I.ok.hd hc) D hz hI hO h1 h2 p1 p2 hend fun h' hk=>⟨rfl,Cz (ch:=[n+4,n+3,n,n+1]) (t':=s.toks) I
   (fun c o hc e=>hk c o (fun z=>hc (by simp[z])) (fun z=>hc (by simp[z])) (fun z=>hc (by simp[z])) (fun z=>hc (by simp[z])) e)
   (fun c hc=>hf c (DB hc))⟩
 self:=fun _ _ _ _ _ st h=>wpAny_pyIter_zip st.1 h
theorem KT:bootBuiltins "zip"=some (.type "zip"):=by rfl'
section
variable{X:Cx}{B:OE}{pos p:Pos}{a b:Expr}{ms:Mo (List D)}{elts:List Expr}{kk:Nat}{tp:Pos}
def Rt(K:Qq)(ta:TA):TI:=fun σ H R=>ta σ H fun vs H1=>∃c1 c2 l1 l2 xs ys,vs=[.ref l1,.ref l2]/\lY c1 K H1 l1 xs/\lY c2 K H1 l2 ys/\R (r8 K c1 c2 l1 l2 xs ys) H1
theorem Ru{ta:TA}(hg:Gl X "zip")(hm:X.mg "zip"=none)(ha:PA X [a,b] ta)(hs:starEach [a,b] X.env=[(false,eval a X.env),(false,eval b X.env)]:=by rfl)(hs2:starEach [b] X.env=[(false,eval b X.env)]:=by rfl):
  PI X (.Tuple elts kk tp) (.Call (.Name "zip" p) [a,b] [] pos) (Rt X.K ta):=by
 intro pins s σ H R I h;refine Call_ (AF I hg hm KT (Yp (eV (ha pos pins s σ H _ I h) fun us s1 ⟨vs,H1,I1,r1,q1⟩=>?_) (by rw[hs,hs2]) (by rw[hs2];rfl)))
 obtain⟨c1,c2,l1,l2,xs,ys,rfl,h1,h2,q⟩:=q1;obtain⟨u,v,rfl,ru,rv⟩:=AG r1;cases ru;cases rv;obtain⟨its,r1,p1,_⟩:=S1 I1 h1;obtain⟨jts,r2,p2,_⟩:=S1 I1 h2;refine KS p1 p2 fun h' a1 a2 a3 a4 a5 a6 a7=>?_
 refine wpAny_pyIter_zip a1 ?_
 refine⟨s1.heap.objs.size+4,_,_,_,H1,rfl,I1.kept (t':=s1.toks) a7,Rq c1 c2 s1.heap.objs.size l1 l2 xs ys,⟨a1,a2,⟨_,_,a3⟩,a4,a5⟩,fun c hc=>?_,q⟩
 have hle:s1.heap.objs.size≤c:=sV hc
 exact I1.fpOk hle (I1.hok.fresh hle)
def P8(xs ys:List D):List D:=(xs.zip ys).map fun p=>.tup [p.1,p.2]
def BY(ms:Mo (List D)):Mo (List D):=fun env=>(ms env).bind fun p=>match p.1 with
 |[d,e]=>d.items.bind fun xs=>e.items.map fun ys=>(P8 xs ys,p.2)
 |_=>none
theorem DC{K:Qq}{G:Hp}{v:V}{d:D}{ds:List D}(r:a9 K G v d)(h:d.items=some ds):∃c a xs,v=.ref a/\lY c K G a xs/\B9 K G xs ds:=by
 cases d<;>first|(exact absurd (show(none:Option (List D))=some ds from h) (by simp))|skip
 ·cases h;simp only[a9]at r;obtain⟨a,xs,e,q,t⟩:=r;exact⟨true,a,xs,e,q.t,t⟩
 ·cases h;simp only[a9]at r;obtain⟨a,xs,e,q,t⟩:=r;exact⟨false,a,xs,e,q,t⟩
theorem Rv{K:Qq}{G:Hp}{c1 c2:Bool}{l1 l2:Addr}{xs ys:List V}{ds es:List D}(h1:lY c1 K G l1 xs)(h2:lY c2 K G l2 ys)(r1:B9 K G xs ds)(r2:B9 K G ys es):pA K (r8 K c1 c2 l1 l2 xs ys) G (P8 ds es)where
 go:=fun i H l hi=>⟨by rw[r1.length,r2.length];simpa [P8]using hi,l.sqA h1,l.sqA h2⟩
 stop:=fun i H l hi=>⟨by rw[r1.length,r2.length];simpa [P8]using hi,l.sqA h1,l.sqA h2⟩
 yld:=fun i H x H' d l y e=>by
  obtain⟨p,a,b,hp,rfl,rfl,ea,eb⟩:=y;obtain⟨da,e1,ra⟩:=r1.get' ea;obtain⟨db,e2,rb⟩:=r2.get' eb;have ed:d=.tup [da,db]:=by
   unfold P8 at e;rw[Zc,List.getElem?_zip_eq_some.mpr (⟨e1,e2⟩:ds[i]? =some (da,db).1/\es[i]? =some (da,db).2)]at e;cases e;rfl
  subst ed;have gp:G p=none:=by
   cases q:G p with
   |none=>rfl
   |some o=>rw[l p o q]at hp;cases hp
  exact .inr ⟨p,_,o9,hp,rfl,BL D9 (fB (a9.mono (Le.upd gp) _ ra) (fB (a9.mono (Le.upd gp) _ rb) eY))⟩
theorem DD(hg:Gl X "zip")(hm:X.mg "zip"=none)(ha:m5 X B [a,b] ms)(hs:starEach [a,b] X.env=[(false,eval a X.env),(false,eval b X.env)]:=by rfl)(hs2:starEach [b] X.env=[(false,eval b X.env)]:=by rfl):
  EI X B (.Tuple elts kk tp) (.Call (.Name "zip" p) [a,b] [] pos) (BY ms):=by
 refine Ez (Ru hg hm ha hs hs2) ?_
 rintro σ H R ⟨G,env,ds,env',rl,e,k⟩;obtain⟨⟨ds',a8⟩,e1,e2⟩:=C8 e;dsimp only at e2;split at e2
 ·rename_i d1 d2
  obtain⟨xs,e3,e4⟩:=C8 e2;obtain⟨ys,e5,e6⟩:=E8 e4;cases e6;refine⟨G,env,_,_,rl,e1,fun vs G1 H1 ev r=>?_⟩
  obtain⟨v,w,rfl,r1,r2⟩:=Cj r;obtain⟨c1,l1,us,rfl,q1,t1⟩:=DC r1 e3;obtain⟨c2,l2,ws,rfl,q2,t2⟩:=DC r2 e5;exact⟨c1,c2,l1,l2,us,ws,rfl,ev.rel.sub.sqA q1,ev.rel.sub.sqA q2,k _ G1 H1 ev (Rv q1 q2 t1 t2)⟩
 ·cases e2
end
theorem FQ{P:Program}{w:World}{H:Hp}{h:Heap}{a:Addr}{o:HO}(x:J3 P w H h a o):∃ob,h.get? a=some ob:=by
 cases o with
 |lst xs=>obtain⟨_,_,_,_,e⟩:=x;exact⟨_,e⟩
 |tup xs=>obtain⟨_,_,_,ob,e,_⟩:=x;exact⟨_,e⟩
 |dK kvs=>obtain⟨_,_,_,_,o,_,_,e,_⟩:=x;exact⟨_,e⟩
 |dT C kvs=>obtain⟨_,_,_,_,o,_,_,e,_⟩:=x;exact⟨_,e⟩
 |dX es ep=>obtain⟨_,_,o,e,_⟩:=x;exact⟨_,e⟩
 |set S n=>obtain⟨o,_,_,_,e,_⟩:=x;exact⟨_,e⟩
 |ins C dx fs=>obtain⟨_,_,_,e,_⟩:=x;exact⟨_,e⟩
 |own y=>obtain⟨_,e⟩:=x;exact⟨_,e⟩
 |xd fs=>obtain⟨_,⟨_,_,_,e,_⟩,_⟩:=x;exact⟨_,e⟩
 |rng lo hi=>obtain⟨_,_,_,e⟩:=x;exact⟨_,e⟩
 |frz ob u=>obtain⟨e,_⟩:=x;exact⟨_,e⟩
 |tbl ps=>exact⟨_,(show h.get? a=some _ from x)⟩
 |met f y=>exact⟨_,(show h.get? a=some _ from x)⟩
 |ext φ=>obtain⟨_,⟨_,e⟩,_⟩:=x;exact⟨_,e⟩
section
variable{prog:Program}{w:World}{A:Around}{s:Shared}{fin:Bool}{Q:Bool->Shared->Prop}
end
section
variable{X:Cx}{pins:OA}{σ:St}{H:Hp}{s:Shared}
theorem Rw{h':Heap}{t':Nat}{m:OI}(I:Inv X pins σ H s)(hm:s.heap.Ns X.env.locals m)(hm':h'.Ns X.env.locals m)(k:∀b o,b≠X.env.locals->s.heap.get? b=some o->h'.get? b=some o):Inv X pins σ H {s with heap:=h',toks:=t'}:=by
 refine I.step (g':=s.gens) (d':=s.drawn) (ch:=[]) (fun _ z=>nomatch z) (fun b o hL _ _ e _=>k b o hL e) (fun b o hL _ _ e _=>⟨o.slots,k b o hL e⟩) (fun _ _ _ _ n=>n) (fun b o _ e=>?_) (fun _ _ e=>e) (fun _ _ _ e=>e) (fun b ps e=>⟨#[],by rw[e];simp⟩) (fun m2 hm2=>?_) (fun b u e=>?_) I.bare
 ·by_cases hb:b=X.env.locals
  ·subst hb
   obtain⟨o',_,_,ho,_⟩:=hm';exact⟨o',ho⟩
  ·exact⟨o,k b o hb e⟩
 ·have e:m2=m:=by
   funext x
   obtain⟨o1,es1,ep1,h1,h2,_,h3⟩:=hm;obtain⟨o2,es2,ep2,g1,g2,_,g3⟩:=hm2;rw[h1]at g1;cases g1;rw[h2]at g2;injection g2 with g4 _
   subst g4;rw[←h3,←g3]
  rw[e];exact hm'
 ·refine(I.hok b u e).stay (fun c v hc q=>k c v ?_ q) (fun _ q=>q) fun _ _ q=>q
  rcases hc with z|z
  ·rw[z];intro z2;rw[z2,I.free]at e;cases e
  ·intro z2;rw[z2,I.free]at z;cases z
theorem KU{p:Addr}(I:Inv X pins σ H s)(np:∀b u,s.heap.get? b=some u->b≠p):H p=none:=by
 cases e:H p with
 |none=>rfl
 |some o=>
  obtain⟨ob,q⟩:=FQ (I.hok p o e);exact absurd rfl (np p ob q)
theorem Rx{h':Heap}{t' n:Nat}{m:OI}{p:Addr}{ys:List V}{its:List Value}(I:Inv X pins σ H s)(hm:s.heap.Ns X.env.locals m)(hm':h'.Ns X.env.locals m)(k:∀b o,b≠X.env.locals->s.heap.get? b=some o->h'.get? b=some o)
  (np:∀b u,s.heap.get? b=some u->b≠p)(hv:D6 ys its)(hz:ys.length≤sizeLine)(hn:h'.get? p=some {cls:=.type "list",data:=.seq its.toArray n}):Inv X pins σ (upd H p (.lst ys)) {s with heap:=h',toks:=t'}:=by
 have I1:Inv X pins σ H {s with heap:=h',toks:=t'}:=Rw I hm hm' k
 have hf:H p=none:=KU I np
 refine I.step (g':=s.gens) (d':=s.drawn) (ch:=[]) (fun _ z=>nomatch z) (fun b o hL _ _ e _=>k b o hL e) (fun b o hL _ _ e _=>⟨o.slots,k b o hL e⟩) (fun b o _ e n=>by rw[C4 (np b o e)];exact n) (fun b o _ e=>?_) (fun b xs q=>by rw[C4 (J5 q hf)];exact q) (fun b u xs q=>by rw[C4 (J5 q hf)];exact q) (fun b ps e=>⟨#[],by rw[C4 (J5 e hf),e];simp⟩) (fun m2 hm2=>?_) (fun b u e=>?_) I.bare
 ·by_cases hb:b=X.env.locals
  ·subst hb
   obtain⟨o',_,_,ho,_⟩:=hm';exact⟨o',ho⟩
  ·exact⟨o,k b o hb e⟩
 ·have e:m2=m:=by
   funext x
   obtain⟨o1,es1,ep1,h1,h2,_,h3⟩:=hm;obtain⟨o2,es2,ep2,g1,g2,_,g3⟩:=hm2;rw[h1]at g1;cases g1;rw[h2]at g2;injection g2 with g4 _
   subst g4;rw[←h3,←g3]
  rw[e];exact hm'
 ·by_cases hb:b=p
  ·subst hb
   rw[D9]at e;cases e;exact⟨hz,its,n,hv,hn⟩
  ·rw[C4 hb]at e
   exact(I1.hok b u e).stay (fun c v hc q=>q) (fun c q=>by rw[C4 (J5 q hf)];exact q) fun c xs q=>by rw[C4 (J5 q hf)];exact q
def keys(ds:List D):Option (OO):=ds.mapM fun d=>match d with
 |.tup es=>(k8 es).bind fun ns=>if ns.isEmpty then none else some ns
 |_=>none
end
section
variable{X:Cx}{B:OE}
end
section
variable{X:Cx}{B:OE}{pos:Pos}
end
section
variable{X:Cx}{B:OE}{pos p:Pos}{e:Expr}{es:List Expr}{as:Mo (List Ar)}{fn:Fn}{k n:Nat}{f:Addr}{fd:FuncData}{ps:List Str}{x:Str}
structure Def(P:Program)(w:World)(K:Qq)(mg:OI)(base:Heap)(x:Str)(k n:Nat)(fn:Fn):Prop where
 ex:∃(f:Addr) (fd:FuncData) (ps:List Str),c8 P w K mg base gA k f fd ps (gU K n fn)/\ps.length=n/\mg x=some (.ref f)/\PySem.W.keepIn K (.ref f)=true/\L8 K fd ps []
theorem E6(D:Def X.prog X.w X.K X.mg X.base x k n fn)(hr:fA k X.A)(hg:Gl X x)(ha:n9 X B (e::es) as)(hdb:(x==("__debug__":Str))=false:=by decide)
  (he:starEach (e::es) X.env=(false,eval e X.env)::starEach es X.env:=by rfl)(hpl:(backTo pos (starEach es X.env)).any (·.1)=false:=by rfl):
  ED X B (.Call (.Name x p) (e::es) [] pos) (gJ n fn as):=by
 obtain⟨f,fd,ps,F,rfl,hm,hk,hb⟩:=D.ex;exact RG F hr hg hm hk hb ha hdb he hpl
theorem R3(D:Def X.prog X.w X.K X.mg X.base x k n fn)(hr:fA k X.A)(hg:Gl X x)(ha:n9 X B (e::es) as)(hdb:(x==("__debug__":Str))=false:=by decide)
  (he:starEach (e::es) X.env=(false,eval e X.env)::starEach es X.env:=by rfl)(hpl:(backTo pos (starEach es X.env)).any (·.1)=false:=by rfl):
  EL X B (.Call (.Name x p) (e::es) [] pos) (Q6 n fn as):=by
 obtain⟨f,fd,ps,F,rfl,hm,hk,hb⟩:=D.ex;exact RH F hr hg hm hk hb ha hdb he hpl
def Z1:Option NameKind->Option NameKind->Bool:=fun a b=>decide (a=b)
def KW(outN N':List Str)(outNames:List (Str×NameKind))(cells:List (Str×Addr))(scope:Scope)(keep:List Bool)(more:Nat):Bool:=
 (decide (scope.kind=.function)&&(scope.names.all (fun y=>Z1 (scope.names.lookup y.1) (some y.2))&&(scope.names.all (fun y=>!Z1 (some y.2) (some .free)||(cells.lookup y.1).isSome)&&(decide (keep.length=outN.length)&&(decide (N'.length=outN.length+more)&&
  (List.range keep.length).all fun i=>!(keep.getD i false)||match N'[i]?,outN[i]? with
   |some x,some y=>decide (x=y)&&(!Z1 (scope.names.lookup x) (some .local)&&(!Z1 (scope.names.lookup x) (some .cell)&&(!Z1 (scope.names.lookup x) (some .free)||(Z1 (outNames.lookup x) (some .cell)||Z1 (outNames.lookup x) (some .free)))))
   |_,_=>false)))))
theorem W2{N':List Str}{scope:Scope}{keep:List Bool}{more:Nat}(c:closureFor scope X.env=pure (M0 X.env.cells scope.names []))(h:KW X.N N' X.env.scope.names X.env.cells scope keep more=true):gM X N' scope keep more:=by
 unfold KW at h;simp only[Qr,Jr,Yv,Z1]at h;obtain⟨h1,h2,h3,h4,h5,h6⟩:=h;have gt:∀(i:Nat) (x:Str),keep[i]? =some true->N'[i]? =some x->∃y,X.N[i]? =some y/\x=y/\ ¬ (scope.names.lookup x=some .local)/\ ¬ (scope.names.lookup x=some .cell)/\(scope.names.lookup x=some .free->X.env.scope.names.lookup x=some .cell\/X.env.scope.names.lookup x=some .free):=fun i x e1 e2=>by
  have hi:i<keep.length:=(Qy.mp e1).1
  have q:=h6 i (List.mem_range.mpr hi)
  have e3:keep.getD i false=true:=by simp[e1]
  rw[e3,e2]at q;cases e4:X.N[i]? with
  |none=>rw[e4]at q;simp at q
  |some y=>
   rw[e4]at q;simp only[Bool.not_true,Bool.false_or,Qr,Jr,Ub,decide_eq_false_iff_not,Bool.or_eq_true]at q;obtain⟨q1,q2,q3,q4⟩:=q;exact⟨y,rfl,q1,q2,q3,fun z=>q4.elim (fun n=>absurd z n) id⟩
 refine⟨h1,h2,c,fun y hy hf=>?_,h4,h5,fun i x e1 e2=>?_,fun i x e1 e2 e3=>?_⟩
 ·have q:=h3 y hy
  rw[hf]at q
  simpa using q
 ·obtain⟨y,g1,g2,g3,g4,_⟩:=gt i x e1 e2
  exact⟨by rw[g1,g2],g3,g4⟩
 ·have hi:i<keep.length:=(Qy.mp e1).1
  have hN:i<N'.length:=by omega
  obtain⟨y,g1,g2,g3,g4,g5⟩:=gt i _ e1 (Ux hN);rw[e2]at g1;cases g1;rw[g2]at g5;exact g5 e3
end
section
variable{X:Cx}{B:OE}{pos:Pos}
theorem FR{x:Str}{i:Int}(hg:Gl X x)(hm:∃t,X.mg x=some (.int i t))(hd:(x==("__debug__":Str))=false:=by decide):ED X B (.Name x pos) (mC (.int i)):=by
 obtain⟨t,hm⟩:=hm;exact QQ hg hm hd
def Kp(i:Nat)(m:Mo D):Prop:=∀env d env' w ds,m env=some (d,env')->env'[i]? =some w->w.mut=some ds->∃w0 ds0,env[i]? =some w0/\w0.mut=some ds0
theorem Ry{i:Nat}{d:D}:Kp i (mC d):=fun env d' env' w ds e h1 h2=>by cases e;exact⟨w,ds,h1,h2⟩
theorem Rz{i:Nat}{m:Mo D}(h:Kp i m):Kp i (Bz m):=fun env d' env' w ds e h1 h2=>by
 obtain⟨⟨d,a8⟩,e1,e2⟩:=C8 e;dsimp only at e2;split at e2
 ·cases e2;exact h env _ _ w ds e1 h1 h2
 ·cases e2
theorem FT:bootBuiltins "int"=some (.type "int"):=by rfl'
theorem SA:bootBuiltins "bool"=some (.type "bool"):=by rfl'
theorem FU:bootBuiltins "str"=some (.type "str"):=by rfl'
theorem SD:bootBuiltins "tuple"=some (.type "tuple"):=by rfl'
theorem FV:bootBuiltins "list"=some (.type "list"):=by rfl'
theorem FW:bootBuiltins "all"=some (.builtin "all"):=by rfl'
theorem SE:bootBuiltins "min"=some (.builtin "min"):=by rfl'
theorem SF:bootBuiltins "sorted"=some (.builtin "sorted"):=by rfl'
end
theorem FX{K:Qq}{G:Hp}:∀ns:List Int,B9 K G (ns.map V.int) (ns.map D.int)
 |[]=>eY
 |n::ns=>fB (by simp only[a9]) (FX ns)
def CD:Expr->Bool
 |.Starred _ _=>true
 |_=>false
theorem B7{e:Expr}{es:List Expr}{env:Env}(h:CD e=false):starEach (e::es) env=(false,eval e env)::starEach es env:=by
 cases e<;>first|rfl|cases h
theorem pE{a:Expr}{env:Env}(h:CD a=false):starEach [a] env=[(false,eval a env)]:=by rw[B7 h];rfl
theorem r9{a b:Expr}{env:Env}(h:CD a=false)(h2:CD b=false):starEach [a,b] env=[(false,eval a env),(false,eval b env)]:=by rw[B7 h,pE h2]
theorem D3{pos:Pos}{env:Env}:∀{es:List Expr},es.all (fun e=>!CD e)=true->(backTo pos (starEach es env)).any (·.1)=false
 |[],_=>rfl
 |e::es,h=>by
  rw[List.all_cons,Qr,Ub]at h;rw[B7 h.1];show(false||(backTo pos (starEach es env)).any (·.1))=false
  rw[D3 h.2];rfl
theorem SG{N:Nat}{mb:Mo Fl}{ws env:List W}{d:D}(h:mb (ws++List.replicate (N-ws.length) .nil)=some (.ret d,env)):iO N mb ws=some (.d d,T2 ws env):=by unfold iO;rw[h]
def stop(b:Bool)(d:D):Fl:=if b then .nx else .ret d
theorem DE{f:D->D->Option D}{ma mb:Mo D}{env e1 e2:c7}{a b c:D}(h1:ma env=some (a,e1))(h2:mb e1=some (b,e2))(hf:f a b=some c):C7 f ma mb env=some (c,e2):=by
 unfold C7;rw[h1];show(mb e1).bind _=_;rw[h2];show(f a b).map _=_;rw[hf];rfl
theorem KY{m:Mo D}{env e1:c7}{d:D}(h:m env=some (d,e1)):E4 m env=some (.ret d,e1):=by unfold E4;rw[h];rfl
theorem SH{i:Nat}{m:Mo D}{env e1:c7}{d:D}(h:m env=some (d,e1)):F2 i m env=some (.nx,e1.set i (.dat d)):=by unfold F2;rw[h];rfl
theorem SI{n:Nat}{f:Fn}{as:Mo (List Ar)}{env e1:c7}{av:List Ar}{r:Rr}{ws':List W}(h:as env=some (av,e1))(hn:av.length=n)(hs:slots av=[])(hf:f (av.map (N4 (.l [])))=some (r,ws')):BR n f as env=some (r,e1):=by
 unfold BR;rw[h];show(if av.length=n then _ else none)=_
 rw[Qt hn];simp only[hs];rw[hf];rfl
theorem SJ{n:Nat}{f:Fn}{as:Mo (List Ar)}{env e1:c7}{d:D}(h:BR n f as env=some (.d d,e1)):gJ n f as env=some (d,e1):=by unfold gJ;rw[h];rfl
section
variable{X:Cx}{B:OE}{pos:Pos}{e:Expr}{ma:Mo D}
def U8(m:Mo D):Mo Fl:=fun env=>(m env).map fun p=>(.nx,p.2)
theorem U9(h:ED X B e ma)(hsw:swapsWith e none pos.line X.env=pure false:=by rfl):ES X B (.Expr e pos) (U8 ma):=by
 refine iB (CU (te:=TD X.K B ma) h hsw) ?_
 rintro D σ H ⟨G,env,fl,env',rl,e,k⟩;obtain⟨⟨d,a8⟩,e1,e2⟩:=E8 e;cases e2;exact .bind rl e1 fun v G' H' ev r=>k σ G' H' ev
end
section
variable{X:Cx}{B:OE}
end
section
variable{X:Cx}{B:OE}{pos:Pos}{a b c e:Expr}{ma mb mc:Mo D}{ms:Mo (List D)}{es:List Expr}
end
section
variable{X:Cx}{B:OE}
def KZ:List D->Option Bool
 |[]=>some false
 |.bl b::r=>(KZ r).map fun k=>b||k
 |_::_=>none
def uE:List D->Option D
 |[.lst ds]=>(KZ ds).map fun k=>.bl k
 |_=>none
def BZ:List D->Option D
 |[.lst ds]=>(k8 ds).map fun ns=>.int ns.sum
 |[.tup ds]=>(k8 ds).map fun ns=>.int ns.sum
 |_=>none
theorem FY:∀{us:List Value}{ns:List Int},IntsAre us ns->∀(i:Nat) (v:Value),us[i]? =some v->∃t,v=.int (ns.getD i 0) t
 |_,_,.nil,i,v,h=>by simp at h
 |_,_,.cons n t r,i,v,h=>by
  cases i with
  |zero=>simp at h;exact⟨t,by simp[←h]⟩
  |succ i=>exact FY r i v (by simpa using h)
def Ka(X:Cx):List V->Hp->VK->Prop:=fun xs H Q=>∃(p:Addr) (ns:List Int),xs=[.ref p]/\(kA X.K H p (ns.map V.int)\/kN X.K H p (ns.map V.int))/\Q (.int ns.sum) H
theorem CF(hc:X.calm=true):M3 X (.builtin "sum") (Ka X):=by
 intro pins s σ H xs us Q I r h;obtain⟨p,ns,rfl,hq,q⟩:=h;obtain⟨u,rfl,rx⟩:=R6 r;cases rx;have hh:X.A.handled=none:=I.ok.hd hc
 rcases hq with hq|hq
 ·obtain⟨its,r',pl,hz⟩:=I.list hq
  have hi:IntsAre its ns:=Im r'
  have hl:=pl.isList
  have hlt:p<s.heap.objs.size:=by obtain⟨_,e,_⟩:=hl;exact Qk e
  refine call_sum_walkG (Uu hl ?_);refine⟨s.heap.objs.size,[s.heap.objs.size,p],[s.heap.objs.size],its.toArray.size,_,_,fun i=>ns.getD i 0,rfl,Walks.list (A:=X.A.in1) hh _ p (Qh hlt) its.toArray,
   ⟨⟨_,Qw _ rfl,rfl,rfl⟩,hl.push _⟩,fun b hb=>?_,fun i v hP=>FY hi i v (by simpa using hP),fun h' tk t' hk'=>?_⟩
  ·have hs:=Qk (Qw s.heap (o:={cls:=.type "list_iterator",data:=.fields #[.ref p,.int 0 0]}) rfl)
   rcases Qg.mp hb with rfl|hb
   ·exact hs
   ·rcases Qg.mp hb with rfl|hb
    ·exact Vb hlt hs
    ·cases hb
  ·rw[Qc,hi.length,PyProof.Rows.preSum_getD,Jl (Qv _)]
   exact⟨.int ns.sum,H,I.kept (t':=tk) (LSm.kept_iter hk'),⟨t',rfl⟩,q⟩
 ·obtain⟨its,r',pl,hz⟩:=I.tuple hq
  have hi:IntsAre its ns:=Im r'
  have hl:s.heap.IsTuple p its.toArray:=pl
  have hlt:p<s.heap.objs.size:=by obtain⟨_,e,_⟩:=hl;exact Qk e
  refine call_sum_walkG (Vx hl ?_);refine⟨s.heap.objs.size,[s.heap.objs.size,p],[s.heap.objs.size],its.toArray.size,_,_,fun i=>ns.getD i 0,rfl,Walks.tuple (A:=X.A.in1) hh _ p (Qh hlt) its.toArray,
   ⟨⟨_,Qw _ rfl,rfl,rfl⟩,hl.push _⟩,fun b hb=>?_,fun i v hP=>FY hi i v (by simpa using hP),fun h' tk t' hk'=>?_⟩
  ·have hs:=Qk (Qw s.heap (o:={cls:=.type "tuple_iterator",data:=.fields #[.ref p,.int 0 0]}) rfl)
   rcases Qg.mp hb with rfl|hb
   ·exact hs
   ·rcases Qg.mp hb with rfl|hb
    ·exact Vb hlt hs
    ·cases hb
  ·rw[Qc,hi.length,PyProof.Rows.preSum_getD,Jl (Qv _)]
   exact⟨.int ns.sum,H,I.kept (t':=tk) (LSm.kept_iter hk'),⟨t',rfl⟩,q⟩
theorem SK:R9 X B (Ka X) BZ:=by
 intro G σ env H xs ds c Q rl r e k;unfold BZ at e;split at e
 ·rename_i ds
  obtain⟨x,rfl,q⟩:=Q9 r;obtain⟨ns,e1,e2⟩:=E8 e;subst e2;simp only[a9]at q;obtain⟨a,ys,rfl,h1,h2⟩:=q;have:=Cy h2 e1;subst this;exact⟨a,ns,rfl,.inl (rl.sub.sqL h1),k _ G H (.refl rl) (by simp only[a9])⟩
 ·rename_i ds
  obtain⟨x,rfl,q⟩:=Q9 r;obtain⟨ns,e1,e2⟩:=E8 e;subst e2;simp only[a9]at q;obtain⟨a,ys,rfl,h1,h2⟩:=q;have:=Cy h2 e1;subst this;exact⟨a,ns,rfl,.inr (rl.sub.sqT h1),k _ G H (.refl rl) (by simp only[a9])⟩
 ·cases e
end
theorem SL:bootBuiltins "sum"=some (.builtin "sum"):=by rfl'
theorem S2{P:Program}{w:World}{K:Qq}{mg:OI}{base:Heap}{k n:Nat}{f:Addr}{fd:FuncData}{ps:List Str}:c8 P w K mg base gA k f fd ps (gU K n fun _=>none):=
 ⟨fun _ _ _ _ h=>(by obtain⟨_,_,_,_,_,_,_,e,_⟩:=h;cases e),fun _ _ _ _ _ _ _ _ _ _ _ _ _ h=>(by obtain⟨_,_,_,_,_,_,_,e,_⟩:=h;cases e)⟩
section
variable{X:Cx}{B:OE}
end
section
variable{X:Cx}{B:OE}{pos:Pos}{a b c e:Expr}{ms:Mo (List D)}
def SM:List V->Hp->VK->Prop:=fun xs H Q=>∃i j:Int,(xs=[.int i,.int j]\/(i=0/\xs=[.int j]))/\∀r,H r=none->Q (.ref r) (upd H r (.rng i j))
theorem Kb:M3 X (.type "range") SM:=by
 intro pins s σ H xs us Q I r h;obtain⟨i,j,hx,q⟩:=h
 rcases hx with rfl|⟨rfl,rfl⟩
 ·obtain⟨u,v,rfl,r1,r2⟩:=AG r
  obtain⟨t,rfl⟩:=r1;obtain⟨t',rfl⟩:=r2;exact call_range_2 ⟨.ref s.heap.objs.size,upd H s.heap.objs.size (.rng i j),I.laid (t':=s.toks+1) (fun b u e=>Qj _ e) (Qv _) ⟨t,t',s.toks,Qw _ rfl⟩,rfl,q _ (I.hok.fresh (Qv _))⟩
 ·obtain⟨u,rfl,r1⟩:=R6 r
  obtain⟨t,rfl⟩:=r1;exact call_range_1 ⟨.ref s.heap.objs.size,upd H s.heap.objs.size (.rng 0 j),I.laid (t':=s.toks+1+1) (fun b u e=>Qj _ e) (Qv _) ⟨s.toks,t,s.toks+1,Qw _ rfl⟩,rfl,q _ (I.hok.fresh (Qv _))⟩
theorem Kc:∀(l:List Value) (f:Nat->Int),(∀(j:Nat) (v:Value),l[j]? =some v->∃t,v=Value.int (f j) t)->D6 ((List.range l.length).map fun k=>V.int (f k)) l
 |[],_,_=>.nil
 |x::l,f,h=>by
  rw[Zt,List.range_succ_eq_map,Zu,List.map_map];exact .cons (h 0 x rfl) (Kc l (fun k=>f (k+1)) fun j v hv=>h (j+1) v (by simpa using hv))
def DF(i:Int)(n:Nat):List V:=(List.range n).map fun(k:Nat)=>V.int (i+k)
def SN:List V->Hp->VK->Prop:=fun xs H Q=>∃(r:Addr) (i j:Int),xs=[.ref r]/\H r=some (.rng i j)/\(-1000000<i/\i<1000000/\ -1000000<j/\j<1000000)/\∀l,H l=none->Q (.ref l) (upd H l (.lst (DF i (j-i).toNat)))
theorem Kd(hc:X.calm=true):M3 X (.type "list") SN:=by
 intro pins s σ H xs us Q I r h;obtain⟨p,i,j,rfl,hp,⟨b1,b2,b3,b4⟩,q⟩:=h;obtain⟨u,rfl,rx⟩:=R6 r;cases rx;have hh:X.A.handled=none:=I.ok.hd hc;obtain⟨t,u,v,hr⟩:=(show J3 X.prog X.w H s.heap p (.rng i j)from I.hok p _ hp)
 have hn:Builtin.Range.rangeSize i j 1=((j-i).toNat:Nat):=by rw[rangeSize_one];split<;>omega
 refine call_list_range hh (show IsRange s.heap p i j 1 t u v from hr) (small_one (by omega) (by omega) (by omega) (by omega)) hn (by omega) fun h' tk acc' c' hk hl hacc=>?_
 have hs:acc'.toList.length=(j-i).toNat:=by rw[Jg];exact hacc.1
 have hv:=Kc acc'.toList (fun k=>i+k) (fun k v e=>by
  obtain⟨t,ht⟩:=hacc.2 k v (by simpa using e)
  exact⟨t,by rw[ht];congr 1;omega⟩)
 rw[hs]at hv;refine⟨.ref s.heap.objs.size,_,I.laid (t':=tk) (a:=s.heap.objs.size) (o:=.lst (DF i (j-i).toNat)) hk (Qv _) ⟨?_,acc'.toList,c',hv,by simpa using hl⟩,rfl,q _ (I.hok.fresh (Qv _))⟩
 show(DF i (j-i).toNat).length≤sizeLine;unfold DF;rw[Ql,List.length_range];have:(2000000:Nat)≤sizeLine:=by decide
 omega
theorem FZ{K:Qq}{G:Hp}(i:Int):∀l:List Nat,B9 K G (l.map fun(k:Nat)=>V.int (i+k)) (l.map fun(k:Nat)=>D.int (i+k))
 |[]=>by simp only[Ua,B9]
 |k::l=>by
  simp only[Zu,B9];exact⟨_,_,rfl,by simp only[a9],FZ i l⟩
theorem Ke{p1 p2 pos2:Pos}(hc:X.calm=true)(hgl:Gl X "list")(hml:X.mg "list"=none)(hg:Gl X "range")(hm:X.mg "range"=none)(ha:m5 X B [a,b] ms)
  (hs:starEach [a,b] X.env=[(false,eval a X.env),(false,eval b X.env)]:=by rfl)(hs2:starEach [b] X.env=[(false,eval b X.env)]:=by rfl):EL X B (.Call (.Name "list" p1) [.Call (.Name "range" p2) [a,b] [] pos2] [] pos) (JU ms):=by
 have h0:=BH (p:=p2) (pos:=pos2) Kb hg hm boot_range ha (by decide) (by decide) (by rw[hs,hs2]) (by rw[hs2];rfl)
 refine d9 (BH (p:=p1) (pos:=pos) (Kd hc) hgl hml FV (M7 h0 Q3)) ?_
 rintro σ H Q ⟨G,env,ds,env',rl,e,k⟩;obtain⟨⟨ds',a8⟩,e1,e2⟩:=C8 e;dsimp only at e2;split at e2
 ·rename_i i j
  split at e2
  ·rename_i hj
   cases e2;refine⟨G,env,_,_,rl,e1,fun vs G1 H1 ev r=>?_⟩
   obtain⟨v,w,rfl,r1,r2⟩:=Cj r;simp only[a9]at r1 r2;subst r1 r2;refine⟨i,j,.inl rfl,fun q hq=>⟨q,i,j,rfl,D9,hj,fun l hl=>?_⟩⟩
   exact AJ (ev.trans (ev.rel.allocM hq)) hl (FZ i _) k
  ·cases e2
 ·cases e2
theorem Kf{p1 p2 pos2:Pos}(hc:X.calm=true)(hgl:Gl X "list")(hml:X.mg "list"=none)(hg:Gl X "range")(hm:X.mg "range"=none)(ha:m5 X B [a] ms)
  (hs:starEach [a] X.env=[(false,eval a X.env)]:=by rfl):EL X B (.Call (.Name "list" p1) [.Call (.Name "range" p2) [a] [] pos2] [] pos) (Cp ms):=by
 have h0:=BH (p:=p2) (pos:=pos2) Kb hg hm boot_range ha (by decide) (by decide) hs rfl
 refine d9 (BH (p:=p1) (pos:=pos) (Kd hc) hgl hml FV (M7 h0 Q3)) ?_
 rintro σ H Q ⟨G,env,ds,env',rl,e,k⟩;obtain⟨⟨ds',a8⟩,e1,e2⟩:=C8 e;dsimp only at e2;split at e2
 ·rename_i j
  split at e2
  ·rename_i hj
   cases e2;refine⟨G,env,_,_,rl,e1,fun vs G1 H1 ev r=>?_⟩
   obtain⟨v,rfl,r1⟩:=Q9 r;simp only[a9]at r1;subst r1;refine⟨0,j,.inr ⟨rfl,rfl⟩,fun q hq=>⟨q,0,j,rfl,D9,⟨by omega,by omega,hj.1,hj.2⟩,fun l hl=>?_⟩⟩
   rw[Int.sub_zero];exact AJ (ev.trans (ev.rel.allocM hq)) hl (FZ 0 _) k
  ·cases e2
 ·cases e2
end
section
variable{X:Cx}{B:OE}{pos:Pos}{c:Expr}{t:Mo Bool}
end
section
variable{X:Cx}{B:OE}{pos:Pos}{e:Expr}{ma:Mo D}{ml:Mo (List D)}
end
section
variable{prog:Program}{w:World}{A:Around}{E:OU}{s:Shared}{c:Bool}
end
section
variable{prog:Program}{w:World}{A:Around}{E:OU}{s:Shared}
end
section
variable{X:Cx}{B:OE}{pos p:Pos}{a:Expr}{ms:Mo (List D)}{elts:List Expr}{kk:Nat}{tp:Pos}
end
theorem Fa{P:Program}{w:World}{H:Hp}{h h':Heap}(x:j6 P w H h)(k:∀b u o,H b=some u->h.get? b=some o->h'.get? b=some o):j6 P w H h':=fun a o e=>
 (x a o e).stay (fun b u hb q=>by
  rcases hb with rfl|hb
  ·exact k _ _ _ e q
  ·exact k _ _ _ hb q) (fun _ q=>q) fun _ _ q=>q
def iA(P:Program)(w:World):nQ:=fun outer H s E ev s'=>
 ∃(e t C:Addr) (H':Hp) (Bh:Heap),ev=.ref e/\s'.os=s.os/\AllBare s'.gens/\Heap.FlyingW Bh outer e (.ref C) (.ref t) s'.heap/\
  Un (iN outer) [] H H' s.heap s'.heap/\j6 P w H' Bh/\(∀b o,s.heap.get? b=some o->H b=none->b∉iN outer->Bh.get? b=some o)/\
  (∀b o,s.heap.get? b=some o->b∉iN outer->∃o',Bh.get? b=some o')/\E (.ref C) none H'
section
variable{X:Cx}{pins:OA}{σ:St}{H H':Hp}{s s':Shared}{E:XK}{e t C:Addr}{Bh:Heap}
theorem DG(hst:X.stack=X.env::X.outer)(hfr:X.env.frame=some X.env.locals)(hex:X.ex=[])(I:Inv X pins σ H s)(os:s'.os=s.os)(bare:AllBare s'.gens)(fly:Heap.FlyingW Bh X.outer e (.ref C) (.ref t) s'.heap)
  (kept:∀b o,s.heap.get? b=some o->H b=none->b∉iN X.stack->Bh.get? b=some o)
  (thr:∀b o,s.heap.get? b=some o->b∉iN X.stack->∃o',Bh.get? b=some o')
  (slots:∀b o,s.heap.get? b=some o->H b=none->b∈X.fs->∃sl,s'.heap.get? b=some {o with slots:=sl})
  (free:∀b o,s.heap.get? b=some o->H b=none->H' b=none)(tups:∀b xs,H b=some (.tup xs)->H' b=some (.tup xs))(frzs:∀b o u,H b=some (.frz o u)->H' b=some (.frz o u))
  (tbls:∀b ps,H b=some (.tbl ps)->∃more,H' b=some (.tbl (ps++more)))(hok:j6 X.prog X.w H' Bh)(hE:E (.ref C) none H'):
  iA X.prog X.w X.outer X.H₀ X.s₀ E (.ref e) s':=by
 have nb:∀b o,X.s₀.heap.get? b=some o->b∉X.fs->b∉iN X.stack:=fun b o q n z=>by
  rw[hst]at z;unfold iN at z;rw[Jq,hfr]at z
  rcases Qg.mp z with z|z
  ·exact absurd (Qk q) (Nat.not_lt.mpr (by rw[z];exact I.ok.above))
  ·exact n z
 have nx:∀b,b∉X.ex:=fun b z=>by rw[hex]at z;cases z
 refine⟨e,t,C,H',Bh,rfl,os.trans I.os,bare,fly,⟨fun b o q n hb _=>?_,fun b o q n hb _=>?_,fun b o q n _=>?_,fun b o q _=>?_,fun b xs q=>tups b xs (I.base.tups b xs q),fun b o u q=>frzs b o u (I.base.frzs b o u q),fun b ps q=>?_⟩,hok,fun b o q n hb=>?_,fun b o q hb=>?_,hE⟩
 ·exact fly.1 b o (kept b o (I.base.keep b o q n hb (nx b)) (I.base.free b o q n (nx b)) (nb b o q hb))
 ·obtain⟨sl,q1⟩:=I.base.slot b o q n hb (nx b)
  obtain⟨sl',q2⟩:=slots b _ q1 (I.base.free b o q n (nx b)) hb;exact⟨sl',q2⟩
 ·obtain⟨o',q1⟩:=I.base.there b o q (nx b)
  exact free b o' q1 (I.base.free b o q n (nx b))
 ·obtain⟨o',q1⟩:=I.base.there b o q (nx b)
  by_cases hb:b∈X.fs
  ·obtain⟨sl,q2⟩:=slots b _ q1 (I.base.free b o q (I.ok.frf b hb) (nx b)) hb
   exact⟨_,q2⟩
  ·obtain⟨o2,q2⟩:=thr b o' q1 (nb b o q hb)
   exact⟨o2,fly.1 b o2 q2⟩
 ·obtain⟨m1,e1⟩:=I.base.tbls b ps q
  obtain⟨m2,e2⟩:=tbls b _ e1;exact⟨m1++m2,by rw[e2,Array.append_assoc]⟩
 ·exact kept b o (I.base.keep b o q n hb (nx b)) (I.base.free b o q n (nx b)) (nb b o q hb)
 ·obtain⟨o',q1⟩:=I.base.there b o q (nx b)
  exact thr b o' q1 (nb b o q hb)
structure pF(X:Cx)(E:XK):Prop where
 pass:Q4 (iA X.prog X.w) X E
 made:∀(pins:OA) (σ:St) (H:Hp) (s:Shared) (h':Heap) (e C:Addr) (vs:List Value),Inv X pins σ H s->Heap.MadeExcOf s.heap h' e (.ref C) vs->E (.ref C) none H->X.xe (.ref e) {s with heap:=h'}
end
theorem R4{P:Program}{w:World}{K:Qq}{mg:OI}{base:Heap}{N:List Str}{qual:Str}{scope:Scope}{f:Addr}{cd:Value}{A:Around}{outer:List Env}{s₀:Shared}{H₀:Hp}{E:XK}:
  pF (K8 (iA P w) P w K mg base N qual scope f cd A outer s₀ H₀ E) E:=by
 refine⟨fun pins σ H s ev s' I h=>?_,fun pins σ H s h' e C vs I hm hE=>?_⟩
 ·obtain⟨e,t,C,H',Bh,rfl,os,bare,fly,un,hok,kept,thr,hE⟩:=h
  refine wpAny_leaves_onW (L:=s₀.heap.objs.size) I.ok.frames rfl fly fun h2 fly2 ups=>?_
  refine DG (X:=K8 (iA P w) P w K mg base N qual scope f cd A outer s₀ H₀ E) rfl rfl rfl I os bare fly2 kept thr (fun b o q n hb=>?_) (fun b o q n=>un.free b o q n (by simp)) un.tups un.frzs un.tbls hok hE
  obtain⟨sl,q1⟩:=un.any q n (by simp)
  obtain⟨_,o1,g1,g2⟩:=I.funs.mem hb;rw[q]at g1;cases g1;obtain⟨sl2,q2⟩:=ups b _ q1 g2;exact⟨sl2,q2⟩
 ·have hst:=I.stack
  have hmem:∀{b:Addr},b∈iN (K8 (iA P w) P w K mg base N qual scope f cd A outer s₀ H₀ E).stack->H b=none:=fun{b} hb=>I.stkFree b hb
  refine wpAny_leaves_madeW (L:=s₀.heap.objs.size) (base:=PySem.W.hideAll s.heap (iN (K8 (iA P w) P w K mg base N qual scope f cd A outer s₀ H₀ E).stack)) (h:=s.heap) I.ok.frames rfl (fun b o q=>PySem.W.of_hideAll _ q)
   (PySem.W.funFrames_hide hst fun env he b hb=>List.mem_filterMap.mpr ⟨env,he,hb⟩) hm fun h2 t fly _ hn ups=>?_
  refine DG (X:=K8 (iA P w) P w K mg base N qual scope f cd A outer s₀ H₀ E) (s:=s) (s':={s with heap:=h2}) rfl rfl rfl I rfl I.bare fly (fun b o q _ hb=>PySem.W.hideAll_get _ q hb) (fun b o q hb=>⟨o,PySem.W.hideAll_get _ q hb⟩) (fun b o q n hb=>?_) (fun b o q n=>n) (fun _ _ q=>q) (fun _ _ _ q=>q) (fun b ps q=>⟨#[],by rw[q];simp⟩) ?_ hE
  ·obtain⟨_,o1,g1,g2⟩:=I.funs.mem hb
   rw[q]at g1;cases g1;obtain⟨sl2,q2⟩:=ups b _ (hm.keeps b o q) g2;exact⟨sl2,q2⟩
  ·exact Fa (P:=P) (w:=w) I.hok fun b u o q1 q2=>PySem.W.hideAll_get _ q2 fun z=>by rw[hmem z]at q1;cases q1
theorem PS.nox{X:Cx}{st:Stmt}{t:TS}(h:PS X.nox st t):PS X st t:=fun pins s σ H D I hw=>
 Qb (h pins s σ H D (I.wish _) hw) (fun _ _ q=>q.unwish) fun _ _ z=>False.elim z
theorem PA.nox{X:Cx}{es:List Expr}{t:TA}(h:PA X.nox es t):PA X es t:=fun pos pins s σ H Q I hw=>
 Qb (h pos pins s σ H Q (I.wish _) hw) (fun _ _ ⟨v,H',I',r,q⟩=>⟨v,H',I'.unwish,r,q⟩) fun _ _ z=>False.elim z
def qF:List Value:=[.type "ValueError",.type "Exception",.type "BaseException",.type "object"]
def Z2(K:Qq)(n:Str):Bool:=match PySem.W.nsIn K mainGlobals n with
 |some (some (.ref C))=>PySem.W.excIn K C qF "ValueError.__new__"
 |_=>false
theorem Kg{K:Qq}{n:Str}(h:Z2 K n=true):∃C,PySem.W.nsIn K mainGlobals n=some (some (.ref C))/\PySem.W.excIn K C qF "ValueError.__new__"=true:=by
 unfold Z2 at h;split at h
 ·rename_i C hC;exact⟨C,hC,h⟩
 ·cases h
theorem SO{K:Qq}{h₀:Heap}{mg:OI}{x:Str}{C:Addr}{bmB:List Value}{newId:String}(X:K.In h₀)(G:h₀.Ns mainGlobals mg)(e:PySem.W.nsIn K mainGlobals x=some (some (.ref C)))(q:PySem.W.excIn K C bmB newId=true):OwnCls x C bmB newId mg h₀:=by
 refine⟨Qn X G e,?_⟩;unfold PySem.W.excIn at q;split at q
 ·rename_i dd cd sl ho
  split at q
  ·rename_i C' bm k0 k1 k2 k3 n k5 hm hs
   simp only[Qr,beq_iff_eq,Ub]at q;obtain⟨⟨⟨⟨⟨rfl,rfl⟩,hdel⟩,ht⟩,hok⟩,hni⟩:=q;obtain⟨nm,bs,mro,ns,qn,hd,sn,sub,ab,col,del⟩:=cd;dsimp only at hm hdel hok hni;subst hm hdel;have i9:sl= #[k0,k1,k2,k3,some (.builtin n),k5]:=by
    obtain⟨l⟩:=sl;simp only at hs;rw[hs]
   subst i9;exact⟨bm,ns,nm,qn,bs,hd,sn,sub,ab,col,dd,k0,k1,k2,k3,k5,_,X _ _ ho,.of_isNs (PySem.W.isNs_of_in X hok),PySem.W.nsMap_none_of_in X hok hni,PySem.W.tail_of_in X ht⟩
  ·cases q
 ·cases q
abbrev Mx:=c7->Option Str
section
variable(K:Qq)(B:OE)(E:XK)
def XW(G:Hp)(σ:St)(env:c7)(H:Hp)(n:Str):Prop:=∃C,PySem.W.nsIn K mainGlobals n=some (some (.ref C))/\∀σ' G' env' H',Ev K B G σ env H G' σ' env' H'->E (.ref C) none H'
def TX(m:Mx)(σ:St)(H:Hp):Prop:=∃G env n,Rel K B G σ env H/\m env=some n/\XW K B E G σ env H n
end
theorem XW.after{K:Qq}{B:OE}{E:XK}{G G1:Hp}{σ σ1:St}{env a8:c7}{H H1:Hp}{n:Str}(w:XW K B E G σ env H n)(ev:Ev K B G σ env H G1 σ1 a8 H1):XW K B E G1 σ1 a8 H1 n:=by
 obtain⟨C,h,k⟩:=w;exact⟨C,h,fun σ' G' env' H' d5=>k σ' G' env' H' (ev.trans d5)⟩
def mM(X:Cx)(B:OE)(E:XK)(e:Expr)(m:Mx):Prop:=PE X e fun σ H _=>TX X.K B E m σ H
def uF(X:Cx)(B:OE)(E:XK)(e:Expr)(m:Mx):Prop:=PT X e fun σ H _=>TX X.K B E m σ H
def qG(X:Cx)(B:OE)(E:XK)(es:List Expr)(m:Mx):Prop:=PA X es fun σ H _=>TX X.K B E m σ H
def nZ(X:Cx)(B:OE)(E:XK)(st:Stmt)(m:Mx):Prop:=PS X st fun _ σ H=>TX X.K B E m σ H
def Z3(X:Cx)(B:OE)(E:XK)(st:List Stmt)(m:Mx):Prop:=j7 X st fun _ σ H=>TX X.K B E m σ H
def j8:Mx:=fun _=>none
def xOr(x y:Mx):Mx:=fun env=>match x env with
 |some n=>some n
 |none=>y env
def J9(x:Mx)(s:Mo Fl)(y:Mx):Mx:=fun env=>match x env with
 |some n=>some n
 |none=>match s env with
  |some (.nx,a8)=>y a8
  |_=>none
def oJ(t:Mo Bool)(x y:Mx):Mx:=fun env=>(t env).bind fun p=>if p.1 then x p.2 else y p.2
def Fb(x:Mx)(m:Mo D)(y:Mx):Mx:=fun env=>match x env with
 |some n=>some n
 |none=>(m env).bind fun p=>y p.2
section
variable{X:Cx}{B:OE}{E:XK}{pos p:Pos}{e:Expr}{es:List Expr}{st:Stmt}{rest:List Stmt}{x1 x2:Mx}{s1:Mo Fl}{ma:Mo D}
theorem N2:nZ X B E st j8:=fun _ _ _ _ _ _ ⟨_,_,_,_,e,_⟩=>nomatch e
theorem W3:Z3 X B E [] j8:=fun _ _ _ _ _ _ ⟨_,_,_,_,e,_⟩=>nomatch e
theorem SQ:qG X B E es j8:=fun _ _ _ _ _ _ _ ⟨_,_,_,_,e,_⟩=>nomatch e
theorem K0(h1:nZ X B E st x1)(n1:ES X B st s1)(h2:Z3 X B E rest x2):Z3 X B E (st::rest) (J9 x1 s1 x2):=by
 intro pins s σ H D I ⟨G,env,n,rl,e,w⟩;unfold J9 at e;cases q:x1 env with
 |some m=>
  rw[q]at e;cases e;exact U1 h1 II pins s σ H D I ⟨G,env,_,rl,q,w⟩
 |none=>
  rw[q]at e;dsimp only at e;split at e
  ·rename_i a8 q1
   exact U1 n1 h2 pins s σ H D I ⟨G,env,.nx,a8,rl,q1,fun σ1 G1 H1 ev=>⟨G1,a8,n,ev.rel,e,w.after ev⟩⟩
  ·cases e
theorem J6(h1:nZ X B E st x1):Z3 X B E [st] x1:=by
 intro pins s σ H D I h;exact U1 h1 II pins s σ H D I h
theorem W4{c:Expr}{s t:List Stmt}{tc:Mo Bool}(hc:ET X B c tc)(h1:Z3 X B E s x1)(h2:Z3 X B E t x2):nZ X B E (.If c s t pos) (oJ tc x1 x2):=by
 intro pins sh σ H D I ⟨G,env,n,rl,e,w⟩;obtain⟨⟨b1,a8⟩,e1,e2⟩:=C8 e;dsimp only at e2;refine IG hc h1 h2 pins sh σ H D I ⟨G,env,b1,a8,rl,e1,fun G1 H1 ev=>?_⟩
 cases b1 with
 |true=>simp only[Zd]at e2 ⊢;exact⟨G1,a8,n,ev.rel,e2,w.after ev⟩
 |false=>simp only[Zz,Yz]at e2 ⊢;exact⟨G1,a8,n,ev.rel,e2,w.after ev⟩
theorem SR(h1:mM X B E e x1)(n1:ED X B e ma)(h2:qG X B E es x2)(hs:starEach (e::es) X.env=(false,eval e X.env)::starEach es X.env:=by rfl):qG X B E (e::es) (Fb x1 ma x2):=by
 intro pos pins s σ H Q I ⟨G,env,n,rl,e,w⟩;unfold Fb at e;cases q:x1 env with
 |some m=>
  rw[q]at e;cases e;exact M7 h1 (t:=fun _ _ _=>False) (fun _ _ _ _ _ _ _ z=>z.elim) hs pos pins s σ H Q I ⟨G,env,_,rl,q,w⟩
 |none=>
  rw[q]at e;obtain⟨⟨d,a8⟩,e1,e2⟩:=C8 e;exact M7 n1 h2 hs pos pins s σ H Q I ⟨G,env,d,a8,rl,e1,fun v G1 H1 ev r=>⟨G1,a8,n,ev.rel,e2,w.after ev⟩⟩
theorem Ba(h:mM X B E e x1)(hsw:swapsWith e none pos.line X.env=pure false:=by rfl):nZ X B E (.Expr e pos) x1:=fun pins s σ H D I q=>CU h hsw pins s σ H D I q
theorem W5(h:mM X B E e x1):nZ X B E (.Return (some e) pos) x1:=fun pins s σ H D I q=>CV h pins s σ H D I q
theorem Kh{i:Nat}{x:Str}{pos':Pos}(hN:X.N.Nodup)(hi:X.N[i]? =some x)(hx:Loc X.env.scope x)(h:mM X B E e x1)(hs:swapsWith e (some (.Name x pos')) pos.line X.env=pure false:=by rfl)
  (hf:X.fn x=true\/X.env.scope.names.lookup x=some .local:=by first|exact .inl rfl|exact .inr rfl|assumption):nZ X B E (.Assign [.Name x pos'] e pos) x1:=fun pins s σ H D I q=>BG hN hi hx h hs hf pins s σ H D I q
def Z4(n:Str)(ms:Mo (List D)):Mx:=fun env=>(ms env).bind fun p=>if p.1.length≤1000 then some n else none
theorem Z5{n:Str}{ms:Mo (List D)}{np cpos:Pos}(hx:pF X E)(hc:X.calm=true)(ho:Z2 X.K n=true)(hg:Gl X n)(ha:m5 X B (e::es) ms)
  (he:starEach (e::es) X.env=(false,eval e X.env)::starEach es X.env:=by rfl)(hpl:(backTo cpos (starEach es X.env)).any (·.1)=false:=by rfl)(hd:(n==("__debug__":Str))=false:=by decide):
  nZ X B E (.Raise (some (.Call (.Name n np) (e::es) [] cpos)) none pos) (Z4 n ms):=by
 intro pins s σ H D I ⟨G,env,c,rl,em,w⟩;obtain⟨⟨ds,a8⟩,e1,e2⟩:=C8 em;dsimp only at e2;split at e2
 ·rename_i hl
  cases e2;obtain⟨C,hC,hw⟩:=w;obtain⟨C',hC',hex⟩:=Kg ho;rw[hC]at hC';cases hC';have O:=SO I.mod.kin I.mod.glob hC hex;obtain⟨tl,N,nm,q,bs,hdct,sn,sub,ab,col,dd,k0,k1,k2,k3,k5,mN,hCo,hN,hni,T⟩:=O.obj;refine wpAny_Raise_call_subU (C:=C) (nm:=nm) (q:=q) (N:=N) (bs:=bs) (bm:=tl) (hdct:=hdct) (sn:=sn) (sub:=sub) (ab:=ab) (col:=col) (dd:=dd) (k0:=k0) (k1:=k1) (k2:=k2) (k3:=k3) (k5:=k5)
   PySem.F.excBase_ValueError (by rfl') PySem.F.excBase_ValueError (mN:=mN) (T.hasType PySem.F.excBase_ValueError.hasBase) (I.ok.hd hc) (by rw[he];show(false||(backTo cpos (starEach es X.env)).any (·.1))=false;rw[hpl];rfl) hni (BF I hg O.bound ⟨rfl,?_⟩ hd)
  have h1:=ha cpos pins s σ H (fun vs H1=>vs.length≤sizeLine/\E (.ref C) none H1) I ⟨G,env,ds,a8,rl,e1,fun vs G1 H1 ev r=>⟨by rw[r.length];exact Ju (Cb hl),hw σ G1 a8 H1 ev⟩⟩
  rw[he]at h1 ⊢;refine Jt (Qb h1 (fun us s2 ⟨vs,H2,I2,r2,q1,q2⟩=>⟨rfl,by rw[←r2.length];exact q1,I2.bk _ _ hCo,hN.keeps I2.bk,T.keeps I2.bk,fun h' e hm=>?_⟩) fun _ _ y=>y)
  exact hx.made pins σ H2 s2 h' e C us I2 hm q2
 ·cases e2
def j2(K:Qq)(n:Nat)(g:List W->Option Str):Sp:=fun vs H _ E=>∃G ws c C,ws.length=n/\CA ws/\Rel K M6 G (vs.map some) ws H/\g ws=some c/\PySem.W.nsIn K mainGlobals c=some (some (.ref C))/\
 ∀G' ws' H',Ev K M6 G (vs.map some) ws H G' (vs.map some) ws' H'->E (.ref C) none H'
structure gQ(P:Program)(w:World)(K:Qq)(mg:OI)(base:Heap)(x:Str)(k n:Nat)(g:List W->Option Str):Prop where
 ex:∃(f:Addr) (fd:FuncData) (ps:List Str),c8 P w K mg base (iA P w) k f fd ps (j2 K n g)/\ps.length=n/\mg x=some (.ref f)/\PySem.W.keepIn K (.ref f)=true/\L8 K fd ps []
def N5(n:Nat)(g:List W->Option Str)(as:Mo (List Ar)):Mx:=fun env=>(as env).bind fun p=>if p.1.length=n then(match slots p.1 with
 |[]=>g (p.1.map (N4 (.l [])))
 |_=>none)else none
theorem O1{x:Str}{k n:Nat}{g:List W->Option Str}{as:Mo (List Ar)}(hx:pF X E)(Df:gQ X.prog X.w X.K X.mg X.base x k n g)(hr:fA k X.A)(hg:Gl X x)(ha:n9 X B (e::es) as)(hdb:(x==("__debug__":Str))=false:=by decide)
  (he:starEach (e::es) X.env=(false,eval e X.env)::starEach es X.env:=by rfl)(hpl:(backTo pos (starEach es X.env)).any (·.1)=false:=by rfl):
  mM X B E (.Call (.Name x p) (e::es) [] pos) (N5 n g as):=by
 obtain⟨f,fd,ps,F,rfl,hm,hk,hb⟩:=Df.ex;intro pins s σ H Q I ⟨G,env,c,rl,em,C,hC,w⟩;refine Eg F hr hg hm hk hb .nil hx.pass ha hdb he hpl pins s σ H Q I ?_
 obtain⟨⟨av,a8⟩,e1,e2⟩:=C8 em;dsimp only at e2;split at e2
 ·rename_i hn
  split at e2
  ·rename_i hs
   refine⟨G,env,av,a8,rl,e1,fun vs G1 H1 ev ra=>?_⟩
   show j2 X.K ps.length g (vs++[]) H1 Q E;rw[Yr];exact⟨G1,av.map (N4 (.l [])),c,C,by rw[Ql];exact hn,AO,AQ (i:=0) (w:=.nil) ev.rel ra (fun k j e=>absurd e (O5 hs k j)) (fun k k' j j' e=>absurd e (O5 hs k j)),e2,hC,
    fun G2 ws' H2 d5=>w σ G2 a8 H2 (ev.trans (AR ev.rel ra hs d5))⟩
  ·cases e2
 ·cases e2
end
def lF(N:Nat)(mx:Mx):List W->Option Str:=fun ws=>mx (ws++List.replicate (N-ws.length) .nil)
theorem N3{P:Program}{w:World}{K:Qq}{mg:OI}{base:Heap}{x qual:Str}{st:Stmt}{f:Addr}{fd:FuncData}{N ps:List Str}{k:Nat}{mx:Mx}(F:fT K x qual st f fd)(S:b0 N ps (D5 st))
  (hb:∀(cdv:Value) (A:Around) (outer:List Env) (s:Shared) (H:Hp) (E:XK),fA k (A.deeper (envOfC qual (D5 st) s.heap.objs.size f cdv))->
   Z3 (K8 (iA P w) P w K mg base N qual (D5 st) f cdv A outer s H E) (fun b=>H b≠none) E (P0 st) mx):c8 P w K mg base (iA P w) (k+1) f fd ps (j2 K ps.length (lF N.length mx)):=by
 have hpl:ps.length≤N.length:=by have:=Yy List.length S.pre;rw[Yh]at this;omega
 obtain⟨oc,od,kV,doc,pm,an,cdv,ct,osl,rfl,lk,hcd⟩:=F.ex;refine Ei lk hcd S (fun vs H Q E h=>?_) fun A outer s H vs Q E hr h=>?_
 ·obtain⟨G,ws,c,C,hl,ok,rl,_⟩:=h
  have:=rl.len;rw[Ql]at this;omega
 ·obtain⟨G,ws,c,C,hl,ok,rl,e,hC,k⟩:=h
  have hv:ws.length=vs.length:=by have:=rl.len;rwa [Ql]at this
  exact⟨_,hb cdv A outer s H E hr,G,_,c,Cs (N:=N) rl ok (by omega),e,C,hC,fun σ' G' env' H' ev=>k G' (T2 ws env') H' (AN rl ok (by omega) ev)⟩
open PySem.W Builtin Builtin.ObjectAttr Builtin.Getset_descriptor PySem.Calls
def P9(e C:Addr)(h:Heap):Prop:=∃o,h.get? e=some o/\o.cls=.ref C
theorem P9.type{e C:Addr}{h:Heap}{M:Model}(p:P9 e C h):Looks M h (typeOf (.ref e)) (.ref C):=by
 obtain⟨o,h1,h2⟩:=p;exact h2 ▸ (Looks.ld h1).andThen .now
section
variable{prog:Program}{w:World}{A:Around}{E:OU}{K:Frag}{x C:Addr}{h:Heap}{g:Array GenState}{d:Drawn}{t:Nat}{os:OsState}
theorem SS{R:Result->Shared->Prop}{tp:Value}(X:K.In h)(I:P9 x C h)(hm:mroIn K C (.type "object")=some true)
  (hq:R (.ok (.ret (.ref C))) ⟨h,g,d,t,os⟩):codeAny (model prog w) A (.call (.builtin "getset_descriptor.__get__") ⟨[.builtin "object.__class__",.ref x,tp],[]⟩) R ⟨h,g,d,t,os⟩:=by
 have L0:=I.type (M:=model prog w)
 have L1:=looks_mroIn (M:=model prog w) X hm
 refine codeAny_call_builtin KF.slot_gs.plain KF.entry_gs (KF.slot_gs.check _ _ _ _ _ _ _ _ KF.type_class (KF.args_gs _ _ _) ?_);unfold Builtin.«getset_descriptor.__get__» descrGet;rw[dga_obj];refine Qz (Qx ?_);unfold descrGetter descrCheckInstance descrNameAndClass isInstance;simp only[KF.owner_class]
 repeat (first|with_reducible refine L0.at ?_|with_reducible refine L1.at ?_|wp_step)
 refine⟨Code.quiet_builtin _ (by rfl'),Vq KF.entry_class ?_⟩
 unfold Builtin.«object.__class__» shownTypeOf
 repeat (first|with_reducible refine L0.at ?_|with_reducible refine L1.at ?_|wp_step)
 exact hq
theorem SU(X:K.In h)(I:P9 x C h)(ha:findIn K (.ref C) "__class__"=some (some (.builtin "object.__class__")))
  (hn:specialIn K (.builtin "object.__class__") "__get__"=some (some (.builtin "getset_descriptor.__get__")))(htk:takesIn K (.builtin "object.__class__")=some true)(M:Model):
  Looks M h (find (.ref x) (.ref C) "__class__") (.bind (.builtin "getset_descriptor.__get__") (.builtin "object.__class__")):=by
 have L1:=looks_findIn (M:=M) X ha
 have L2:Looks M h (getOf (some (.builtin "object.__class__"))) (some (.builtin "getset_descriptor.__get__")):=looks_specialIn X hn
 have L3:=looks_takesIn (M:=M) X htk
 exact L1.andThen (L2.andThen ((show Looks M h (dataDescriptor? (some (.builtin "object.__class__")) (some (.builtin "getset_descriptor.__get__"))) (some (.builtin "getset_descriptor.__get__",.builtin "object.__class__"))from L3.andThen .now).andThen (Looks.tag .now)))
theorem SV{tk:Tok}{Q:Fin->Shared->Prop}(X:K.In h)(I:P9 x C h)(hm:mroIn K C (.type "object")=some true)(ha:findIn K (.ref C) "__class__"=some (some (.builtin "object.__class__")))
  (hn:specialIn K (.builtin "object.__class__") "__get__"=some (some (.builtin "getset_descriptor.__get__")))(htk:takesIn K (.builtin "object.__class__")=some true)(hq:Q (.done (.ret (.ref C))) ⟨h,g,d,t,os⟩):
  wpAny (model prog w) A (Builtin.«object.__getattribute__» ⟨[.ref x,.str "__class__" tk],[]⟩) Q E ⟨h,g,d,t,os⟩:=by
 have L0:=I.type (M:=model prog w)
 have L1:=SU X I ha hn htk (model prog w)
 unfold Builtin.«object.__getattribute__»
 repeat (any_goals (first|assumption|with_reducible refine L0.at ?_|with_reducible refine L1.at ?_|wp_step))
 refine SS X I hm ?_
 repeat (any_goals (first|assumption|wp_step))
theorem SW{M:Model}{nameV:Value}{Q:Unit->Shared->Prop}(X:K.In h)(I:P9 x C h)(hm:mroIn K C (.type "BaseException")=some true)(hq:Q () ⟨h,g,d,t,os⟩):
  wpAny M A (checkBuiltinCall "BaseException.__getattribute__" ⟨[.ref x,nameV],[]⟩) Q E ⟨h,g,d,t,os⟩:=by
 have hk:builtinKind "BaseException.__getattribute__"=some .slot:=by rfl'
 have hsplit:splitId "BaseException.__getattribute__"=some ("BaseException","__getattribute__"):=by rfl'
 have L0:=I.type (M:=M)
 have L1:=looks_mroIn (M:=M) X hm
 have ha:=F.args_bexc_ga (.ref x) nameV
 simp only[checkBuiltinCall,hk,hsplit];refine Qz ?_
 unfold isInstance
 repeat (first|with_reducible refine L0.at ?_|with_reducible refine L1.at ?_|wp_step)
 exact hq
theorem SX{tk:Tok}{fill expr:Bool}{Q:OU}(X:K.In h)(I:P9 x C h)(hmB:mroIn K C (.type "BaseException")=some true)(hm:mroIn K C (.type "object")=some true)(ha:findIn K (.ref C) "__class__"=some (some (.builtin "object.__class__")))
  (hn:specialIn K (.builtin "object.__class__") "__get__"=some (some (.builtin "getset_descriptor.__get__")))(htk:takesIn K (.builtin "object.__class__")=some true)
  (hga:findIn K (.ref C) "__getattribute__"=some (some (.builtin "BaseException.__getattribute__")))(hno:findIn K (.ref C) "__getattr__"=some none)(hq:Q (.ref C) ⟨h,g,d,t,os⟩):
  wpAny (model prog w) A (getAttrBy (.ref x) (.str "__class__" tk) fill expr) Q E ⟨h,g,d,t,os⟩:=by
 have L0:=I.type (M:=model prog w)
 have L1:=looks_findIn (M:=model prog w) X hga
 have L2:=looks_findIn (M:=model prog w) X hno
 have f3:=F.attrBase_ValueError.ga.bind (.ref x)
 have hx0:(expr&&onTheHeap (Value.builtin "BaseException.__getattribute__"))=false:=by cases expr<;>rfl
 have hx2:(Value.builtin "BaseException.__getattribute__"==Value.builtin "object.__getattribute__")=false:=by rfl'
 have hx1:(onTheHeap (Value.ref C)&&Value.builtin "BaseException.__getattribute__"==Value.builtin "object.__getattribute__")=false:=by rw[hx2];rfl
 repeat (any_goals (first|assumption|with_reducible refine L0.at ?_|with_reducible refine L1.at ?_|with_reducible refine L2.at ?_|wp_step))
 refine codeAny_call_builtin F.attrBase_ValueError.ga.plain F.entry_bexc_ga (SW X I hmB (SV X I hm ha hn htk ?_))
 repeat (any_goals (first|assumption|wp_step))
theorem SY{Q:Option Value->Shared->Prop}(X:K.In h)(I:P9 x C h)(hmB:mroIn K C (.type "BaseException")=some true)(hm:mroIn K C (.type "object")=some true)(ha:findIn K (.ref C) "__class__"=some (some (.builtin "object.__class__")))
  (hn:specialIn K (.builtin "object.__class__") "__get__"=some (some (.builtin "getset_descriptor.__get__")))(htk:takesIn K (.builtin "object.__class__")=some true)
  (hga:findIn K (.ref C) "__getattribute__"=some (some (.builtin "BaseException.__getattribute__")))(hno:findIn K (.ref C) "__getattr__"=some none)(hq:Q (some (.ref C)) ⟨h,g,d,t+1,os⟩):
  wpAny (model prog w) A (getAttr? (.ref x) "__class__") Q E ⟨h,g,d,t,os⟩:=by
 unfold getAttr? getAttrBy?
 repeat (any_goals (first|assumption|with_reducible apply SX X I hmB hm ha hn htk hga hno|wp_step))
end
def SZ:List String:=["tuple","list","int","bool","str"]
def S3(K:Frag)(C:Addr):Bool:=
 (mroIn K C (.type "BaseException")==some true)&&((mroIn K C (.type "object")==some true)&&((findIn K (.ref C) "__class__"==some (some (.builtin "object.__class__")))&&((specialIn K (.builtin "object.__class__") "__get__"==some (some (.builtin "getset_descriptor.__get__")))&&
 ((takesIn K (.builtin "object.__class__")==some true)&&((findIn K (.ref C) "__getattribute__"==some (some (.builtin "BaseException.__getattribute__")))&&((findIn K (.ref C) "__getattr__"==some none)&&((clsIn K C).isSome&&((kitOne K (.ref C) (.type "ValueError")==some true)&&SZ.all fun T=>kitOne K (.ref C) (.type T)==some false))))))))
theorem Sa{K:Frag}{e C:Addr}(h:S3 K C=true):KitX K (.ref e) (.ref C) (P9 e C):=by
 unfold S3 at h;simp only[Qr,beq_iff_eq]at h;obtain⟨h1,h2,h3,h4,h5,h6,h7,h8,_,_⟩:=h;obtain⟨cdD,hcD⟩:=Zl.mp h8;refine⟨fun _ _ _ p=>p.type,fun _ _ X _=>?_,fun h tp dd its n sl X htp=>?_,fun{prog w A E Q s} X I k=>?_⟩
 ·unfold clsIn at hcD
  split at hcD
  ·rename_i c' d' cd' sl' ho
   intro A' Q' E' s' k q;unfold isType loadHead;exact Qz (wpAny_loadPart (k _ _ (X _ _ ho)) (Qx q))
  ·cases hcD
 ·refine Bool.eq_false_iff.mpr fun q=>?_
  have e:C=tp:=Value.ref.inj (beq_iff_eq.mp q)
  subst e;unfold clsIn at hcD;split at hcD
  ·rename_i c' d' cd' sl' ho
   have z:=(X _ _ ho).symm.trans htp
   cases z
  ·cases hcD
 ·obtain⟨hh,g,d,t,os⟩:=s
  exact SY X I h1 h2 h3 h4 h5 h6 h7 k
theorem Sb{K:Frag}{C:Addr}(h:S3 K C=true):Cd K (.ref C):=by
 unfold S3 at h;simp only[Qr]at h;obtain⟨_,_,_,_,_,_,_,_,_,h9⟩:=h;intro T hT;have:=Yv.mp h9 T hT
 simpa using this
theorem Se{K:Frag}{C:Addr}(h:S3 K C=true):kitOne K (.ref C) (.type "ValueError")=some true:=by
 unfold S3 at h;simp only[Qr]at h;obtain⟨_,_,_,_,_,_,_,_,h9,_⟩:=h
 simpa using h9
def V0(K:Frag)(S:Str)(names:List Str):Bool:=names.all fun n=>Z2 K n&&match nsIn K mainGlobals n with
 |some (some (.ref C))=>S3 K C&&((match nsIn K mainGlobals S with
   |some (some (.ref D))=>mroIn K C (.ref D)==some true&&(Z2 K S&&S3 K D)
   |_=>false)&&names.all fun m=>match nsIn K mainGlobals m with
   |some (some (.ref D))=>kitOne K (.ref C) (.ref D)==some (n==m)
   |_=>false)
 |_=>false
structure sA(K:Frag)(S:Str)(names:List Str)(n:Str)(C:Addr):Prop where
 nm:nsIn K mainGlobals n=some (some (.ref C))
 one:Z2 K n=true
 kit:S3 K C=true
 sub:∃D,nsIn K mainGlobals S=some (some (.ref D))/\mroIn K C (.ref D)=some true/\Z2 K S=true/\S3 K D=true
 pair:∀m∈names,∃D,nsIn K mainGlobals m=some (some (.ref D))/\kitOne K (.ref C) (.ref D)=some (n==m)
theorem Bb{K:Frag}{S:Str}{names:List Str}(h:V0 K S names=true){n:Str}(hn:n∈names):∃C,sA K S names n C:=by
 have q:=Yv.mp h n hn
 simp only[Qr]at q;obtain⟨h1,h2⟩:=q;split at h2
 ·rename_i C hC
  simp only[Qr]at h2;obtain⟨h3,h4,h5⟩:=h2;split at h4
  ·rename_i D hD
   simp only[Qr,beq_iff_eq]at h4;refine⟨C,hC,h1,h3,⟨D,hD,h4.1,h4.2.1,h4.2.2⟩,fun m hm=>?_⟩
   have:=Yv.mp h5 m hm;split at this
   ·rename_i D' hD'
    exact⟨D',hD',by simpa using this⟩
   ·cases this
  ·cases h4
 ·cases h2
def Q7(names:List Str)(m:Str)(ma:Mo D):Mo D:=fun env=>(ma env).bind fun p=>match p.1 with
 |.obj (.exc n)=>if names.contains n then some (.bl (n==m),p.2)else none
 |_=>none
def Ki(names:List Str)(ma:Mo D):Mo D:=fun env=>(ma env).bind fun p=>match p.1 with
 |.obj (.exc n)=>if names.contains n then some (.bl true,p.2)else none
 |_=>none
section
variable{X:Cx}{B:OE}{pos p p2:Pos}{a:Expr}{ma:Mo D}{S m:Str}{names:List Str}
theorem Q8(hx:V0 X.K S names=true)(hm:m∈names)(ha:ED X B a ma)(hg:Gl X "isinstance")(hi:X.mg "isinstance"=none)(hgm:Gl X m)(hdm:(m==("__debug__":Str))=false:=by decide)
  (he:starEach [a,.Name m p2] X.env=[(false,eval a X.env),(false,eval (.Name m p2) X.env)]:=by rfl):ED X B (.Call (.Name "isinstance" p) [a,.Name m p2] [] pos) (Q7 names m ma):=by
 obtain⟨C0,F0⟩:=Bb hx hm;intro pins0 s0 σ0 H0 Q0 I0;have hT:PE X (.Name m p2) (tC (.ref C0)):=V4 hgm (Qn I0.mod.kin I0.mod.glob F0.nm) rfl hdm;have hc:M3 X (.builtin "isinstance") (fun xs H Q=>∃x G n,xs=[x,.ref C0]/\Le G H/\a9 X.K G x (.obj (.exc n))/\n∈names/\Q (.bl (n==m)) H):=by
  intro pins s σ H xs us Q I r h;obtain⟨x,G,n,rfl,l,rp,hn,q⟩:=h;obtain⟨u,w',rfl,r1,r2⟩:=AG r;cases r2;simp only[a9]at rp;obtain⟨e,C,HP,rfl,h2,h3,h4,h5⟩:=rp;cases r1;obtain⟨C',F⟩:=Bb hx hn;have:=F.nm;rw[h2]at this;cases this;obtain⟨D,hD,hk⟩:=F.pair m hm;have:=F0.nm;rw[hD]at this;cases this;exact kia_one h4 I.kIn (I.hok e _ (l _ _ h3)).1 hk (fun z=>nomatch z) fun tk=>⟨.bl _,H,I.tok _,rfl,q⟩
 refine d9 (Bx (pos:=pos) (p:=p) hc hg hi (by rfl') (M7 ha (M7 hT Q3) he) (he:=he)) ?_ pins0 s0 σ0 H0 Q0 I0
 rintro σ H Q ⟨G,env,d,env',rl,e,k⟩;obtain⟨⟨d1,a8⟩,e1,e2⟩:=C8 e;dsimp only at e2;split at e2
 ·rename_i n
  split at e2
  ·rename_i hn
   cases e2;exact .bind rl e1 fun v G1 H1 ev r=>⟨v,G1,n,rfl,ev.rel.sub,r,by simpa using hn,k _ G1 H1 ev (by simp only[a9])⟩
  ·cases e2
 ·cases e2
theorem Kj(hx:V0 X.K S names=true)(ha:ED X B a ma)(hg:Gl X "isinstance")(hi:X.mg "isinstance"=none)(hgm:Gl X "ValueError")(hmv:X.mg "ValueError"=none)
  (he:starEach [a,.Name "ValueError" p2] X.env=[(false,eval a X.env),(false,eval (.Name "ValueError" p2) X.env)]:=by rfl):ED X B (.Call (.Name "isinstance" p) [a,.Name "ValueError" p2] [] pos) (Ki names ma):=by
 have hT:PE X (.Name "ValueError" p2) (tC (.ty "ValueError")):=Hy hgm hmv PyProof.Rows.Boot.«ValueError» rfl
 have hc:M3 X (.builtin "isinstance") (fun xs H Q=>∃x G n,xs=[x,.ty "ValueError"]/\Le G H/\a9 X.K G x (.obj (.exc n))/\n∈names/\Q (.bl true) H):=by
  intro pins s σ H xs us Q I r h;obtain⟨x,G,n,rfl,l,rp,hn,q⟩:=h;obtain⟨u,w',rfl,r1,r2⟩:=AG r;cases r2;simp only[a9]at rp;obtain⟨e,C,HP,rfl,h2,h3,h4,h5⟩:=rp;cases r1;obtain⟨C',F⟩:=Bb hx hn;have:=F.nm;rw[h2]at this;cases this;exact kia_one h4 I.kIn (I.hok e _ (l _ _ h3)).1 (Se F.kit) (fun z=>nomatch z) fun tk=>⟨.bl _,H,I.tok _,rfl,q⟩
 refine d9 (Bx (pos:=pos) (p:=p) hc hg hi (by rfl') (M7 ha (M7 hT Q3) he) (he:=he)) ?_
 rintro σ H Q ⟨G,env,d,env',rl,e,k⟩;obtain⟨⟨d1,a8⟩,e1,e2⟩:=C8 e;dsimp only at e2;split at e2
 ·rename_i n
  split at e2
  ·rename_i hn
   cases e2;exact .bind rl e1 fun v G1 H1 ev r=>⟨v,G1,n,rfl,ev.rel.sub,r,by simpa using hn,k _ G1 H1 ev (by simp only[a9])⟩
  ·cases e2
 ·cases e2
def Kk:D->Bool
 |.non=>true
 |_=>false
def Fc:D->D->Option D
 |a,.non=>some (.bl (Kk a))
 |_,_=>none
theorem Sf{K:Frag}{G:Hp}{x:V}{a:D}(r:a9 K G x a):decide (x=.non)=Kk a:=by
 cases a with
 |non=>simp only[a9]at r;subst r;rfl
 |bl _=>simp only[a9]at r;subst r;rfl
 |int _=>simp only[a9]at r;subst r;rfl
 |str _=>simp only[a9]at r;obtain⟨r,_⟩:=r;subst r;rfl
 |tup _=>simp only[a9]at r;obtain⟨_,_,r,_⟩:=r;subst r;rfl
 |lst _=>simp only[a9]at r;obtain⟨_,_,r,_⟩:=r;subst r;rfl
 |emp=>simp only[a9]at r;obtain⟨_,_,r,_⟩:=r;subst r;rfl
 |dct _ _=>simp only[a9]at r;obtain⟨_,_,r,_⟩:=r;subst r;rfl
 |dcx _ _=>simp only[a9]at r;obtain⟨_,_,_,_,r,_⟩:=r;subst r;rfl
 |obj o=>
  simp only[a9]at r;cases o with
  |exc n=>obtain⟨_,_,_,r,_⟩:=r;subst r;rfl
  |fn n=>obtain⟨_,r,_⟩:=r;subst r;rfl
  |dk n=>obtain⟨_,r,_⟩:=r;subst r;rfl
  |dt n=>obtain⟨_,_,r,_⟩:=r;subst r;rfl
  |dsk n=>obtain⟨_,_,_,_,_,r,_⟩:=r;subst r;rfl
  |pin a d=>obtain⟨r,_⟩:=r;subst r;rfl
theorem Sg:jZ X B (fun x y H Q=>y=.non/\Q (.bl (decide (x=.non))) H) Fc:=by
 intro G σ env H x y a b d Q rl ra rb e k;unfold Fc at e;split at e
 ·cases e
  simp only[a9]at rb;subst rb;rw[Sf ra];exact⟨rfl,k _ G H (.refl rl) (by simp only[a9])⟩
 ·cases e
end
end L2.Mir
namespace L2.Mir
open PySem PySem.Spec PyProof.Rows PySem.W
section
variable{X:Cx}{pins:OA}{σ σ':St}{H:Hp}{s:Shared}{e:Addr}{φ:Heap->Prop}
theorem Sh(I:Inv X pins σ H s)(hn:H e=none)(h0:X.s₀.heap.get? e=none)(hL:e≠X.env.locals)(hc:∀x c,X.env.cells.lookup x=some c->c≠e)(hp:∀p∈X.pn++pins,p.1≠e)
  (ph:φ s.heap)(po:∃o,s.heap.get? e=some o)(ps:∀h1 h2:Heap,φ h1->(∀o,h1.get? e=some o->h2.get? e=some o)->φ h2):Inv X pins σ (upd H e (.ext φ)) s:=by
 have ne:∀{b u},H b=some u->b≠e:=fun q z=>by rw[z,hn]at q;cases q
 refine⟨I.ok,I.os,I.bare,⟨I.base.keep,I.base.slot,fun b o q n hx=>?_,I.base.there,fun b xs q=>?_,fun b o u q=>?_,fun b ps q=>?_⟩,I.loc,I.cell,?_,fun x c q=>?_,fun p q=>?_,fun b u q=>?_,I.len⟩
 ·have hb:b≠e:=fun z=>by rw[z,h0]at q;cases q
  rw[C4 hb];exact I.base.free b o q n hx
 ·have:=I.base.tups b xs q;rw[C4 (ne this)];exact this
 ·have:=I.base.frzs b o u q;rw[C4 (ne this)];exact this
 ·obtain⟨m,q'⟩:=I.base.tbls b ps q;exact⟨m,by rw[C4 (ne q')];exact q'⟩
 ·rw[C4 (Qa hL)];exact I.free
 ·rw[C4 (hc x c q)];exact I.freeC x c q
 ·obtain⟨h1,h2,h3,h4,h5⟩:=I.pin p q
  exact⟨h1,by rw[C4 (hp p q)];exact h2,h3,h4,h5⟩
 ·by_cases hb:b=e
  ·subst hb;rw[D9]at q;cases q;exact⟨ph,po,ps⟩
  ·rw[C4 hb]at q
   exact(I.hok b u q).stay (fun _ _ _ z=>z) (fun c z=>by rw[C4 (ne z)];exact z) fun c xs z=>by rw[C4 (ne z)];exact z
theorem Si{h':Heap}{m':OI}{tk:Nat}(I:Inv X pins σ H s)(hn':h'.Ns X.env.locals m')(hs:Heap.SameBut X.env.locals s.heap h')(hl:σ'.length=σ.length)
  (hσ:∀(i:Nat) (x:Str) (v:V),X.N[i]? =some x->σ'[i]? =some (some v)->oB X.env.scope x->∃u,E3 v u/\Hv X.env h' m' x u):Inv X pins σ' H {s with heap:=h',toks:=tk}:=by
 have cne:=I.cne
 refine⟨I.ok,I.os,I.bare,⟨fun b o e n hb hx=>?_,fun b o e n hb hx=>?_,I.base.free,fun b o e hx=>?_,I.base.tups,I.base.frzs,I.base.tbls⟩,⟨_,hn',hσ⟩,fun y c e=>?_,I.free,I.freeC,fun p hp=>?_,fun b ob e=>?_,hl.trans I.len⟩
 ·exact(hs.2 b (Qh (Qu (Qk e) I.ok.above))).trans (I.base.keep b o e n hb hx)
 ·obtain⟨sl,e1⟩:=I.base.slot b o e n hb hx
  exact⟨sl,(hs.2 b (Qh (Qu (Qk e) I.ok.above))).trans e1⟩
 ·obtain⟨o',e1⟩:=I.base.there b o e hx
  exact⟨o',(hs.2 b (Qh (Qu (Qk e) I.ok.above))).trans e1⟩
 ·obtain⟨w',z⟩:=I.cell y c e
  exact⟨w',z.sameBut hs (cne y c e)⟩
 ·obtain⟨e,n,ne,nf,d⟩:=I.pin p hp
  exact⟨(hs.2 p.1 ne).trans e,n,ne,nf,d⟩
 ·refine(I.hok b ob e).stay (fun c w' hc q=>(hs.2 c ?_).trans q) (fun _ q=>q) fun _ _ q=>q
  rintro rfl
  rcases hc with rfl|hc
  ·rw[I.free]at e;cases e
  ·rw[I.free]at hc;cases hc
theorem Sj{M:Model}{A:Around}{E:OU}{i:Nat}{n:Str}{pos:Pos}{Q:Unit->Shared->Prop}(I:Inv X pins σ H s)(hN:X.N.Nodup)(hi:X.N[i]? =some n)(hk:X.env.scope.names.lookup n=some .local)
  (h:∀s',Inv X pins (σ.set i none) H s'->Q () s'):wpAny M A (do bindName X.env n .none;unbindBehindTheSuite X.env n pos) Q E s:=by
 have hcls:(X.env.scope.kind==.class||(X.env.scope.kind==.module&&X.env.locals !=X.env.globals))=false:=by rw[I.ok.kind];rfl
 have hiσ:i<σ.length:=by rw[I.len];exact(Qy.mp hi).1
 refine Qz (wpAny_bindName (Br (v:=.non) (u:=.none) I hN hi (.inl hk) rfl (fun s1 I1=>?_) (.inr hk)))
 unfold unbindBehindTheSuite;refine Ul ?_
 obtain⟨m,hn,hl⟩:=I1.loc;obtain⟨u,ru,lk⟩:=hl i n .non hi (Zw hiσ) (.inl hk);have hm:m n=some u:=by
  rcases lk with⟨_,z⟩|⟨z,_⟩
  ·exact z
  ·have:X.env.kindOf n=some .local:=hk
   rcases z with z|z<;>(rw[this]at z;cases z)
 refine wpAny_unbindName_local hk hn hm hcls fun h' u' hn' hs=>?_
 obtain⟨hh,g,d,t,o⟩:=s1;refine h _ (Si (tk:=t) I1 hn' hs (by simp) fun j y v e1 e2 e3=>?_)
 by_cases hj:j=i
 ·subst hj;rw[Zw hiσ]at e2;cases e2
 ·rw[Qp (Qa hj)]at e2
  obtain⟨w,rw',q⟩:=hl j y v e1 (by rw[Qp (Qa hj)];exact e2) e3
  refine⟨w,rw',?_⟩
  rcases q with⟨k,e⟩|⟨k,c,e,z⟩
  ·refine .inl ⟨k,?_⟩
   have:y≠n:=fun e=>hj (EH hN e1 (e ▸ hi))
   simp[this,e]
  ·exact .inr ⟨k,c,e,z.sameBut hs (I1.cne y c e)⟩
end
theorem Ev.setNone{K:Frag}{B:OE}{G G1:Hp}{σ σ1:St}{env a8:c7}{H H1:Hp}{i:Nat}(ev:Ev K B G σ env H G1 σ1 a8 H1):Ev K B G σ env H G1 (σ1.set i none) (a8.set i .nil) H1:=by
 have e0:=ev.setNil (i:=i)
 have rl:=e0.rel
 have ne:∀(j:Nat) (w:W),(a8.set i .nil)[j]? =some w->w≠.nil->(σ1.set i none)[j]? =σ1[j]?:=fun j w q1 q2=>by
  rcases K1 q1 with⟨_,z⟩|z
  ·exact absurd z q2
  ·exact Qp (Qa z.1)
 have nm:∀(w:W) (es:Mu),w.mut=some es->w≠.nil:=fun w es h z=>by rw[z]at h;cases h
 refine⟨⟨rl.sub,by rw[rl.len];simp,fun j d q=>?_,fun j w es q1 q2=>?_,fun j k w w' es fs b q1 q2 q3 q4 q5 q6=>?_,fun j w b q1 qo q2=>?_,rl.old,rl.tabs,rl.gnt⟩,e0.same,e0.keep,e0.live,e0.stay,fun b z=>?_,fun j w q qp=>?_,by rw[Zp];exact e0.slen⟩
 ·rw[ne j _ q (by simp)];exact rl.dat j d q
 ·rw[ne j _ q1 (nm w es q2)];exact rl.own j w es q1 q2
 ·rw[ne j _ q1 (nm w es q2)]at q5;rw[ne k _ q3 (nm w' fs q4)]at q6;exact rl.inj j k w w' es fs b q1 q2 q3 q4 q5 q6
 ·rw[ne j _ q1 (by rintro rfl;cases qo)]at q2;exact rl.fresh j w b q1 qo q2
 ·obtain⟨j,w,es,q1,q2,q3⟩:=z
  rw[ne j _ q1 (nm w es q2)]at q3;exact e0.sub b ⟨j,w,es,q1,q2,q3⟩
 ·rw[ne j _ q (by rintro rfl;cases qp)];exact e0.par j w q qp
theorem Sk{l:List Env}{H H':Hp}{h h1 h2 Bh:Heap}(un:Un (iN l) [] H H' h h1)(kept:∀b o,h.get? b=some o->H b=none->b∉iN l->Bh.get? b=some o)(thr:∀b o,h.get? b=some o->b∉iN l->∃o',Bh.get? b=some o')
  (stay:Bh.StaysIn h2)(ups:h1.UpToSlots h2)(fr:∀b∈iN l,H b=none/\∃o,h.get? b=some o/\∀vs,o.data≠.fields vs):Un (iN l) [] H H' h h2:=by
 have sl:∀b o,h.get? b=some o->b∈iN l->∃sl,h2.get? b=some {o with slots:=sl}:=fun b o q hb=>by
  obtain⟨n,o1,g1,g2⟩:=fr b hb;rw[q]at g1;cases g1;obtain⟨s1,q1⟩:=un.slot b o q n hb (by simp)
  obtain⟨s2,q2⟩:=ups b _ q1 g2;exact⟨s2,q2⟩
 exact⟨fun b o q n hb _=>stay b o (kept b o q n hb),fun b o q n hb _=>sl b o q hb,un.free,fun b o q _=>by
  by_cases hb:b∈iN l
  ·obtain⟨s1,q1⟩:=sl b o q hb;exact⟨_,q1⟩
  ·obtain⟨o',q1⟩:=thr b o q hb;exact⟨o',stay b o' q1⟩,un.tups,un.frzs,un.tbls⟩
section
variable{M:Model}{A:Around}{E:OU}{K:Frag}{e C Dd:Addr}{h:Heap}{g:Array GenState}{d:Drawn}{t:Nat}{os:OsState}
theorem Sl{Q:Bool->Shared->Prop}{od:Option Addr}{cd:ClassData}{sl:Array (Option Value)}(X:K.In h)(I:P9 e C h)(hsub:mroIn K C (.ref Dd)=some true)(hD:mroIn K Dd (.type "BaseException")=some true)(hk:K.lookup Dd=some ⟨.type "type",od,.cls cd,sl⟩)
  (hq:Q true ⟨h,g,d,t,os⟩):wpAny M A (excMatches (.ref e) (.ref Dd)) Q E ⟨h,g,d,t,os⟩:=by
 have L0:=I.type (M:=M)
 have L1:=looks_mroIn (M:=M) X hsub
 have L2:=looks_mroIn (M:=M) X hD
 have f:=tc_notTuple
 have hC:=X _ _ hk
 unfold excMatches
 repeat (first|with_reducible refine L0.at ?_|with_reducible refine L1.at ?_|with_reducible refine L2.at ?_|with_reducible refine wpAny_loadPart_at hC ?_|wp_step)
 exact hq
end
theorem Sm{K:Frag}{C:Addr}{bm:List Value}{nid:String}(h:excIn K C bm nid=true):∃od cd sl,K.lookup C=some ⟨.type "type",od,.cls cd,sl⟩:=by
 unfold excIn at h;split at h
 ·rename_i dd cd sl ho;exact⟨dd,cd,sl,ho⟩
 ·cases h
theorem Sn{K:Frag}{C:Addr}(h:S3 K C=true):mroIn K C (.type "BaseException")=some true:=by
 unfold S3 at h;simp only[Qr,beq_iff_eq]at h;exact h.1
def Bc(a:Addr)(h:Heap):Prop:=∃o fd,h.get? a=some o/\o.data=.func fd
theorem So{M:Model}{a:Addr}(h:Heap)(p:Bc a h):∃k,(k=Keeper.frame\/k=Keeper.machine\/k=Keeper.boundFrame)/\Looks M h (keeperOf (.ref a)) k:=by
 obtain⟨o,fd,h1,h2⟩:=p;refine⟨.frame,.inl rfl,(Looks.ld (part:=none) h1).andThen ?_⟩;rw[h2];exact .now
def Fd(X:Cx)(B:OE)(fl:Addr)(o:Option Str)(G:Hp):Prop:=
 ∀(pins:OA) (s:Shared) (σ:St) (env:c7) (Q:VK) (E:XK),Inv X pins σ X.H₀ s->Rel X.K B G σ env X.H₀->
  (o=none->∀v G' H',Ev X.K B G σ env X.H₀ G' σ env H'->Q v H')->
  (∀n C,o=some n->nsIn X.K mainGlobals n=some (some (.ref C))->∀G' H',Ev X.K B G σ env X.H₀ G' σ env H'->E (.ref C) none H')->
  codeAny (model X.prog X.w) X.A (.call (.ref fl) ⟨[],[]⟩) (CR (iA X.prog X.w) X.stack X.prog X.w X.H₀ s Q E) s
section
variable{X:Cx}{B:OE}{S n x y:Str}{names:List Str}{i0 i j:Nat}{fl:Addr}{o:Option Str}{G₀:Hp}{cp cpos epos sp yp np apos hpos tpos:Pos}
abbrev pG(n:Str):D:=.obj (.exc n)
def Sq(X:Cx)(B:OE)(names:List Str)(fl:Addr)(i0 i j:Nat)(o:Option Str)(G:Hp):TS:=fun D σ H=>σ[i0]? =some (some (.ref fl))/\H=X.H₀/\∃env,Rel X.K B G σ env H/\
 (o=none->∀G' H',Ev X.K B G σ env H G' σ env H'->D.nx σ H')/\∀c,o=some c->c∈names/\∀σ' G' H',Ev X.K B G σ env H G' σ' (((env.set i (.dat (pG c))).set j (.dat (pG c))).set i .nil) H'->D.nx σ' H'
theorem pH{pins:OA}{s s':Shared}{σ:St}{H G:Hp}{env:c7}{D:Ends}{ev:Value}(hst:X.stack=X.env::X.outer)(hfr:X.env.frame=some X.env.locals)(hex:X.ex=[])(hx:V0 X.K S names=true)(hN:X.N.Nodup)
  (hi:X.N[i]? =some n)(hil:X.env.scope.names.lookup n=some .local)(hj:X.N[j]? =some y)(hjl:X.env.scope.names.lookup y=some .local)(hgS:Gl X S)
  (I:Inv X pins σ H s)(rl:Rel X.K B G σ env H)(hX:∀c,o=some c->c∈names/\∀σ' G' H',Ev X.K B G σ env H G' σ' (((env.set i (.dat (pG c))).set j (.dat (pG c))).set i .nil) H'->D.nx σ' H')
  (cx:iA X.prog X.w X.stack H s (fun cls _ H'=>∃c C G',o=some c/\nsIn X.K mainGlobals c=some (some (.ref C))/\cls=.ref C/\Ev X.K B G σ env H G' σ env H') ev s')
  (hdS:(S==("__debug__":Str))=false)(hdn:(n==("__debug__":Str))=false)(hcdn:(n==("__classdict__":Str))=false)(hsw:swapsWith (.Name n np) (some (.Name y yp)) apos.line X.env=pure false):
  wpAny (model X.prog X.w) X.A (noteFrame ev X.env) (fun _ s₂=>wpAny (model X.prog X.w) X.A (setFlight ev none) (fun _ s₃=>
   wpAny (model X.prog X.w) X.A (handleBy ev X.env [.ExceptHandler (some (.Name S sp)) (some n) [.Assign [.Name y yp] (.Name n np) apos] hpos]) (SP X pins D) X.xe s₃) X.xe s₂) X.xe s':=by
 obtain⟨e,t,C,H',Bh,rfl,os,bare,fly,un,hok,kept,thr,c,C',G',ho,hC,hcc,evx⟩:=cx;cases hcc;obtain⟨hcn,hD⟩:=hX c ho;obtain⟨C2,F⟩:=Bb hx hcn;have:=F.nm;rw[hC]at this;cases this;obtain⟨Sd,hS,hsub,hoS,hkS⟩:=F.sub;have frF:∀b∈iN X.stack,H b=none/\∃o,s.heap.get? b=some o/\∀vs,o.data≠.fields vs:=fun b hb=>⟨I.stkFree b hb,(I.stack.mem hb).2⟩
 have eB:Bh.get? e=none:=fly.2.1
 obtain⟨oe0,vs0,he0,_,hd0,_⟩:=fly.first
 have eS:s.heap.get? e=none:=by
  cases q:s.heap.get? e with
  |none=>rfl
  |some o0=>
   by_cases hb:e∈iN X.stack
   ·obtain⟨_,o1,g1,g2⟩:=fly.2.2.1.mem hb
    rw[he0]at g1;cases g1;exact absurd hd0 (g2 vs0)
   ·obtain⟨o',q'⟩:=thr e o0 q hb
    rw[eB]at q';cases q'
 have e0:X.s₀.heap.get? e=none\/e∈X.ex:=by
  by_cases hx:e∈X.ex
  ·exact .inr hx
  ·refine .inl ?_
   cases q:X.s₀.heap.get? e with
   |none=>rfl
   |some o0=>obtain⟨o',q'⟩:=I.base.there e o0 q hx;rw[eS]at q';cases q'
 have eH:H' e=none:=by
  cases q:H' e with
  |none=>rfl
  |some u=>
   have ok:=hok e u q
   have:∃o,Bh.get? e=some o:=by
    cases u with
    |lst xs=>obtain⟨_,_,_,_,z⟩:=ok;exact⟨_,z⟩
    |tup xs=>obtain⟨_,_,_,ob,z,_⟩:=ok;exact⟨_,z⟩
    |dK kvs=>obtain⟨_,_,_,_,o,_,_,z,_⟩:=ok;exact⟨_,z⟩
    |dT C kvs=>obtain⟨_,_,_,_,o,_,_,z,_⟩:=ok;exact⟨_,z⟩
    |dX es ep=>obtain⟨_,_,o,z,_⟩:=ok;exact⟨_,z⟩
    |set S n=>obtain⟨o,_,_,_,z,_⟩:=ok;exact⟨_,z⟩
    |ins C dx fs=>obtain⟨_,_,_,z,_⟩:=ok;exact⟨_,z⟩
    |own y=>obtain⟨_,z⟩:=ok;exact⟨_,z⟩
    |xd fs=>obtain⟨_,⟨_,_,_,z,_⟩,_⟩:=ok;exact⟨_,z⟩
    |rng lo hi=>obtain⟨_,_,_,z⟩:=ok;exact⟨_,z⟩
    |frz ob u=>obtain⟨z,_⟩:=ok;exact⟨_,z⟩
    |tbl ps=>exact⟨_,(show Bh.get? e=some _ from ok)⟩
    |met f y=>exact⟨_,(show Bh.get? e=some _ from ok)⟩
    |ext φ=>obtain⟨_,z,_⟩:=ok;exact z
   rw[eB]at this;obtain⟨_,z⟩:=this;cases z
 have invAt:∀h2:Heap,Bh.StaysIn h2->s'.heap.UpToSlots h2->Inv X pins σ H' {s' with heap:=h2}:=fun h2 st ups=>
  I.call' (s':={s' with heap:=h2}) (ch:=[]) os (Sk un kept thr st ups frF) (hok.kept fun b u q=>st b u q) bare (fun b z=>absurd z (by simp))
 rw[hst]at fly;have frames:X.A.frames=some (X.env::X.outer):=by rw[I.ok.frames,hst]
 refine wpAny_looks_onW (L:=X.env.locals) frames hfr fly fun h4 held4 ups4=>?_
 refine wpAny_landsW held4 fun h5 fly5 ups5=>?_
 have I5:=invAt h5 fly5.1 (ups4.trans ups5)
 refine wpAny_handleBy_cons (codeAny_handlers_test ?_) (by intro q;cases q)
 have markI:∀{σ:St}{H:Hp}{s:Shared},Inv X pins σ H s->Inv ({X with A:=X.A.mark (some (.ref e)),calm:=false,xe:=fun _ _=>False}:Cx) pins σ H s:=fun J=>
  ⟨⟨J.ok.mod,J.ok.kind,J.ok.glob,J.ok.blt,J.ok.above,J.ok.inj,J.ok.has,J.ok.cab,(fun z=>nomatch z),J.ok.frames,J.ok.stk,J.ok.exf,J.ok.bs,J.ok.bsz,J.ok.noex,J.ok.exfs,J.ok.funs,J.ok.frf⟩,J.os,J.bare,J.base,J.loc,J.cell,J.free,J.freeC,J.pin,J.hok,J.len⟩
 have unmark:∀{σ:St}{H:Hp}{s:Shared},Inv ({X with A:=X.A.mark (some (.ref e)),calm:=false,xe:=fun _ _=>False}:Cx) pins σ H s->Inv X pins σ H s:=fun J=>⟨I.ok,J.os,J.bare,J.base,J.loc,J.cell,J.free,J.freeC,J.pin,J.hok,J.len⟩
 refine BF (X:=({X with A:=X.A.mark (some (.ref e)),calm:=false,xe:=fun _ _=>False}:Cx)) (markI I5) hgS (mg_of I.mod.kin I.mod.glob hS) ?_ hdS
 obtain⟨od,cd,sl,hlk⟩:=Sm (let ⟨Z,z1,z2⟩:=Kg hoS;by rw[hS]at z1;cases z1;exact z2)
 obtain⟨oe5,vs5,he5,hc5,_,_⟩:=fly5.first
 refine Sl I5.kIn ⟨oe5,he5,hc5⟩ hsub (Sn hkS) hlk ?_
 dsimp only[if_true];refine codeAny_handlers_suite_as ?_
 refine lands_againW fly5 fun h6 fly6 ups6=>?_
 have I6:=invAt h6 fly6.1 ((ups4.trans ups5).trans ups6)
 obtain⟨oe6,vs6,he6,hc6,_,_⟩:=fly6.first
 have hexN:e∉X.ex:=fun z=>by rw[hex]at z;cases z
 have I7:Inv X pins σ (upd H' e (.ext (P9 e C))) {s' with heap:=h6}:=by
  refine Sh I6 eH (e0.elim id fun z=>absurd z hexN) (fun z=>?_) (fun x c q z=>?_) (fun p q z=>?_) ⟨oe6,he6,hc6⟩ ⟨_,he6⟩ fun h1 h2 p k=>?_
  ·obtain⟨m,⟨o1,_,_,g,_⟩,_⟩:=I.loc
   rw[←z,eS]at g;cases g
  ·obtain⟨v,o1,g,_⟩:=I.cell x c q
   rw[z,eS]at g;cases g
  ·obtain⟨g,_⟩:=I.pin p q
   rw[z,eS]at g;cases g
  ·obtain⟨o1,g1,g2⟩:=p
   exact⟨o1,k o1 g1,g2⟩
 refine Br I7 hN hi (.inl hil) (show E3 (.ref e) (.ref e)from rfl) (fun s8 I8=>?_) (.inr hil)
 have hiσ:i<σ.length:=by rw[I.len];exact(Qy.mp hi).1
 refine Qb (Bs (BG (X:=({X with A:=X.A.mark (some (.ref e)),calm:=false,xe:=fun _ _=>False}:Cx)) (pos:=apos) (pos':=yp) hN hj (.inl hjl) (EJ (pos:=np) hi (.inl hil) hdn hcdn) hsw (.inr hjl)) pins s8 (σ.set i (some (.ref e))) (upd H' e (.ext (P9 e C)))
  {nx:=fun σ' H2=>σ'=(σ.set i (some (.ref e))).set j (some (.ref e))/\H2=upd H' e (.ext (P9 e C)),rt:=fun _ _=>False} (markI I8) ⟨_,Zw hiσ,rfl,rfl⟩) (fun f s9 q=>?_) fun _ _ z=>z.elim
 cases f with
 |ret u=>obtain⟨_,_,_,_,_,z⟩:=q;exact z.elim
 |brk=>obtain⟨_,_,_,z⟩:=q;exact z.elim
 |cont=>obtain⟨_,_,_,z⟩:=q;exact z.elim
 |next=>
  obtain⟨σ9,H9,I9,rfl,rfl⟩:=q;refine Sj (unmark I9) hN hi hil fun s10 I10=>?_
  refine⟨_,_,I10,?_⟩;have d5:=evx.trans (evx.rel.alloc (o:=.ext (P9 e C)) eH);have rp:a9 X.K (upd G' e (.ext (P9 e C))) (.ref e) (pG c):=by
   simp only[a9];exact⟨e,C,_,rfl,hC,D9,Sa F.kit,Sb F.kit⟩
  exact hD _ _ _ (((d5.setDat (i:=i) rp).setDat (i:=j) rp).setNone (i:=i))
theorem Sr(hst:X.stack=X.env::X.outer)(hfr:X.env.frame=some X.env.locals)(hex:X.ex=[])(hx:V0 X.K S names=true)(hN:X.N.Nodup)(h0:X.N[i0]? =some x)(hv:oB X.env.scope x)
  (hi:X.N[i]? =some n)(hil:X.env.scope.names.lookup n=some .local)(hj:X.N[j]? =some y)(hjl:X.env.scope.names.lookup y=some .local)(hgS:Gl X S)
  (fn:∀pins σ H s,Inv X pins σ H s->Bc fl s.heap)(clo:Fd X B fl o G₀)
  (hdx:(x==("__debug__":Str))=false:=by decide)(hcdx:(x==("__classdict__":Str))=false:=by decide)(hdS:(S==("__debug__":Str))=false:=by decide)(hdn:(n==("__debug__":Str))=false:=by decide)(hcdn:(n==("__classdict__":Str))=false:=by decide)
  (hsw:swapsWith (.Name n np) (some (.Name y yp)) apos.line X.env=pure false:=by rfl)(hsw2:swapsWith (.Call (.Name x cp) [] [] cpos) none epos.line X.env=pure false:=by rfl):
  PS X (.Try [.Expr (.Call (.Name x cp) [] [] cpos) epos] [.ExceptHandler (some (.Name S sp)) (some n) [.Assign [.Name y yp] (.Name n np) apos] hpos] [] [] tpos) (Sq X B names fl i0 i j o G₀):=by
 intro pins s σ H D I ⟨hσ,hH,env,rl,hN0,hX0⟩;subst hH;refine wpAny_Try_except ?_
 refine wpAny_execs_cons (wpAny_Expr_any ?_ I.quiet hsw2);refine Zi ?_
 have name:=fun(W:OU)=>EJ (X:=X.wish W) (pos:=cp) h0 hv hdx hcdx pins s σ X.H₀ (fun v H'=>v=.ref fl/\H'=X.H₀) (I.wish W) ⟨_,hσ,rfl,rfl⟩
 refine Qb (name fun _ _=>False) (fun u s1 ⟨v,H1,I1,r1,q1,q2⟩=>?_) fun _ _ z=>False.elim z
 subst q1;subst q2;cases (show u=Value.ref fl from r1)
 have I1:=I1.unwish
 refine callWith_of (P:=Bc fl) rfl (fun h p=>So h p) (evalArgs_nil3 ⟨fn pins σ _ s1 I1,?_⟩)
 refine wpAny_call (Jo (clo pins s1 σ env (fun _ H'=>D.nx σ H') (fun cls _ H'=>∃c C G',o=some c/\nsIn X.K mainGlobals c=some (some (.ref C))/\cls=.ref C/\Ev X.K B G₀ σ env _ G' σ env H') I1 rl (fun z v G' H' ev=>hN0 z G' H' ev) (fun c C z hC G' H' ev=>⟨c,C,G',z,hC,rfl,ev⟩)) fun r s' hq=>?_)
 cases r with
 |error ev=>exact pH hst hfr hex hx hN hi hil hj hjl hgS I1 rl hX0 hq hdS hdn hcdn hsw
 |ok f=>
  cases f with
  |next=>exact False.elim hq
  |brk=>exact False.elim hq
  |cont=>exact False.elim hq
  |ret u=>
   obtain⟨v,H',I',_,q⟩:=I1.after hq;exact Ja (Ja ⟨σ,H',I',q⟩)
end
def Fe(names:List Str)(i j:Nat)(o:Option Str):Mo Fl:=fun env=>match o with
 |none=>some (.nx,env)
 |some c=>if names.contains c then some (.nx,((env.set i (.dat (pG c))).set j (.dat (pG c))).set i .nil)else none
section
variable{X:Cx}{B:OE}{S n x y:Str}{names:List Str}{i0 i j:Nat}{fl:Addr}{o:Option Str}{G₀:Hp}{cp cpos epos sp yp np apos hpos tpos yp0 spos0 npos0:Pos}{rest:List Stmt}{m:Mo Fl}{kk:Nat}
theorem Ss(hst:X.stack=X.env::X.outer)(hfr:X.env.frame=some X.env.locals)(hex:X.ex=[])(hx:V0 X.K S names=true)(hN:X.N.Nodup)(h0:X.N[i0]? =some x)(hv:oB X.env.scope x)
  (hi:X.N[i]? =some n)(hil:X.env.scope.names.lookup n=some .local)(hj:X.N[j]? =some y)(hjl:X.env.scope.names.lookup y=some .local)(hij:i0≠j)(hgS:Gl X S)
  (fn:∀pins σ H s,Inv X pins σ H s->Bc fl s.heap)(clo:Fd X B fl o G₀)(hr:nK X B rest m)
  (hdx:(x==("__debug__":Str))=false:=by decide)(hcdx:(x==("__classdict__":Str))=false:=by decide)(hdS:(S==("__debug__":Str))=false:=by decide)(hdn:(n==("__debug__":Str))=false:=by decide)(hcdn:(n==("__classdict__":Str))=false:=by decide)
  (hsw:swapsWith (.Name n np) (some (.Name y yp)) apos.line X.env=pure false:=by rfl)(hsw2:swapsWith (.Call (.Name x cp) [] [] cpos) none epos.line X.env=pure false:=by rfl)
  (hsw3:swapsWith (.Constant .none kk npos0) (some (.Name y yp0)) spos0.line X.env=pure false:=by rfl):
  j7 X (.Assign [.Name y yp0] (.Constant .none kk npos0) spos0::.Try [.Expr (.Call (.Name x cp) [] [] cpos) epos] [.ExceptHandler (some (.Name S sp)) (some n) [.Assign [.Name y yp] (.Name n np) apos] hpos] [] [] tpos::rest)
   (fun D σ H=>σ[i0]? =some (some (.ref fl))/\H=X.H₀/\∃env f env',Rel X.K B G₀ σ env H/\(D1 (F2 j (mC .non)) (D1 (Fe names i j o) m)) env=some (f,env')/\Post X.K B G₀ σ env H env' D f):=by
 refine jL (U1 (BG hN hj (.inl hjl) Hw hsw3 (.inr hjl)) (U1 (Sr hst hfr hex hx hN h0 hv hi hil hj hjl hgS fn clo hdx hcdx hdS hdn hcdn hsw hsw2) hr)) ?_
 rintro D σ H ⟨hσ,hH,env,f,env',rl,e,k⟩;obtain⟨⟨f1,a8⟩,e1,e2⟩:=C8 e;cases e1;dsimp only at e2;obtain⟨⟨f2,eW⟩,e3,e4⟩:=C8 e2;have fR:Ev X.K B G₀ σ env H G₀ (σ.set j (some .non)) (env.set j (.dat .non)) H:=(Ev.refl rl).setDat (i:=j) (v:=.non) (d:=.non) (by simp only[a9])
 refine⟨by rw[Qp (Qa hij)];exact hσ,hH,_,fR.rel,fun z G' H' ev=>?_,fun c z=>?_⟩
 ·subst z
  cases e3;exact⟨G',_,f,env',ev.rel,e4,Post.after _ _ k (fR.trans ev)⟩
 ·subst z
  unfold Fe at e3;dsimp only at e3;split at e3
  ·rename_i hc
   cases e3;exact⟨by simpa using hc,fun σ' G' H' ev=>⟨G',_,f,env',ev.rel,e4,Post.after _ _ k (fR.trans ev)⟩⟩
  ·cases e3
end
theorem Su{X:Cx}{E:XK}(hst:X.stack=X.env::X.outer)(hfr:X.env.frame=some X.env.locals)(hex:X.ex=[])
  (hxe:∀e s',wpAny (model X.prog X.w) X.A (leaving X.env e) (fun _ s''=>iA X.prog X.w X.outer X.H₀ X.s₀ E e s'') (fun e' s''=>iA X.prog X.w X.outer X.H₀ X.s₀ E e' s'') s'->X.xe e s'):pF X E:=by
 refine⟨fun pins σ H s ev s' I h=>hxe _ _ ?_,fun pins σ H s h' e C vs I hm hE=>hxe _ _ ?_⟩
 ·obtain⟨e,t,C,H',Bh,rfl,os,bare,fly,un,hok,kept,thr,hE⟩:=h
  rw[hst]at fly;refine wpAny_leaves_onW (L:=X.env.locals) (by rw[I.ok.frames,hst]) hfr fly fun h2 fly2 ups=>?_
  refine DG hst hfr hex I os bare fly2 kept thr (fun b o q n hb=>?_) (fun b o q n=>un.free b o q n (by simp)) un.tups un.frzs un.tbls hok hE
  obtain⟨sl,q1⟩:=un.any q n (by simp)
  obtain⟨_,o1,g1,g2⟩:=I.funs.mem hb;rw[q]at g1;cases g1;obtain⟨sl2,q2⟩:=ups b _ q1 g2;exact⟨sl2,q2⟩
 ·have hs:=I.stack
  rw[hst]at hs;refine wpAny_leaves_madeW (L:=X.env.locals) (base:=hideAll s.heap (iN X.stack)) (h:=s.heap) (by rw[I.ok.frames,hst]) hfr (fun b o q=>of_hideAll _ q)
   (funFrames_hide hs fun env he b hb=>by rw[hst];exact List.mem_filterMap.mpr ⟨env,he,hb⟩) hm fun h2 t fly _ hn ups=>?_
  refine DG (s:=s) (s':={s with heap:=h2}) hst hfr hex I rfl I.bare fly (fun b o q _ hb=>hideAll_get _ q hb) (fun b o q hb=>⟨o,hideAll_get _ q hb⟩) (fun b o q n hb=>?_) (fun b o q n=>n) (fun _ _ q=>q) (fun _ _ _ q=>q) (fun b ps q=>⟨#[],by rw[q];simp⟩) ?_ hE
  ·obtain⟨_,o1,g1,g2⟩:=I.funs.mem hb
   rw[q]at g1;cases g1;obtain⟨sl2,q2⟩:=ups b _ (hm.keeps b o q) g2;exact⟨sl2,q2⟩
  ·exact Fa (P:=X.prog) (w:=X.w) I.hok fun b u o q1 q2=>hideAll_get _ q2 fun z=>by rw[I.stkFree b z]at q1;cases q1
theorem CG{K:Frag}{B1 B2:OE}{G G' H H':Hp}{σ1 σ1' σ2:St}{a8 qH eW:c7}(ev:Ev K B1 G σ1 a8 H G' σ1' qH H')(no:∀a,¬ d6 σ1 a8 a)(rl:Rel K B2 G σ2 eW H):Ev K B2 G σ2 eW H G' σ2 eW H':=by
 refine⟨⟨ev.rel.sub,rl.len,fun i d e=>?_,fun i w ds e1 e2=>?_,rl.inj,rl.fresh,fun b h=>ev.live b (rl.old b h),ev.rel.tabs,ev.rel.gnt⟩,ev.same,fun b o _ t e=>ev.keep b o (no b) t e,ev.live,fun b e _ g=>ev.stay b e (no b) g,fun a z=>.inl z,fun i w e hp=>⟨rfl,w,e,hp⟩,rfl⟩
 ·obtain⟨v,q1,q2⟩:=rl.dat i d e
  exact⟨v,q1,a9.mono ev.same d q2⟩
 ·obtain⟨a,xs,q1,q2,q3,q4⟩:=rl.own i w ds e1 e2
  exact⟨a,xs,q1,ev.keep a _ (no a) q3.nt q2,q3.mono ev.same,ev.stay a (by rw[q2];simp) (no a) q4⟩
theorem Kl{K:Frag}{B:OE}{G H:Hp}{σ:St}{env:c7}(rl:Rel K B G σ env H):Rel K M6 G [] [] H:=
 ⟨rl.sub,rfl,fun i d e=>by simp at e,fun i w ds e=>by simp at e,fun i j w w' ds es a e=>by simp at e,fun i ds a e=>by simp at e,fun b h=>h.elim,rl.tabs,rl.gnt⟩
theorem Ff{a:Addr}:¬ d6 [] [] a:=fun⟨i,w,ds,e,_⟩=>by simp at e
def Z6(P:Program)(w:World)(K:Frag)(mg:OI)(base:Heap)(N':List Str)(q:Str)(scope:Scope)(fl:Addr)(cd:Value)(cl:List (Str×Addr))(A:Around)(outer:List Env)(s:Shared)(H:Hp)(E:XK):Cx where
 prog:=P
 w:=w
 K:=K
 mg:=mg
 base:=base
 A:=A.deeper (envX q scope s.heap.objs.size fl cd cl)
 N:=N'
 s₀:=s
 H₀:=H
 env:=envX q scope s.heap.objs.size fl cd cl
 outer:=outer
 stack:=envX q scope s.heap.objs.size fl cd cl::outer
 ex:=[]
 fn:=fun _=>false
 calm:=true
 pn:=[]
 xe:=fun e s'=>wpAny (model P w) (A.deeper (envX q scope s.heap.objs.size fl cd cl)) (leaving (envX q scope s.heap.objs.size fl cd cl) e) (fun _ s''=>iA P w outer H s E e s'') (fun e' s''=>iA P w outer H s E e' s'') s'
section
variable{P:Program}{w:World}{K:Frag}{mg:OI}{base:Heap}{N':List Str}{q:Str}{scope:Scope}{fl:Addr}{cd:Value}{cl:List (Str×Addr)}{A:Around}{outer:List Env}{s:Shared}{H:Hp}{E:XK}{σ:St}
theorem Sv:pF (Z6 P w K mg base N' q scope fl cd cl A outer s H E) E:=Su rfl rfl rfl fun _ _ h=>h
theorem Sw{h₁:Heap}{m:OI}{tk:Nat}(e0:kZ P w K mg base A outer s H)(hd:A.handled=none)(hk:scope.kind=.function)(hnc:∀x,scope.names.lookup x≠some .cell)
  (inj:∀x y c,cl.lookup x=some c->cl.lookup y=some c->x=y)(has:∀x,scope.names.lookup x=some .free->∃c,cl.lookup x=some c)
  (cell:∀x c,cl.lookup x=some c->(∃v,s.heap.IsCell c v)/\H c=none)
  (val:∀(i:Nat) (x:Str) (v:V),N'[i]? =some x->σ[i]? =some (some v)->oB scope x->scope.names.lookup x=some .free/\∃c u,cl.lookup x=some c/\E3 v u/\s.heap.IsCell c (some u))
  (hl:σ.length=N'.length)(hns:h₁.Ns s.heap.objs.size m)(kp:∀b o,s.heap.get? b=some o->h₁.get? b=some o):
  Inv (Z6 P w K mg base N' q scope fl cd cl A outer s H E) [] σ H {s with heap:=h₁,toks:=tk}:=by
 have noA:∀b:Addr,b∉(Z6 P w K mg base N' q scope fl cd cl A outer s H E).ex:=fun b z=>absurd (show b∈([]:List Addr)from z) (by simp)
 refine⟨⟨e0.mod,hk,rfl,rfl,Qv _,inj,fun y hy=>?_,fun y c z=>absurd (show(false:Bool)=true from z) (by decide),fun _=>hd,Around.frames_deeper e0.frames,.inr ⟨rfl,rfl⟩,fun b z=>absurd z (noA b),e0.bs,e0.bsz,fun b _ _=>noA b,fun b z=>absurd z (noA b),e0.funs,e0.frf⟩,
  rfl,e0.bare,Un.kept kp,⟨_,hns,fun i x v h1 h2 h3=>?_⟩,fun x c e=>?_,e0.hok.fresh (Qv _),fun x c e=>(cell x c e).2,fun p hp=>absurd (show p∈([]:OA)from hp) (by simp),e0.hok.kept kp,hl⟩
 ·rcases hy with hy|hy
  ·exact absurd hy (hnc y)
  ·exact has y hy
 ·obtain⟨k,c,u,g1,g2,g3⟩:=val i x v h1 h2 h3
  exact⟨u,g2,.inr ⟨.inr k,c,g1,g3.keeps kp⟩⟩
 ·obtain⟨⟨v,z⟩,_⟩:=cell x c e
  exact⟨v,z.keeps kp⟩
end
structure oV(K:Frag)(params:Arguments)(body:Expr)(scope:Scope)(N':List Str)(lq:Str)(fl c':Addr)(cl:List (Str×Addr))(σ:St)(s₁:Shared)(H₁:Hp)(outer₁:List Env):Prop where
 obj:∃pm ctv,s₁.heap.get? fl=some (kla_obj "<lambda>" lq params body scope cl pm c' ctv)
 free:H₁ fl=none
 nfr:fl∉iN outer₁
 code:∃φ,H₁ c'=some (.ext φ)/\∀h:Heap,φ h->h.CodeRec (.ref c') lq
 inj:∀x y c,cl.lookup x=some c->cl.lookup y=some c->x=y
 has:∀x,scope.names.lookup x=some .free->∃c,cl.lookup x=some c
 cell:∀x c,cl.lookup x=some c->(∃v,s₁.heap.IsCell c v)/\H₁ c=none/\c∉iN outer₁
 val:∀(i:Nat) (x:Str) (v:V),N'[i]? =some x->σ[i]? =some (some v)->oB scope x->scope.names.lookup x=some .free/\∃c u,cl.lookup x=some c/\E3 v u/\s₁.heap.IsCell c (some u)
 len:σ.length=N'.length
def Fg(P:Program)(w:World)(K:Frag)(mg:OI)(base:Heap)(kc:Nat)(fl:Addr)(s₁:Shared)(H₁:Hp)(outer₁:List Env)(o:Option Str)(G:Hp):Prop:=
 (∀(H':Hp) (s:Shared),Un (iN outer₁) [] H₁ H' s₁.heap s.heap->Bc fl s.heap)/\
 ∀(A:Around) (outer:List Env) (s:Shared) (Q:VK) (E:XK),fA kc A->kZ P w K mg base A outer s H₁->Un (iN outer₁) [] H₁ H₁ s₁.heap s.heap->
  (o=none->∀v G' H',Ev K M6 G [] [] H₁ G' [] [] H'->Q v H')->
  (∀n C,o=some n->nsIn K mainGlobals n=some (some (.ref C))->∀G' H',Ev K M6 G [] [] H₁ G' [] [] H'->E (.ref C) none H')->
  codeAny (model P w) A (.call (.ref fl) ⟨[],[]⟩) (CR (iA P w) outer P w H₁ s Q E) s
def outcome(names:List Str)(mb:Mo D)(xb:Mx)(env:c7):Option (Option Str):=match xb env with
 |some n=>if names.contains n then some (some n)else none
 |none=>(mb env).map fun _=>none
theorem Sy{P:Program}{w:World}{K:Frag}{mg:OI}{base:Heap}{kc:Nat}{params:Arguments}{body:Expr}{scope:Scope}{N':List Str}{lq:Str}{fl c':Addr}{cl:List (Str×Addr)}{σ:St}{s₁:Shared}{H₁ G:Hp}{outer₁:List Env}{o:Option Str}{lw:c7}{mb:Mo D}{xb:Mx}
  (L:oV K params body scope N' lq fl c' cl σ s₁ H₁ outer₁)(hk:scope.kind=.function)(hco:scope.isCoroutine=false)(hgen:scope.isGenerator=false)(hnc:∀x∈scope.names,x.2≠.cell)
  (hbind:∀pm ctv,bindArgs (kla_fn "<lambda>" lq params body scope cl pm (.ref c') ctv) ⟨[],[]⟩=pure [])
  (rl:Rel K (fun b=>H₁ b≠none) G σ lw H₁)(no:∀a,¬ d6 σ lw a){S:Str}{names:List Str}(hex:V0 K S names=true)(ho:outcome names mb xb lw=some o)
  (hb:∀(A:Around) (outer:List Env) (s:Shared) (E:XK),fA kc (A.deeper (envX lq scope s.heap.objs.size fl (.ref c') cl))->ED (Z6 P w K mg base N' lq scope fl (.ref c') cl A outer s H₁ E) (fun b=>H₁ b≠none) body mb)
  (hx:∀(A:Around) (outer:List Env) (s:Shared) (E:XK),fA kc (A.deeper (envX lq scope s.heap.objs.size fl (.ref c') cl))->mM (Z6 P w K mg base N' lq scope fl (.ref c') cl A outer s H₁ E) (fun b=>H₁ b≠none) E body xb):
  Fg P w K mg base (kc+1) fl s₁ H₁ outer₁ o G:=by
 obtain⟨pm,ctv,hobj⟩:=L.obj;have hnc':∀x,scope.names.lookup x≠some .cell:=fun x z=>hnc _ (Qo z) rfl
 refine⟨fun H' s un=>⟨_,_,un.keep fl _ hobj L.free L.nfr (by simp),rfl⟩,fun A outer s Q E hr e0 un hN hX=>?_⟩
 have cellK:∀x c v,cl.lookup x=some c->s₁.heap.IsCell c v->s.heap.IsCell c v:=fun x c v e ⟨oc,h1,h2⟩=>⟨oc,un.keep c oc h1 (L.cell x c e).2.1 (L.cell x c e).2.2 (by simp),h2⟩
 have hcd:s.heap.CodeRec (.ref c') lq:=by
  obtain⟨φ,h1,h2⟩:=L.code;exact h2 _ (e0.hok c' _ h1).1
 have lim:s.heap.NoLimit:=e0.mod.nolimit.keeps fun b o e=>(e0.bs b o e).1
 refine kla_callFunE hr.depth (un.keep fl _ hobj L.free L.nfr (by simp)) rfl hco hgen rfl hcd ?_
 rw[hbind];refine Qx (wpAny_newFunctionEnv hnc (fun x z=>by simp at z) (fun h₁ hns hsb=>⟨lim.fresh _ hsb,?_⟩) hk)
 show codeAny _ _ (.expr body (envX lq scope s.heap.objs.size fl (.ref c') cl)) _ _;have kp:∀b o,s.heap.get? b=some o->h₁.get? b=some o:=fun b o e=>hsb.extBut b o (Qh (Qk e)) (Qj _ e)
 have I:Inv (Z6 P w K mg base N' lq scope fl (.ref c') cl A outer s H₁ E) [] σ H₁ {s with heap:=h₁,toks:=s.toks+([]:List (Str×Value)).length}:=by
  refine Sw e0 hr.hd hk hnc' L.inj L.has (fun x c e=>?_) (fun i x v h1 h2 h3=>?_) L.len hns kp
  ·obtain⟨⟨v,z⟩,z2,_⟩:=L.cell x c e
   exact⟨⟨v,cellK x c v e z⟩,z2⟩
  ·obtain⟨k,c,u,g1,g2,g3⟩:=L.val i x v h1 h2 h3
   exact⟨k,c,u,g1,g2,cellK x c _ g1 g3⟩
 have side:∀{G' H':Hp}{σ':St}{lw':c7},Ev K (fun b=>H₁ b≠none) G σ lw H₁ G' σ' lw' H'->Ev K M6 G [] [] H₁ G' [] [] H':=fun ev=>CG ev no (Kl rl)
 refine kla_codeExpr ?_
 unfold outcome at ho;cases hxb:xb lw with
 |some n=>
  rw[hxb]at ho;dsimp only at ho;split at ho
  ·rename_i hn
   cases ho;obtain⟨C,F⟩:=Bb hex (by simpa using hn)
   exact Qb (hx A outer s E (hr.deeper _) [] _ σ H₁ (fun _ _=>False) I ⟨G,lw,n,rl,hxb,C,F.nm,fun σ' G' env' H' ev=>hX n C rfl F.nm G' H' (side ev)⟩) (fun v s' ⟨_,_,_,_,z⟩=>z.elim) fun _ _ z=>z
  ·cases ho
 |none=>
  rw[hxb]at ho;obtain⟨⟨d,lw'⟩,e1,e2⟩:=E8 ho;cases e2;refine Qb (hb A outer s E (hr.deeper _) [] _ σ H₁ Q I ⟨G,lw,d,lw',rl,e1,fun v G' H' ev rp=>hN rfl v G' H' (side ev)⟩) (fun v s' ⟨x,H',J,rv,z⟩=>?_) fun _ _ z=>z
  exact⟨x,H',J.os,J.bare,J.base,J.hok,rv,z⟩
theorem Sz{K:Frag}{c P:Addr}{q qual:Str}(h1:codeHdIn K c P=true)(h2:codeIn K (.ref c) qual=true)(h3:nU K P q=true):q=qual:=by
 unfold codeHdIn at h1;unfold codeIn at h2;split at h1
 ·rename_i vs _ hk
  have m:=Yv.mp h3 _ (mem_of_lookupK hk)
  simp only[hk]at h2;simp only[Qr]at h1;obtain⟨⟨⟨⟨⟨e1,_⟩,_⟩,_⟩,_⟩,_⟩:=h1
  replace m:((match (vs[11]? :Option Value)with|some (.ref P')=>P' !=P|_=>true)||(match vs.toList with|_::.str n _::_=>n==q|_=>false))=true:=by
   split at m
   ·rename_i heq;cases heq;exact m
   ·rename_i hne;exact absurd rfl (hne _ _ _)
  split at e1
  ·rename_i P' h11
   have hP:P'=P:=beq_iff_eq.mp e1
   subst hP;rw[h11]at m;simp only[bne_self_eq_false,Bool.false_or]at m;split at h2
   ·rename_i n t r hl
    simp only[hl]at m;rw[←beq_iff_eq.mp m,←beq_iff_eq.mp h2]
   ·cases h2
  ·cases e1
 ·cases h1
def W6(mg:OI)(base:Heap):Prop:=∃bm o,mg "__builtins__"=some (.ref bm)/\bm≠builtinsNs/\bm≠mainGlobals/\base.get? bm=some o/\o.cls=.type "module"/\o.dict=some builtinsNs/\o.data=.plain
theorem TB{l:List Value}(h:TriplesOk l):l=[]\/ ∃a t b u d rest,l=.int a t::.int b u::d::rest/\TriplesOk rest:=by
 cases l with
 |nil=>exact .inl rfl
 |cons x l=>
  cases x<;>first|exact False.elim h|skip
  cases l with
  |nil=>exact False.elim h
  |cons y l=>
   cases y<;>first|exact False.elim h|skip
   cases l with
   |nil=>exact False.elim h
   |cons d rest=>exact .inr ⟨_,_,_,_,_,_,rfl,h⟩
theorem Km{M:List Value->Prop}(h0:M [])(h1:∀a t b u d rest,TriplesOk rest->M rest->M (.int a t::.int b u::d::rest))(l:List Value)(h:TriplesOk l):M l:=by
 have:∀(n:Nat) (l:List Value),l.length≤n->TriplesOk l->M l:=by
  intro n
  induction n with
  |zero=>
   intro l hl h;cases l with
   |nil=>exact h0
   |cons x l=>exact absurd hl (Nat.not_succ_le_zero _)
  |succ n ih=>
   intro l hl h
   rcases TB h with rfl|⟨a,t,b,u,d,rest,rfl,hr⟩
   ·exact h0
   ·exact h1 _ _ _ _ _ _ hr (ih rest (by simp only[Zt]at hl;omega) hr)
 exact this l.length l (Qv _) h
theorem TC(l:List Value){a b:Int}{t u:Tok}{c:Value}(h:TriplesOk l):TriplesOk (l++[.int a t,.int b u,c]):=
 Km (M:=fun l=>TriplesOk (l++[.int a t,.int b u,c])) trivial (fun _ _ _ _ _ _ _ ih=>ih) l h
theorem TF(l:List Value){pos pos':Pos}{c v:Value}(hk:TriplesOk l):codeAmong pos' (l++[rawInt pos.line,rawInt pos.col,c])=some v->codeAmong pos' l=some v\/v=c:=by
 refine Km (M:=fun l=>codeAmong pos' (l++[rawInt pos.line,rawInt pos.col,c])=some v->codeAmong pos' l=some v\/v=c) (fun h=>?_) (fun a t b u d rest _ ih h=>?_) l hk
 ·change (if(pos.line:Int)==pos'.line&&(pos.col:Int)==pos'.col then some c else none)=some v at h
  split at h
  ·cases h;exact .inr rfl
  ·cases h
 ·change (if a==pos'.line&&b==pos'.col then some d else codeAmong pos' (rest++[rawInt pos.line,rawInt pos.col,c]))=some v at h
  show(if a==pos'.line&&b==pos'.col then some d else codeAmong pos' rest)=some v\/v=c
  split at h
  ·rename_i z;rw[Qt z];exact .inl h
  ·rename_i z;rw[Qd z];exact ih h
section
variable{X:Cx}{pins:OA}{σ:St}{H:Hp}{s:Shared}{P c:Addr}{ps:Array Value}{qual:Str}{scope:Scope}{cl:List (Str×Addr)}{params:Arguments}{body:Expr}{pos:Pos}
structure Made(X:Cx)(pins:OA)(σ:St)(H:Hp)(s:Shared)(P:Addr)(qual:Str)(params:Arguments)(body:Expr)(scope:Scope)(cl:List (Str×Addr))(fl c':Addr)(H1:Hp)(s1:Shared):Prop where
 inv:Inv X pins σ H1 s1
 ev:∀(B:OE) (G:Hp) (env:c7),Rel X.K B G σ env H->Ev X.K B G σ env H G σ env H1
 obj:∃pm ctv,s1.heap.get? fl=some (kla_obj "<lambda>" (kH qual) params body scope cl pm c' ctv)
 new:s.heap.objs.size≤fl
 free:H1 fl=none
 code:H1 c'=some (lX X.K P c')
 keep:∀b o,H b=none->s.heap.get? b=some o->s1.heap.get? b=some o/\H1 b=none
theorem TH{M:Model}{A:Around}{E:OU}{Q:OU}(I:Inv X pins σ H s)(hcode:X.env.code=.ref c)(hc:codeHdIn X.K c P=true)(hq:codeIn X.K (.ref c) qual=true)(htq:nU X.K P qual=true)(henv:X.env.qual=qual++".<locals>.")
  (bm:W6 X.mg X.base)(hP:H P=some (.tbl ps))(tabs:jB X.K H)(hcl:closureFor scope X.env=pure cl)(hdef:defaultsOf params X.env=([],[]))
  (h:∀fl c' H1 s1,Made X pins σ H s P qual params body scope cl fl c' H1 s1->Q (.ref fl) s1):wpAny M A (eval (.Lambda params body scope pos) X.env) Q E s:=by
 obtain⟨ht,hent⟩:=tabs P ps hP;have hPo:s.heap.get? P=some (tabObj ps):=I.hok P _ hP;have C:=codeHd_of_K I.kIn hc;have nbase:∀{b o},X.base.get? b=some o->b≠P:=fun{b o} e z=>by rw[z]at e;have:=(I.bs P o e).2;rw[hP]at this;cases this
 have hgs:s.heap.Ns mainGlobals X.mg:=I.mod.glob.keeps I.bk
 have hgP:mainGlobals≠P:=by
  obtain⟨o,_,_,e,_⟩:=I.mod.glob;exact nbase e
 obtain⟨b,ob,b1,b2,b3,b4,b5,b6,b7⟩:=bm;have hB:s.heap.BuiltinsAt X.mg P:=⟨b,ob,b1,b2,b3,nbase b4,I.bk _ _ b4,b5,b6,b7⟩;have hlq:X.env.qual++"<lambda>"=kH qual:=by rw[henv];rfl
 refine kla_eval hdef ?_
 rw[hlq];cases hca:codeAmong pos ps.toList with
 |some cv=>
  obtain⟨c',rfl,hc'⟩:=hent pos cv hca;refine kla_makeFunctionHit hcl I.ok.glob hgs hcode C hPo ht hca hB fun ctv h' tk hk hsz=>?_
  have kp:∀b o,s.heap.get? b=some o->(h'.push ({cls:=.type "function",data:=.func (kla_fn "<lambda>" (kH qual) params body scope cl ((X.mg "__name__").getD .none) (.ref c') ctv)}:Obj)).get? b=some o:=fun b o e=>Qj _ (hk b o e)
  refine h h'.objs.size c' H _ ⟨?_,fun B G env rl=>.refl rl,⟨_,_,Qw _ rfl⟩,hsz,I.hok.fresh hsz,hc',fun b o n e=>⟨kp b o e,n⟩⟩
  exact I.kept kp
 |none=>
  refine kla_makeFunction hcl I.ok.glob hgs hcode C hPo ht hca hgP hB fun c' ctv h' tk hx hge hlt hrec htb=>?_
  have hfsz:s.heap.objs.size≤h'.objs.size:=Ju (Uq hge hlt)
  have iC:P≠c':=Qh (Qu (Qk hPo) hge)
  have hnc:H c'=none:=I.hok.fresh hge
  have hcf:c'≠h'.objs.size:=Qh hlt
  have hPf:P≠h'.objs.size:=Qh (Qu (Qk hPo) hfsz)
  have get1:∀{b},(upd (upd H P (.tbl (ps++ #[rawInt pos.line,rawInt pos.col,.ref c']))) c' (lX X.K P c')) b=if b=c' then some (lX X.K P c')else if b=P then some (.tbl (ps++ #[rawInt pos.line,rawInt pos.col,.ref c']))else H b:=fun{b}=>rfl
  have kp:∀b o,b≠P->s.heap.get? b=some o->(h'.push (kla_obj "<lambda>" (kH qual) params body scope cl ((X.mg "__name__").getD .none) c' ctv)).get? b=some o:=fun b o n e=>Qj _ (hx b o n e)
  have other:∀{b u},H b=some u->b≠P->(upd (upd H P (.tbl (ps++ #[rawInt pos.line,rawInt pos.col,.ref c']))) c' (lX X.K P c')) b=some u:=fun{b u} e n=>by
   rw[C4 (J5 e hnc),C4 n];exact e
  have free1:∀{b o},H b=none->s.heap.get? b=some o->(upd (upd H P (.tbl (ps++ #[rawInt pos.line,rawInt pos.col,.ref c']))) c' (lX X.K P c')) b=none:=fun{b o} n e=>by
   rw[C4 (Qh (Qu (Qk e) hge)),C4 (fun z=>by rw[z,hP]at n;cases n)];exact n
  have tab1:jB X.K (upd (upd H P (.tbl (ps++ #[rawInt pos.line,rawInt pos.col,.ref c']))) c' (lX X.K P c')):=by
   intro P2 ps2 e2;rw[get1]at e2;split at e2
   ·cases e2
   ·split at e2
    ·rename_i z
     subst z;cases e2;refine⟨by rw[Array.toList_append];exact TC _ ht,fun p v e=>?_⟩
     rw[Array.toList_append]at e
     rcases TF _ ht e with q|q
     ·obtain⟨a,q1,q2⟩:=hent p v q
      exact⟨a,q1,other q2 (fun z=>by rw[z,hP]at q2;cases q2)⟩
     ·exact⟨c',q,D9⟩
    ·obtain⟨q1,q2⟩:=tabs P2 ps2 e2
     refine⟨q1,fun p v e=>?_⟩
     obtain⟨a,q3,q4⟩:=q2 p v e;exact⟨a,q3,other q4 (fun z=>by rw[z,hP]at q4;cases q4)⟩
  have live1:∀b,H b≠none->(upd (upd H P (.tbl (ps++ #[rawInt pos.line,rawInt pos.col,.ref c']))) c' (lX X.K P c')) b≠none:=fun b e=>by
   rw[get1];split
   ·simp
   ·split
    ·simp
    ·exact e
  refine h h'.objs.size c' _ _ ⟨?_,fun B G env rl=>?_,⟨_,_,Qw _ rfl⟩,hfsz,?_,D9,fun b o n e=>⟨kp b o (fun z=>by rw[z,hP]at n;cases n) e,free1 n e⟩⟩
  ·refine I.un (h':=h'.push (kla_obj "<lambda>" (kH qual) params body scope cl ((X.mg "__name__").getD .none) c' ctv)) (t':=tk) ⟨fun b o e n _ _=>?_,fun b o e n _ _=>⟨o.slots,?_⟩,fun b o e n _=>free1 n e,fun b o e _=>?_,fun b xs e=>?_,fun b o u e=>?_,fun b ps2 e=>?_⟩ fun b u e=>?_
   ·exact kp b o (fun z=>by rw[z,hP]at n;cases n) e
   ·exact kp b o (fun z=>by rw[z,hP]at n;cases n) e
   ·by_cases z:b=P
    ·subst z;exact⟨_,Qj _ htb⟩
    ·exact⟨o,kp b o z e⟩
   ·exact other e (fun z=>by rw[z,hP]at e;cases e)
   ·exact other e (fun z=>by rw[z,hP]at e;cases e)
   ·by_cases z:b=P
    ·subst z
     rw[hP]at e;cases e;exact⟨#[rawInt pos.line,rawInt pos.col,.ref c'],by rw[C4 iC,D9]⟩
    ·exact⟨#[],by rw[other e z];simp⟩
   ·rw[get1]at e
    split at e
    ·rename_i z
     subst z;cases e;have hrec2:=hrec.push (kla_obj "<lambda>" (kH qual) params body scope cl ((X.mg "__name__").getD .none) b ctv);obtain⟨c2,oc,vs,t,e2,hoc,hd,hv⟩:=id hrec2;cases e2;refine⟨fun q hq2=>?_,⟨oc,hoc⟩,fun h1 h2 p k q hq2=>?_⟩
     ·rw[Sz hc hq hq2];exact hrec2
     ·obtain⟨c3,oc3,vs3,t3,e3,g1,g2⟩:=p q hq2
      cases e3;exact⟨_,oc3,vs3,t3,rfl,k oc3 g1,g2⟩
    ·split at e
     ·rename_i z
      subst z;cases e;exact Qj _ htb
     ·rename_i z1 z2
      refine(I.hok b u e).stay (fun b2 o2 hb q=>kp b2 o2 (fun z=>?_) q) (fun b2 q=>other q (fun z=>by rw[z,hP]at q;cases q)) fun b2 xs q=>other q (fun z=>by rw[z,hP]at q;cases q)
      rcases hb with hb|hb
      ·exact z2 (hb.symm.trans z)
      ·rw[z,hP]at hb;cases hb
  ·refine⟨⟨fun b o e=>?_,rl.len,rl.dat,fun i wv ds e1 e2=>?_,rl.inj,rl.fresh,fun b hb=>live1 b (rl.old b hb),tab1,rl.gnt⟩,Le.refl,fun b o _ nt e=>?_,live1,fun b e _ g=>g,fun a z=>.inl z,fun i w e hp=>⟨rfl,w,e,hp⟩,rfl⟩
   ·exact other (rl.sub b o e) (fun z=>by have q:=rl.sub b o e;rw[z,hP]at q;cases q;exact rl.gnt b _ e _ rfl)
   ·obtain⟨a,xs,q1,q2,q3,q4⟩:=rl.own i wv ds e1 e2
    exact⟨a,xs,q1,other q2 (fun z=>by rw[z,hP]at q2;cases q2;exact q3.nt _ rfl),q3,q4⟩
   ·exact other e (fun z=>by rw[z,hP]at e;cases e;exact nt _ rfl)
  ·rw[C4 (Qa hcf),C4 (Qa hPf)];exact I.hok.fresh hfsz
end
theorem TJ{CX:nQ}{P:Program}{w:World}{K:Frag}{mg:OI}{base:Heap}{k:Nat}{f:Addr}{name qual:Str}{params:Arguments}{body:List Stmt}{scope:Scope}{dV kV doc pm cdv ct oc:Value}{an od:Option Addr}
  {osl:Array (Option Value)}{N ps:List Str}(lk:K.lookup f=some ⟨oc,od,.func (fnOf name qual params body scope dV kV doc pm an cdv ct),osl⟩)(hcd:codeIn K cdv qual=true)(S:b0 N ps scope)
  {A:Around}{outer:List Env}{s:Shared}{H:Hp}{args:Args}{us:List Value}{vs:List V}{Q:VK}{E:XK}(hr:fA (k+1) A)(e0:kZ P w K mg base A outer s H)(hb:BindsTo s (fnOf name qual params body scope dV kV doc pm an cdv ct) args (ps.zip us))(r:D6 vs us)(hl:vs.length=ps.length)
  (hbody:fA k (A.deeper (envOfC qual scope s.heap.objs.size f cdv))->∃t,j7 (K8 CX P w K mg base N qual scope f cdv A outer s H E) body t/\t {nx:=fun _ H'=>Q .non H',rt:=Q} (start N vs) H):
  codeAny (model P w) A (.call (.ref f) args) (CR CX outer P w H s Q E) s:=by
 have KX:K.In s.heap:=e0.mod.kin.keeps fun b o e=>(e0.bs b o e).1
 have lim:s.heap.NoLimit:=e0.mod.nolimit.keeps fun b o e=>(e0.bs b o e).1
 have hkind:∀y∈ps.zip us,scope.names.lookup y.1=some .local\/(scope.names.lookup y.1=some .cell/\((cellsFrom (s.heap.objs.size+1) scope.names []).lookup y.1).isSome=true):=fun⟨n,v⟩ hy=>by
  rcases S.par n (Ut hy).1 with q|q
  ·exact .inl q
  ·exact .inr ⟨q,cellsFrom_some _ _ _ (.inl q)⟩
 refine codeAny_call_function hr.depth (KX _ _ lk) rfl S.co S.gen rfl (codeRec_of KX hcd) (hb _ _ _ _ ?_);refine wpAny_newFunctionEnv_cells S.kind hkind fun env he s1 x=>?_
 subst he;refine⟨lim.keeps x.toInCall.keep,codeAny_func ?_⟩;obtain⟨t,ht,hq⟩:=hbody (hr.deeper _);have I:Inv (K8 CX P w K mg base N qual scope f cdv A outer s H E) [] (start N vs) H s1:=Il S hr.hd e0 hl r x;refine Qb (ht [] s1 (start N vs) H _ I hq) (fun fl s' hs=>?_) fun e s' hs=>hs
 have fin:∀{σ':St}{H':Hp}{v:V}{u:Value},Inv (K8 CX P w K mg base N qual scope f cdv A outer s H E) [] σ' H' s'->E3 v u->Q v H'->CE outer P w H s Q u s':=
  fun{σ' H' v u} J rv q=>⟨v,H',J.os,J.bare,J.base,J.hok,rv,q⟩
 cases fl with
 |ret u=>
  obtain⟨v,σ',H',J,rv,q⟩:=hs;exact fin J rv q
 |next=>
  obtain⟨σ',H',J,q⟩:=hs;exact fin (v:=V.non) (u:=Value.none) J rfl q
 |brk=>
  obtain⟨_,_,_,q⟩:=hs;exact False.elim q
 |cont=>
  obtain⟨_,_,_,q⟩:=hs;exact False.elim q
structure lO(P:Program)(w:World)(K:Frag)(mg:OI)(base:Heap)(x:Str)(k kc:Nat)(fr:Option Str->Option D):Prop where
 ex:∃f:Addr,mg x=some (.ref f)/\keepIn K (.ref f)=true/\∀(A:Around) (outer:List Env) (s:Shared) (H:Hp) (fl:Addr) (o:Option Str) (G:Hp) (Q:VK),fA k A->kZ P w K mg base A outer s H->Fg P w K mg base kc fl s H outer o G->Rel K M6 G [] [] H->
  (∃d,fr o=some d/\∀v G' H',Ev K M6 G [] [] H G' [] [] H'->a9 K G' v d->Q v H')->codeAny (model P w) A (.call (.ref f) ⟨[.ref fl],[]⟩) (CR gA outer P w H s Q E0) s
def Fh(N:Nat)(mb:Option Str->Mo Fl)(o:Option Str):Option D:=match mb o (List.replicate N .nil)with
 |some (.ret d,_)=>some d
 |some (.nx,_)=>some .non
 |_=>none
theorem DH{K:Frag}{B B':OE}{G H:Hp}{σ σ':St}{env:c7}(rl:Rel K B G σ env H)(old:∀b,B' b->H b≠none):Rel K B' G σ' (List.replicate σ'.length .nil) H:=by
 have nn:∀{i:Nat}{w:W},(List.replicate σ'.length W.nil)[i]? =some w->w=.nil:=fun{i w} e=>by
  rw[Yo]at e;split at e
  ·cases e;rfl
  ·cases e
 exact⟨rl.sub,by simp,(fun i d e=>by cases nn e),(fun i w ds e1 e2=>by rw[nn e1]at e2;cases e2),(fun i j w w' ds es a e1 e2=>by rw[nn e1]at e2;cases e2),(fun i w a e eo=>by rw[nn e]at eo;cases eo),old,rl.tabs,rl.gnt⟩
theorem Kn{σ:St}{n:Nat}{a:Addr}:¬ d6 σ (List.replicate n .nil) a:=fun⟨i,w,ds,e1,e2,_⟩=>by
 rw[Yo]at e1;split at e1
 ·cases e1;cases e2
 ·cases e1
theorem TK{N:List Str}{v:V}(h:1≤N.length):(start N [v]).length=N.length:=by
 unfold start;simp only[Zq,Ql,Zg,Zt,List.length_nil]
 omega
theorem TM{P:Program}{w:World}{K:Frag}{mg:OI}{base:Heap}{x qual p1:Str}{st:Stmt}{f:Addr}{fd:FuncData}{N:List Str}{k kc:Nat}{mb:Option Str->Mo Fl}(F:fT K x qual st f fd)(S:b0 N [p1] (D5 st))(hm:mg x=some (.ref f))(hbi:L8 K fd [p1] [])(hkc:kc≤k)
  (hb:∀(cdv:Value) (A:Around) (outer:List Env) (s:Shared) (H:Hp) (E:XK) (fl:Addr) (o:Option Str) (G:Hp),fA k (A.deeper (envOfC qual (D5 st) s.heap.objs.size f cdv))->
   (∀pins σ H' s',Inv (K8 gA P w K mg base N qual (D5 st) f cdv A outer s H E).nox pins σ H' s'->Bc fl s'.heap)->Fd (K8 gA P w K mg base N qual (D5 st) f cdv A outer s H E).nox (fun b=>H b≠none) fl o G->
   j7 (K8 gA P w K mg base N qual (D5 st) f cdv A outer s H E).nox (P0 st) (fun D σ H'=>σ[0]? =some (some (.ref fl))/\H'=H/\∃env fw env',Rel K (fun b=>H b≠none) G σ env H'/\mb o env=some (fw,env')/\Post K (fun b=>H b≠none) G σ env H' env' D fw)):
  lO P w K mg base x (k+1) kc (Fh N.length mb):=by
 have hN:1≤N.length:=by have:=Yy List.length S.pre;rw[Yh]at this;simp only[Zt,List.length_nil]at this;omega
 refine⟨f,hm,F.kp,fun A outer s H fl o G Q hr e0 clo rl hfr=>?_⟩
 obtain⟨oc,od,kV,doc,pm,an,cdv,ct,osl,rfl,lk,hcd⟩:=F.ex;obtain⟨d,hd,hQ⟩:=hfr;have KX:K.In s.heap:=e0.mod.kin.keeps fun b o e=>(e0.bs b o e).1
 refine TJ (us:=[.ref fl]) (vs:=[.ref fl]) lk hcd S hr e0 ?_ (.cons rfl .nil) rfl fun hr'=>?_
 ·have:=hbi s [.ref fl] KX rfl
  simpa using this
 ·have un0:∀{pins:OA}{σ:St}{H':Hp}{s':Shared},Inv (K8 gA P w K mg base N qual (D5 st) f cdv A outer s H E0).nox pins σ H' s'->Un (iN outer) [] H H' s.heap s'.heap:=fun I=>I.base
  have q:=hb cdv A outer s H E0 fl o G hr' (fun pins σ H' s' I=>clo.1 H' s' (un0 I)) (fun pins s' σ env Q' E' I rl' hN' hX'=>?_)
  ·refine⟨_,q.nox,?_⟩
   have rl0:Rel K (fun b=>H b≠none) G (start N [.ref fl]) (List.replicate N.length .nil) H:=by
    have:=DH (B':=fun b=>H b≠none) (σ':=start N [.ref fl]) rl (fun b h=>h)
    rwa [TK hN]at this
   have side:∀{G' H':Hp}{σ':St}{env':c7},Ev K (fun b=>H b≠none) G (start N [.ref fl]) (List.replicate N.length .nil) H G' σ' env' H'->Ev K M6 G [] [] H G' [] [] H':=fun ev=>CG ev (fun a=>Kn) rl
   unfold Fh at hd;split at hd
   ·rename_i d' env' em
    cases hd;exact⟨by rw[U5 (by simp)];rfl,rfl,_,_,env',rl0,em,fun v σ' G' H' ev rp=>hQ v G' H' (side ev) rp⟩
   ·rename_i env' em
    cases hd;exact⟨by rw[U5 (by simp)];rfl,rfl,_,_,env',rl0,em,fun σ' G' H' ev=>hQ .non G' H' (side ev) (by simp only[a9])⟩
   ·cases hd
  ·exact clo.2 _ _ s' Q' E' (hr'.mono hkc) I.jA (un0 I) (fun z v G' H' ev=>hN' z v G' H' (CG ev (fun a=>Ff) rl')) fun n C z hC G' H' ev=>hX' n C z hC G' H' (CG ev (fun a=>Ff) rl')
def TN(k:Bool)(w:W):W:=if k then(match w with|.dat d=>.dat d|_=>.nil)else .nil
def AZ(keep:List Bool)(env:c7):c7:=List.zipWith TN keep env
theorem Fi{keep:List Bool}{env:c7}{i:Nat}{w:W}(h:(AZ keep env)[i]? =some w)(hw:w≠.nil):∃d,w=.dat d/\keep[i]? =some true/\env[i]? =some (.dat d):=by
 unfold AZ at h;rw[Jz]at h;cases e1:keep[i]? with
 |none=>rw[e1]at h;cases h
 |some k=>
  cases e2:env[i]? with
  |none=>rw[e1,e2]at h;cases h
  |some w0=>
   rw[e1,e2]at h;cases k with
   |false=>cases h;exact absurd rfl hw
   |true=>
    cases w0 with
    |dat d=>cases h;exact⟨d,rfl,rfl,rfl⟩
    |nil=>cases h;exact absurd rfl hw
    |own _=>cases h;exact absurd rfl hw
    |par _=>cases h;exact absurd rfl hw
    |ownD _ _=>cases h;exact absurd rfl hw
    |parD _ _=>cases h;exact absurd rfl hw
    |ownX _ _=>cases h;exact absurd rfl hw
    |parX _ _=>cases h;exact absurd rfl hw
theorem TQ{K:Frag}{B:OE}{G H:Hp}{σ:St}{env:c7}{keep:List Bool}(rl:Rel K B G σ env H)(hk:keep.length=σ.length):Rel K (fun b=>H b≠none) G (J0 keep 0 σ) (AZ keep env) H:=by
 have nm:∀(w:W) (es:Mu),w.mut=some es->w≠.nil:=fun w es h z=>by rw[z]at h;cases h
 have no:∀(i:Nat) (w:W) (ds:Mu),(AZ keep env)[i]? =some w->w.mut=some ds->False:=fun i w ds e1 e2=>by
  obtain⟨d,z,_⟩:=Fi e1 (nm w ds e2);rw[z]at e2;cases e2
 refine⟨rl.sub,?_,fun i d e=>?_,fun i w ds e1 e2=>(no i w ds e1 e2).elim,fun i j w w' ds es a e1 e2=>(no i w ds e1 e2).elim,fun i w a e eo=>(let ⟨m,q⟩:=kY eo;no i _ m e q).elim,fun b h=>h,rl.tabs,rl.gnt⟩
 ·unfold AZ J0
  rw[Zq,Yj,Yj,Zg,rl.len];rfl
 ·obtain⟨d',z,k1,k2⟩:=Fi e (by simp)
  cases z;obtain⟨v,e1,e2⟩:=rl.dat i d k2;exact⟨v,CB k1 e1,e2⟩
theorem TR{σ:St}{keep:List Bool}{env:c7}{a:Addr}:¬ d6 σ (AZ keep env) a:=fun⟨i,w,ds,e1,e2,_⟩=>by
 have:w≠.nil:=fun z=>by rw[z]at e2;cases e2
 obtain⟨d,z,_⟩:=Fi e1 this;rw[z]at e2;cases e2
def Fj(names:List Str)(keep:List Bool)(mb:Mo D)(xb:Mx)(fr:Option Str->Option D):Mo D:=fun env=>(outcome names mb xb (AZ keep env)).bind fun o=>(fr o).map fun d=>(d,env)
structure pI(K:Frag)(mg:OI)(base:Heap)(cd:Value)(qual:Str)(P:Addr):Prop where
 ex:∃c,cd=.ref c/\codeHdIn K c P=true/\codeIn K (.ref c) qual=true
 tq:nU K P qual=true
 bm:W6 mg base
section
variable{X:Cx}{B:OE}{x S qual:Str}{names:List Str}{k kc:Nat}{fr:Option Str->Option D}{P:Addr}{N':List Str}{scope:Scope}{keep:List Bool}{params:Arguments}{body:Expr}{mb:Mo D}{xb:Mx}{p lpos pos:Pos}{ps0:Array Value}
theorem TU(Rd:lO X.prog X.w X.K X.mg X.base x k (kc+1) fr)(hr:fA k X.A)(hg:Gl X x)(T:pI X.K X.mg X.base X.env.code qual P)(hq:X.env.qual=qual++".<locals>.")(hP:X.H₀ P=some (.tbl ps0))(hfn:∀y,X.fn y=true)(hx:V0 X.K S names=true)
  (ok:gM X N' scope keep 0)(hco:scope.isCoroutine=false)(hgen:scope.isGenerator=false)(hnc:∀x∈scope.names,x.2≠.cell)(hdef:defaultsOf params X.env=([],[]))
  (hbind:∀cl pm c' ctv,bindArgs (kla_fn "<lambda>" (kH qual) params body scope cl pm (.ref c') ctv) ⟨[],[]⟩=pure [])
  (hb:∀(fl c':Addr) (cl:List (Str×Addr)) (H₁:Hp) (A:Around) (outer:List Env) (s:Shared) (E:XK),fA kc (A.deeper (envX (kH qual) scope s.heap.objs.size fl (.ref c') cl))->ED (Z6 X.prog X.w X.K X.mg X.base N' (kH qual) scope fl (.ref c') cl A outer s H₁ E).nox (fun b=>H₁ b≠none) body mb)
  (hxb:∀(fl c':Addr) (cl:List (Str×Addr)) (H₁:Hp) (A:Around) (outer:List Env) (s:Shared) (E:XK),fA kc (A.deeper (envX (kH qual) scope s.heap.objs.size fl (.ref c') cl))->mM (Z6 X.prog X.w X.K X.mg X.base N' (kH qual) scope fl (.ref c') cl A outer s H₁ E) (fun b=>H₁ b≠none) E body xb)
  (hdb:(x==("__debug__":Str))=false:=by decide)(he:starEach [.Lambda params body scope lpos] X.env=(false,eval (.Lambda params body scope lpos) X.env)::starEach [] X.env:=by rfl)(hpl:(backTo pos (starEach [] X.env)).any (·.1)=false:=by rfl):
  ED X B (.Call (.Name x p) [.Lambda params body scope lpos] [] pos) (Fj names keep mb xb fr):=by
 intro pins s σ H Q I ⟨G,env,d,env',rl,em,k⟩;obtain⟨o,eo,e2⟩:=C8 em;obtain⟨d',ed,e3⟩:=E8 e2;cases e3;obtain⟨f,hm,hkp,o6⟩:=Rd.ex;obtain⟨more,hPs⟩:=I.base.tbls P ps0 hP;obtain⟨c,hcd,hc1,hc2⟩:=T.ex;refine Zi (BF I hg hm ?_ hdb);refine callWith_K (h₀:=X.base) I.ok.mod.kin hkp ?_ he hpl;rw[he];show wpAny _ _ (spliced ((false,eval (.Lambda params body scope lpos) X.env)::backTo pos (starEach [] X.env))) _ _ s;refine Calls.spliced_cons (TH I hcd hc1 hc2 T.tq hq T.bm hPs rl.tabs ok.clos hdef fun fl c' H1 s1 Md=>?_)
 refine Calls.spliced_nil ⟨Md.inv.kIn,?_⟩;have fR:=Md.ev B G env rl;have kl:keep.length=σ.length:=by rw[ok.klen,I.len]
 have stk:∀{b},b∈iN X.stack->b<s.heap.objs.size:=fun{b} hb=>by obtain⟨_,o,g,_⟩:=I.stack.mem hb;exact Qk g
 have L:oV X.K params body scope N' (kH qual) fl c' (M0 X.env.cells scope.names []) (J0 keep 0 σ) s1 H1 X.stack:=by
  have sub:∀{y c},(M0 X.env.cells scope.names []).lookup y=some c->X.env.cells.lookup y=some c:=fun{y c} z=>(Y6 z).elim (fun q=>by cases q) id
  refine⟨Md.obj,Md.free,fun z=>absurd (stk z) (Nat.not_lt.mpr Md.new),⟨_,Md.code,fun h p=>p qual T.tq⟩,fun y z c q1 q2=>I.ok.inj y z c (sub q1) (sub q2),fun y z=>Zl.mp (AS (Qo z) (ok.free _ (Qo z) rfl)),fun y c q=>?_,fun i y v q1 q2 q3=>?_,?_⟩
  ·obtain⟨v,oc,g1,g2⟩:=I.cell y c (sub q)
   have g:=Md.keep c oc (I.freeC y c (sub q)) g1
   refine⟨⟨v,oc,g.1,g2⟩,g.2,fun z=>?_⟩
   rcases Qg.mp (I.stkSub c z)with z|z
   ·exact I.cne y c (sub q) z
   ·obtain⟨_,o2,g3,_⟩:=I.ok.funs.mem z
    exact absurd (Qk g3) (Nat.not_lt.mpr (I.ok.cab y c (hfn y) (sub q)))
  ·obtain⟨k1,k2⟩:=AU q2
   obtain⟨h1,h2,h3⟩:=ok.kept i y k1 q1;have hfree:scope.names.lookup y=some .free:=by
    rcases q3 with z|z|z
    ·exact absurd z h2
    ·exact absurd z h3
    ·exact z
   obtain⟨m,hn,hl⟩:=I.loc;have ov:=ok.outVis i y k1 h1 hfree;obtain⟨u,r,l⟩:=hl i y v h1 k2 (.inr ov);obtain⟨c0,hc0⟩:=Zl.mp (AS (acc:=[]) (Qo hfree) (ok.free _ (Qo hfree) rfl));refine⟨hfree,c0,u,hc0,r,?_⟩
   rcases l with⟨kl,_⟩|⟨_,c1,hc1,oc,g1,g2⟩
   ·have kl':X.env.scope.names.lookup y=some .local:=kl
    rcases ov with z|z<;>(rw[z]at kl';cases kl')
   ·have hc0':=sub hc0
    rw[hc1]at hc0';cases hc0';exact⟨oc,(Md.keep c0 oc (I.freeC y c0 (sub hc0)) g1).1,g2⟩
  ·unfold J0
   rw[Zq,Yj,Zg,ok.len,ok.klen,I.len];omega
 have clo:Fg X.prog X.w X.K X.mg X.base (kc+1) fl s1 H1 X.stack o G:=
  Sy L ok.kind hco hgen hnc (fun pm ctv=>hbind _ pm c' ctv) (TQ fR.rel kl) (fun a=>TR) hx eo (fun A outer s E hr=>(hb fl c' _ H1 A outer s E hr).nox) (fun A outer s E hr=>hxb fl c' _ H1 A outer s E hr)
 refine wpAny_call (Jo (o6 X.A X.stack s1 H1 fl o G Q hr Md.inv.jA clo (Kl fR.rel) ⟨_,ed,fun v G' H' ev rp=>k v G' H' (fR.trans (CG ev (fun a=>Ff) fR.rel)) rp⟩) fun r s' hq=>?_)
 cases r with
 |error e=>exact False.elim hq
 |ok fw=>
  cases fw with
  |ret u=>exact Md.inv.after hq
  |next=>exact False.elim hq
  |brk=>exact False.elim hq
  |cont=>exact False.elim hq
end
def Ko(ts:List Addr)(H:Hp):Prop:=∀P∈ts,∃ps,H P=some (.tbl ps)
def pJ(K:Frag)(ts:List Addr)(n:Nat)(f:Fn):Sp:=fun vs H Q E=>Ko ts H/\gU K n f vs H Q E
theorem TV{P:Program}{w:World}{K:Frag}{mg:OI}{base:Heap}{x qual:Str}{st:Stmt}{f:Addr}{fd:FuncData}{N ps:List Str}{k:Nat}{mb:Mo Fl}{ts:List Addr}{cdv0:Value}(F:fT K x qual st f fd)(hcd0:fd.code=cdv0)(S:b0 N ps (D5 st))
  (hb:∀(A:Around) (outer:List Env) (s:Shared) (H:Hp) (E:XK),Ko ts H->fA k (A.deeper (envOfC qual (D5 st) s.heap.objs.size f cdv0))->
   nK (K8 gA P w K mg base N qual (D5 st) f cdv0 A outer s H E).nox (fun b=>H b≠none) (P0 st) mb):c8 P w K mg base gA (k+1) f fd ps (pJ K ts ps.length (iO N.length mb)):=by
 have hpl:ps.length≤N.length:=by have:=Yy List.length S.pre;rw[Yh]at this;omega
 obtain⟨oc,od,kV,doc,pm,an,cdv,ct,osl,rfl,lk,hcd⟩:=F.ex;obtain rfl:cdv=cdv0:=hcd0;refine Ei lk hcd S (fun vs H Q E h=>?_) (fun A outer s H vs Q E hr h=>?_)
 ·obtain⟨_,G,ws,r,ws',hl,ok,rl,_⟩:=h
  have:=rl.len;rw[Ql]at this;omega
 ·obtain⟨tb,G,ws,r,ws',hl,ok,rl,e,k⟩:=h
  have hv:ws.length=vs.length:=by have:=rl.len;rwa [Ql]at this
  refine⟨_,(hb A outer s H E tb hr).nox,?_⟩;have rl':=Cs (N:=N) rl ok (by omega)
  unfold iO at e;split at e
  ·rename_i d env em
   cases e;refine⟨G,_,_,env,rl',em,?_⟩;exact fun v σ' G' H' ev rp=>k v G' H' (AN rl ok (by omega) ev) rp
  ·rename_i ds env em
   cases e;refine⟨G,_,_,env,rl',em,?_⟩;intro a xs σ' G' H' ev nb no h' g' rp;refine k a xs G' H' (AN rl ok (by omega) ev) (Classical.byContradiction nb) ?_ h' g' rp
   rintro⟨i,w',es,e1,e2,e3⟩;obtain⟨w1,w2,q1,q2,q3⟩:=Ct e1;subst q3;obtain⟨q4,q5,q6,q7⟩:=FA (ok _ (Ys q1)) e2;have hi:i<vs.length:=by have:=(Qy.mp q1).1;omega
   exact no ⟨i,_,es,q2,q4,by rw[(ev.par i w2 q2 q5).1,U5 hi];exact e3⟩
  ·rename_i env em
   cases e;refine⟨G,_,_,env,rl',em,?_⟩;exact fun σ' G' H' ev=>k .non G' H' (AN rl ok (by omega) ev) (by simp only[a9])
  ·cases e
theorem TY{P:Program}{w:World}{K:Frag}{mg mb:OI}{k:Nat}{fa a:Addr}{fd:FuncData}{x:Str}{fn:Fn}{ts:List Addr}{s₁:Shared}{vs:List Value}{ns:List Int}
  (KX:K.In s₁.heap)(hnt:noTabs K=true)(hts:∀p∈ts,s₁.heap.get? p=some (tabObj #[]))(hcs:∀p∈ts,∃c,codeHdIn K c p=true)(hns:s₁.heap.Ns mainGlobals mg)(hb:s₁.heap.Ns builtinsNs mb)(hbb:∀x:Str,x≠"__name__"->mb x=bootBuiltins x)(hlim:s₁.heap.NoLimit)(hbm:W6 mg s₁.heap)(hg:s₁.gens= #[])
  (ha:s₁.heap.get? a=some {cls:=.type "list",data:=.seq vs.toArray})(hi:IntsAre vs ns)(hl:ns.length≤sizeLine)(hr:fA k callerA)
  (F:∀base:Heap,K.In base->base.Ns mainGlobals mg->W6 mg base->c8 P w K mg base gA k fa fd [x] (pJ K ts 1 fn))(hbind:∀(s:Shared) (u:Value),BindsTo s fd ⟨[u],[]⟩ [(x,u)])
  (ht:∃ws',fn [.dat (.lst (ns.map D.int))]=some (.d (.bl true),ws')):
  codeAny (model P w) callerA (.call (.ref fa) ⟨[.ref a],[]⟩) (fun r s'=>r=.ok (.ret (.bool true))/\OldK s₁.heap s'.heap/\s'.os=s₁.os/\AllBare s'.gens) s₁:=by
 have rv:=JB hi
 have lenV:=hi.length
 have nat:a∉ts:=fun z=>by have:=hts a z;rw[ha]at this;cases this
 have kno:∀{b:Addr}{o:Obj},K.lookup b=some o->b∉ts:=fun{b o} e z=>by
  have h2:=Yv.mp hnt (b,o) (mem_of_lookupK e)
  have h3:=KX b o e
  rw[hts b z]at h3;cases h3;cases h2
 have core:∀(H:Hp),(∀b,H b=none\/(b=a/\∃o xs,H b=some (.frz o (.lst xs)))\/(b∈ts/\H b=some (.tbl #[])))->(∀b∈ts,H b=some (.tbl #[]))->kA K H a (ns.map V.int)->j6 P w H s₁.heap->(H a≠none->K.lookup a=none)->
   codeAny (model P w) callerA (.call (.ref fa) ⟨[.ref a],[]⟩) (fun r s'=>r=.ok (.ret (.bool true))/\OldK s₁.heap s'.heap/\s'.os=s₁.os/\AllBare s'.gens) s₁:=by
  intro H hO hT hS hok hK;have base_of:∀{b:Addr}{o:Obj},s₁.heap.get? b=some o->H b=none->(U0 s₁.heap H).get? b=some o:=fun e n=>OJ e n
  have noA:∀{b:Addr}{o:Obj},s₁.heap.get? b=some o->o.cls≠.type "list"->o.cls≠.none->H b=none:=fun{b o} e d1 d2=>by
   rcases hO b with q|⟨q,_⟩|⟨q,_⟩
   ·exact q
   ·subst q;rw[ha]at e;cases e;exact absurd rfl d1
   ·rw[hts b q]at e;cases e;exact absurd rfl d2
  have noD:∀{b:Addr}{o:Obj}{es:Array DictEntry}{ep:Nat},s₁.heap.get? b=some o->o.data=.dict es ep->H b=none:=fun{b o es ep} e d=>by
   rcases hO b with q|⟨q,_⟩|⟨q,_⟩
   ·exact q
   ·subst q;rw[ha]at e;cases e;cases d
   ·rw[hts b q]at e;cases e;cases d
  have nsK:∀{b:Addr}{m:OI},s₁.heap.Ns b m->(U0 s₁.heap H).Ns b m:=fun{b m} ⟨o,es,ep,e,d,r⟩=>⟨o,es,ep,base_of e (noD e d),d,r⟩
  have hKb:K.In (U0 s₁.heap H):=fun b o e=>base_of (KX b o e) (by
   rcases hO b with q|⟨q,o',xs,z⟩|⟨q,_⟩
   ·exact q
   ·subst q;rw[hK (by rw[z];simp)]at e;cases e
   ·exact absurd q (kno e))
  have hM:Mod K mg (U0 s₁.heap H):=⟨hKb,nsK hns,⟨mb,nsK hb,hbb⟩,let ⟨mc,h1,h2⟩:=hlim;⟨mc,nsK h1,h2⟩⟩
  have hBm:W6 mg (U0 s₁.heap H):=by
   obtain⟨bm,o,b1,b2,b3,b4,b5,b6,b7⟩:=hbm;exact⟨bm,o,b1,b2,b3,base_of b4 (noA b4 (by rw[b5];simp) (by rw[b5];simp)),b5,b6,b7⟩
  have e0:kZ P w K mg (U0 s₁.heap H) callerA [] s₁ H:=⟨rfl,hM,fun b o e=>OK e,Vy (OH _ _),trivial,fun b hb=>absurd (show b∈([]:List Addr)from hb) (by simp),hok,.of_eq hg⟩
  have sp:pJ K ts 1 fn [.ref a] H (fun v _=>v=.bl true) (fun _ _ _=>False):=by
   obtain⟨ws',e⟩:=ht;refine⟨fun p hp=>⟨#[],hT p hp⟩,fun b=>if b∈ts then none else H b,[.dat (.lst (ns.map D.int))],.d (.bl true),ws',rfl,fun v hv=>.inl ?_,⟨fun b o z=>?_,rfl,fun i d z=>?_,fun i v ds e1 e2=>?_,fun i j v v' ds es a e1 e2=>?_,fun i w a e1 e2=>?_,fun b h=>h.elim,fun p ps z=>?_,fun b o z ps y=>?_⟩,e,?_⟩
   ·simp at hv;exact⟨_,hv⟩
   ·split at z
    ·cases z
    ·exact z
   ·cases i with
    |zero=>
     simp at z
     subst z;refine⟨.ref a,rfl,?_⟩;simp only[a9];refine⟨a,_,rfl,?_,FX ns⟩
     rcases hS with(q|⟨o,q⟩)|q
     ·exact .inl (.inl ((Qd nat).trans q))
     ·exact .inl (.inr ⟨o,(Qd nat).trans q⟩)
     ·exact .inr q
    |succ i=>simp at z
   ·cases i with
    |zero=>simp at e1;subst e1;cases e2
    |succ i=>simp at e1
   ·cases i with
    |zero=>simp at e1;subst e1;cases e2
    |succ i=>simp at e1
   ·cases i with
    |zero=>simp at e1;subst e1;cases e2
    |succ i=>simp at e1
   ·rcases hO p with q|⟨_,o,xs,q⟩|⟨_,q⟩
    ·rw[q]at z;cases z
    ·rw[q]at z;cases z
    ·rw[q]at z;cases z
     exact⟨trivial,fun pos v y=>by cases y⟩
   ·split at z
    ·cases z
    ·rename_i hb
     rcases hO b with q|⟨_,o',xs,q⟩|⟨q,_⟩
     ·rw[q]at z;cases z
     ·rw[q]at z;cases z;cases y
     ·exact hb q
   ·intro v G' H' _ rp
    simpa only[a9]using rp
  refine Jo ((F _ hKb (nsK hns) hBm).run callerA [] s₁ H ⟨[.ref a],[]⟩ [.ref a] [.ref a] _ _ hr e0 (hbind s₁ (.ref a)) (.cons rfl .nil) sp) fun r s' h=>?_
  cases r with
  |error e=>exact False.elim h
  |ok fl=>
   cases fl with
   |next=>exact False.elim h
   |brk=>exact False.elim h
   |cont=>exact False.elim h
   |ret u=>
    obtain⟨v,H',os,bare,un,hok',r',q⟩:=h;have q':v=.bl true:=q;subst q';obtain rfl:u=Value.bool true:=r';refine⟨rfl,⟨fun b o e=>?_,fun b o e=>un.there b o e (by simp)⟩,os,bare⟩
    rcases hO b with q|⟨_,ob,xs,z⟩|⟨hb,z⟩
    ·exact .inl (un.keep b o e q (by intro z;exact absurd (show b∈([]:List Addr)from z) (by simp)) (by simp))
    ·have z2:=un.frzs b ob _ z
     obtain⟨e1,_⟩:=hok b _ z;obtain⟨e2,_⟩:=hok' b _ z2;rw[e]at e1;cases e1;exact .inl e2
    ·obtain⟨more,z2⟩:=un.tbls b #[] z
     have e2:s'.heap.get? b=some {cls:=.none,data:=.fields (#[]++more)}:=hok' b _ z2
     have e3:=hts b hb
     rw[e]at e3;cases e3;obtain⟨c,hc⟩:=hcs b hb;exact .inr (.inl ⟨((codeHd_of_K KX hc).tab (hts b hb)).isCodeTable,rfl,#[],more,rfl,e2⟩)
 cases hk:K.lookup a with
 |some o=>
  have e:=KX a o hk
  rw[ha]at e;cases e;refine core (fun b=>if b∈ts then some (.tbl #[])else none) (fun b=>?_) (fun b hb=>Qt hb) (.inr ⟨_,vs.toArray,_,hk,rfl,rfl,rfl,by rw[Qc,lenV];exact hl,by simpa using rv⟩) (fun b u z=>?_) fun z=>absurd (Qd nat) z
  ·by_cases hb:b∈ts
   ·exact .inr (.inr ⟨hb,Qt hb⟩)
   ·exact .inl (Qd hb)
  ·dsimp only at z
   split at z
   ·rename_i hb;cases z;exact hts b hb
   ·cases z
 |none=>
  refine core (fun b=>if b=a then some (.frz {cls:=.type "list",data:=.seq vs.toArray} (.lst (ns.map V.int)))else if b∈ts then some (.tbl #[])else none) (fun b=>?_) (fun b hb=>by
   have hne:b≠a:=fun z=>nat (by rw[←z];exact hb)
   show(if b=a then _ else if b∈ts then _ else _)=_
   rw[Qd hne,Qt hb]) (.inl (.inr ⟨{cls:=.type "list",data:=.seq vs.toArray},Qt rfl⟩)) (fun b u z=>?_) fun _=>hk
  ·by_cases hb:b=a
   ·exact .inr (.inl ⟨hb,_,_,Qt hb⟩)
   ·by_cases hb2:b∈ts
    ·exact .inr (.inr ⟨hb2,by rw[Qd hb,Qt hb2]⟩)
    ·exact .inl (by rw[Qd hb,Qd hb2])
  ·dsimp only at z
   split at z
   ·rename_i hb
    cases z;subst hb;exact⟨ha,by rw[Ql];exact hl,vs,_,rv,ha⟩
   ·split at z
    ·rename_i hb;cases z;exact hts b hb
    ·cases z
theorem TZ{l:OpenLaw}{k:Nat}{q:Program}{loose:List Str}{XP:(OI)->Heap->Prop}{YP:World->Heap->Prop}{d:DefRec}{K:Params->Frag}{x:Str}{fn:Fn}{ts:List Addr}
  (hn:l.most=some 63)(hdf:d.params.defaults=[])(hr:fA k callerA)(hY:∀(w:World) (h:Heap),YP w h->(K w.params).In h/\∀p∈ts,h.get? p=some (tabObj #[]))
  (F:∀(w:World) (mg:OI) (fa:Addr) (h:Heap),(K w.params).In h->h.Ns mainGlobals mg->mg d.name=some (.ref fa)->
   ∃fd:FuncData,(∀(s:Shared) (u:Value),BindsTo s fd ⟨[u],[]⟩ [(x,u)])/\noTabs (K w.params)=true/\(∀p∈ts,∃c,codeHdIn (K w.params) c p=true)/\∀base:Heap,(K w.params).In base->base.Ns mainGlobals mg->W6 mg base->c8 l.prog w (K w.params) mg base gA k fa fd [x] (pJ (K w.params) ts 1 fn))
  (ht:∀ns:List Int,ns.length≤63->∃ws',fn [.dat (.lst (ns.map D.int))]=some (.d (.bl true),ws')):
  WalkO q loose XP YP l.row.toRowW d [] (fun f vs=>PySem.call f vs):=by
 refine Att.lW hn hdf fun w s₀ s₁ mg mb fa o pm cd doc a vs ns G Y ho hd hcd hmg hobj hints hlen hg=>?_
 obtain⟨KX,hT⟩:=hY w _ Y;obtain⟨fd,hb,hnt,hcs,hF⟩:=F w mg fa _ KX G.T.g hmg;have hbm:W6 mg s₁.heap:=by
  obtain⟨bm,ob,b1,b2,b3,b4,b5,b6⟩:=G.T.bmain;refine⟨bm,ob,b1,b2,fun z=>?_,b3,b4,b5,b6⟩
  obtain⟨o,es,ep,e,hd,_⟩:=G.T.g;rw[z,e]at b3;cases b3;rw[hd]at b6;cases b6
 exact TY KX hnt hT hcs G.T.g G.T.b G.T.builtins G.T.nolimit hbm hg hobj hints (Qe hlen (by decide)) hr hF hb (ht ns hlen)
theorem Fk{K:Frag}{S n:Str}{names:List Str}(h:V0 K S names=true)(hn:n∈names):Z2 K n=true:=let ⟨_,F⟩:=Bb h hn;F.one
def DI(K:Frag)(cd:Value)(P:Addr):Bool:=match cd with
 |.ref c=>codeHdIn K c P
 |_=>false
theorem Kq{K:Frag}{cd:Value}{P:Addr}(h:DI K cd P=true):∃c,cd=.ref c/\codeHdIn K c P=true:=by
 unfold DI at h;split at h
 ·exact⟨_,rfl,h⟩
 ·cases h
theorem Ta{K:Frag}{mg:OI}{base:Heap}{cd:Value}{qual:Str}{P:Addr}(h1:DI K cd P=true)(h2:codeIn K cd qual=true)(h3:nU K P qual=true)(hb:W6 mg base):pI K mg base cd qual P:=by
 obtain⟨c,rfl,hc⟩:=Kq h1;exact⟨⟨c,rfl,hc,h2⟩,h3,hb⟩
end L2.Mir
namespace L2.Mir
open PySem PySem.Spec PyProof.Rows PySem.W
def lP:List D->Option (List Bool)
 |[]=>some []
 |.bl i::r=>(lP r).map fun l=>i::l
 |_::_=>none
theorem Kr{K:Qq}{G:Hp}:∀{ds:List D}{xs:List V}{ns:List Bool},B9 K G xs ds->lP ds=some ns->xs=ns.map V.bl
 |[],_,ns,r,e=>by simp only[B9]at r;subst r;cases e;rfl
 |d::ds,_,ns,r,e=>by
  simp only[B9]at r;obtain⟨x,t,rfl,q,r⟩:=r;cases d<;>first|(exact absurd (show(none:Option (List Bool))=some ns from e) (by simp))|skip
  obtain⟨l,e1,e2⟩:=E8 (show(lP ds).map _=some ns from e)
  subst e2;simp only[a9]at q;subst q;rw[Kr r e1];rfl
def Fm:D->D->Option D
 |.lst ds,.bl b=>(lP ds).bind fun bs=>(bs.findIdx? fun y=>y==b).map fun(j:Nat)=>D.int (j:Int)
 |_,_=>none
section
variable{X:Cx}{B:OE}{pos:Pos}{o e:Expr}{ma mb:Mo D}
theorem Tc(ns:List Bool):(ns.map V.bl).all R7=true:=by
 induction ns with
 |nil=>rfl
 |cons n ns ih=>simp[R7,ih]
def Td(K:Frag):V->List V->Hp->VK->Prop:=fun x vs H Q=>∃(p:Addr) (bs:List Bool) (b:Bool) (j:Nat),x=.ref p/\vs=[.bl b]/\kA K H p (bs.map V.bl)/\(bs.findIdx? fun y=>y==b)=some j/\Q (.int j) H
theorem Te:rT X "list.index" (Td X.K):=by
 intro pins s σ H x vs v us Q I rx rv h;obtain⟨p,bs,b,j,rfl,rfl,hq,hj,q⟩:=h;cases rx;obtain⟨u,rfl,ru⟩:=rv.one;have ru':=ru;cases ru;obtain⟨its,r,pl,hz⟩:=I.list hq;obtain⟨⟨oc,od,odt,osl⟩,n,e,hc,hd,hdt⟩:=pl;dsimp only at hc hd hdt;subst hc hd hdt;obtain⟨hjl,hj1,hj2⟩:=List.findIdx?_eq_some_iff_getElem.mp hj;have hlen:its.length=bs.length:=by have:=r.length;simpa using this.symm
 have item:∀(m:Nat) (hm:m<its.length),its[m]=.bool (bs[m]'(by omega)):=fun m hm=>by
  obtain⟨u,h1,h2⟩:=r.get (i:=m) (x:=.bl (bs[m]'(by omega))) (by simp[show m<bs.length by omega])
  rw[Ux hm]at h1;cases h1;exact h2
 refine call_meets PySem.F.slot_list_index ⟨_,e,rfl⟩ PySem.F.entry_list_index (PySem.F.args_list_index_2 _ _)
  (SeqAt.list_indexAt p its.toArray n none osl (.bool b) (n8 (.bl b)) j (by simpa using (by omega:j<its.length)) ?_ ?_ ?_) ⟨?_,fun w hw=>CZ (x:=.bl b) ru' rfl r (Tc bs) w (by simpa using hw),⟨.int j,H,I.tok _,⟨_,rfl⟩,q⟩⟩
 ·have:its.length≤sizeLine:=by rw[hlen];simpa using hz
  rw[sizeLine_eq]at this
  omega
 ·rw[List.getElem_toArray,item j (by omega)]
  show(bs[j]==b)=true;exact hj1
 ·intro m hm hlt
  rw[List.getElem_toArray,item m (by simpa using hm)]
  show(bs[m]==b)=false;exact Bool.eq_false_iff.mpr (hj2 m hlt)
 ·exact e
theorem Ks{apos cpos:Pos}(ho:ED X B o ma)(he:ED X B e mb)
  (hbase:attributeBase o "index" X.env (eval o X.env)=eval o X.env:=by rfl)
  (hfew:((backTo cpos (starEach [e] X.env)).all (fun x=>!x.1)&&(backToKw cpos (keywordEach [] X.env)).all (fun x=>x.1.isSome)
   &&decide ([e].length+([]:List Keyword).length+(if([]:List Keyword).isEmpty then 0 else 1)<30))=true:=by rfl)
  (hline:(apos.endLine==cpos.line)=true:=by rfl)(hs:starEach [e] X.env=(false,eval e X.env)::starEach [] X.env:=by rfl)(hplain:(backTo cpos (starEach [] X.env)).any (·.1)=false:=by rfl):
  ED X B (.Call (.Attribute o "index" apos) [e] [] cpos) (C7 Fm ma mb):=by
 refine d9 (JA PySem.F.plainAttrs_list PySem.F.slot_list_index PySem.F.type_list_index Te ho (M7 he Q3 hs) hbase hfew hline hs hplain) ?_
 rintro σ H Q ⟨G,env,d,env',rl,e,k⟩;obtain⟨⟨d1,a8⟩,e1,e2⟩:=C8 e;obtain⟨⟨d2,eW⟩,e3,e4⟩:=C8 e2;obtain⟨d3,e5,e6⟩:=E8 e4;cases e6;dsimp only at e3 e5;unfold Fm at e5;split at e5
 ·rename_i ds b
  obtain⟨bs,e7,e8⟩:=C8 e5;obtain⟨j,e9,e10⟩:=E8 e8;cases e10;refine .bind rl e1 fun v G1 H1 fR r1=>?_
  simp only[a9]at r1;obtain⟨a,xs,rfl,hq,rp⟩:=r1;refine⟨.inl ⟨rfl,xs,fR.rel.sub.sqL hq⟩,.bind fR.rel e3 fun v2 G2 H2 d5 r2=>?_⟩
  simp only[a9]at r2;subst r2;have hb:=Kr rp e7;subst hb;exact⟨a,bs,b,j,rfl,rfl,(d5.same.trans d5.rel.sub).sqL hq,e9,k _ G2 H2 (fR.trans d5) (by simp only[a9])⟩
 ·cases e5
end
open AutoSeq1 (wpAny_loadPart')
section
variable{prog:Program}{w:World}{A:Around}{E:OU}{s:Shared}
end
section
variable{X:Cx}{B:OE}{pos:Pos}{a b c e:Expr}{ms:Mo (List D)}
end
section
variable{X:Cx}{B:OE}{pos:Pos}
end
end L2.Mir
namespace L2.Mir
open PySem PySem.W
structure eZ(K:Frag)(x:Str)(st:Stmt)(f:Addr)(pm:Value)(cd:Addr):Prop where
 a:nsIn K mainGlobals x=some (some (.ref f))
 l:K.lookup f=some ⟨.type "function",none,.func (fnOf x x (V8 st) (P0 st) (D5 st) .none .none .none pm none (.ref cd) .none),⟨[]⟩⟩
 c:codeIn K (.ref cd) x=true
 k:keepIn K (.ref f)=true
theorem eZ.f{K:Frag}{x:Str}{st:Stmt}{f:Addr}{pm:Value}{cd:Addr}(A:eZ K x st f pm cd):fT K x x st f (fnOf x x (V8 st) (P0 st) (D5 st) .none .none .none pm none (.ref cd) .none):=JC A.l A.c A.k
theorem eZ.g{K:Frag}{x:Str}{st:Stmt}{f:Addr}{pm:Value}{cd:Addr}{h:Heap}{mg:OI}(A:eZ K x st f pm cd)(X:K.In h)(G:h.Ns mainGlobals mg):mg x=some (.ref f):=mg_of X G A.a
theorem dM(P:Program)(w:World)(base:Heap){K:Frag}{x:Str}{st:Stmt}{f cd:Addr}{pm:Value}{k n:Nat}{fn:Fn}{fd:FuncData}{ps:List Str}{h:Heap}{mg:OI}(o:c8 P w K mg base gA k f fd ps (gU K n fn))(A:eZ K x st f pm cd)(X:K.In h)(G:h.Ns mainGlobals mg)(b:L8 K fd ps [])(e:ps.length=n:=by rfl):Def P w K mg base x k n fn:=⟨_,_,_,o,e,A.g X G,A.k,b⟩
theorem dX(P:Program)(w:World)(base:Heap){K:Frag}{x:Str}{st:Stmt}{f cd:Addr}{pm:Value}{k n:Nat}{g:List W->Option Str}{fd:FuncData}{ps:List Str}{h:Heap}{mg:OI}(o:c8 P w K mg base (iA P w) k f fd ps (j2 K n g))(A:eZ K x st f pm cd)(X:K.In h)(G:h.Ns mainGlobals mg)(b:L8 K fd ps [])(e:ps.length=n:=by rfl):gQ P w K mg base x k n g:=⟨_,_,_,o,e,A.g X G,A.k,b⟩
def S4(elt:Expr)(gens:List Comprehension)(scope:Scope)(pos:Pos)(d:Nat)(acc:Value)(env:Env):Sem Unit:=match gens[d+1]? with
 |some g'=>do
  let x←eval g'.iter env
  standAt g'.iter.pos
  let x←if g'.is_async !=0 then foldedIterable g'.iter x else foldedSetIterable g'.iter env x
  let _←runOwn (.compStart (.ListComp elt gens scope pos) (d+1) (←holding [x] (if g'.is_async !=0 then asyncIter x else pyIter x)) acc env) env
 |none=>do let _←call (.builtin "list.append") [acc,←eval elt env]
theorem Tf{elt target iter:Expr}{ifs:List Expr}{gens:List Comprehension}{scope:Scope}{pos:Pos}{d:Nat}{it acc:Value}{env:Env}(hd:gens[d]? =some ⟨target,iter,ifs,0⟩):
  compTurn (.ListComp elt gens scope pos) d it acc env=(do
   standAt iter.pos
   match←pyNext it with
   |none=>pure (.done .next)
   |some v=>
    letOwnedTupleGo target it v
    assign target env v
    let mut ok:=true
    for c in ifs do
     if ok then ok←isTrue c env (eval c env)
    if ok then
     S4 elt gens scope pos d acc env
    again (.compLoop (.ListComp elt gens scope pos) d it acc env)):=by
 unfold compTurn S4;dsimp only;rw[hd];cases gens[d+1]? with
 |none=>rfl
 |some g'=>
  show(standAt iter.pos>>=fun _=>pyNext it>>=fun r=>_)=_
  refine Yy (standAt iter.pos>>= ·) (funext fun _=>Yy (pyNext it>>= ·) (funext fun r=>?_))
  cases r with
  |none=>rfl
  |some v=>
   refine Yy (letOwnedTupleGo target it v>>= ·) (funext fun _=>Yy (assign target env v>>= ·) (funext fun _=>Yy (_>>= ·) (funext fun ok=>?_)))
   cases ok with
   |false=>rfl
   |true=>
    by_cases ha:(g'.is_async !=0)=true
    ·simp only[ha,Zd,bind_assoc,Us]
    ·simp only[ha,Zd,Yz,bind_assoc,Us,Zz]
section
variable{prog:Program}{w:World}{A:Around}{R:Result->Shared->Prop}{s:Shared}
theorem Kt{elt target iter:Expr}{ifs:List Expr}{gens:List Comprehension}{scope:Scope}{pos:Pos}{d:Nat}{it acc:Value}{env:Env}(hd:gens[d]? =some ⟨target,iter,ifs,0⟩)(I:Nat->Shared->Prop)
  (turn:∀n s,I n s->wpAny (model prog w) A (pyNext it) (fun r s₁=>match r with
   |none=>R (.ok .next) s₁
   |some v=>wpAny (model prog w) A (letOwnedTupleGo target it v) (fun _ s₁'=>wpAny (model prog w) A (assign target env v) (fun _ s₂=>
     wpAny (model prog w) A (forIn ifs true fun c r=>if r=true then do let ok←isTrue c env (eval c env);pure (ForInStep.yield ok)else pure (ForInStep.yield r)) (fun ok s₃=>
      if ok=true then wpAny (model prog w) A (S4 elt gens scope pos d acc env) (fun _ s₅=>∃m,m<n/\I m s₅) (fun _ _=>False) s₃
      else∃m,m<n/\I m s₃) (fun _ _=>False) s₂) (fun _ _=>False) s₁') (fun _ _=>False) s₁) (fun _ _=>False) s)
  (n:Nat)(h:I n s):
  codeAny (model prog w) A (.compLoop (.ListComp elt gens scope pos) d it acc env) R s:=by
 refine codeAny_loop rfl I (fun n s hI=>?_) n h
 show wpAny _ A ((compTurn (.ListComp elt gens scope pos) d it acc env).onRaise (fun x=>do noteFrame x env;theTreesLotGoes x)) _ _ s
 refine wpAny_noted ?_
 rw[Tf hd];refine Qz (Ye (Qz (Qb (turn n s hI) (fun r s₁ h₁=>?_) fun _ _ h'=>h'.elim)))
 cases r with
 |none=>exact Qx h₁
 |some v=>
  refine Qz (Qb h₁ (fun _ s₁' h₁'=>?_) fun _ _ h'=>h'.elim)
  refine Qz (Qb h₁' (fun _ s₂ h₂=>Qz (Qb h₂ (fun ok s₃ h₃=>?_) fun _ _ h'=>h'.elim)) fun _ _ h'=>h'.elim)
  cases ok with
  |false=>exact Qx ⟨rfl,h₃⟩
  |true=>exact Qz (Qb h₃ (fun _ s₅ h₅=>Qx ⟨rfl,h₅⟩) fun _ _ h'=>h'.elim)
theorem Tg{elt target iter:Expr}{ifs:List Expr}{gens:List Comprehension}{scope:Scope}{pos:Pos}{d:Nat}{it acc:Value}{env:Env}(hd:gens[d]? =some ⟨target,iter,ifs,0⟩)
  (h0:codeAny (model prog w) A (.compLoop (.ListComp elt gens scope pos) d it acc env) R s)
  (h:wpAny (model prog w) A (pyIter it) (fun it' s'=>codeAny (model prog w) A (.compLoop (.ListComp elt gens scope pos) d it' acc env) R s')
   (notedBy (model prog w) A env fun x s'=>R (.error x) s') s):
  codeAny (model prog w) A (.compStart (.ListComp elt gens scope pos) d it acc env) R s:=by
 refine codeAny_of_tree ?_
 show wpAny _ _ ((compStart (.ListComp elt gens scope pos) d it acc env).onRaise (fun x=>do noteFrame x env;standAt theWindowsPlace)) _ _ s
 refine wpAny_notedAt ?_
 unfold compStart;rw[show clausesOf (.ListComp elt gens scope pos)=gens from rfl,hd]
 show wpAny _ _ (ask>>=_) _ _ s;refine Qz (wpAny_askSetting (wpAny_ite ?_));split
 ·first
   |exact Qz (Qx (Qx (And.intro rfl h0)))
   |exact Qx (And.intro rfl h0)
 ·first
   |exact Qz (Jm (Qz (Ye (Qz (Qb h (fun it' s' h'=>Qx (And.intro rfl h')) fun _ _ x=>x)))))
   |(refine Qz (Jm ?_);show wpAny _ _ (standAt iter.pos>>=_) _ _ s;exact Qz (Ye (Qz (Qb h (fun it' s' h'=>Qx (And.intro rfl h')) fun _ _ x=>x))))
end
abbrev S5:=St->Hp->(St->Hp->Prop)->Prop
def DJ(J:It)(g:TG)(tt:TT)(act:S5)(σ₀:St)(H₀:Hp)(Q:St->Hp->Prop):Prop:=
 ∃W:Nat->Nat->St->Hp->Prop,(∃m,W 0 m σ₀ H₀)/\∀i m σ H,W i m σ H->
  (J.stop i H/\Q σ H)\/(J.go i H/\∀x H',J.yld i H x H'->g x σ H' fun σ2 H2=>tt σ2 H2 fun b H3=>
   if b=true then act σ2 H3 fun σ4 H4=>∃m',m'<m/\W (i+1) m' σ4 H4 else∃m',m'<m/\W (i+1) m' σ2 H3)
def W7(X:Cx)(sem:Sem Unit)(act:S5):Prop:=∀(pins:OA) (s:Shared) (σ:St) (H:Hp) (Q:St->Hp->Prop),Inv X pins σ H s->act σ H Q->
 wpAny (model X.prog X.w) X.A sem (fun _ s'=>∃σ' H',Inv X pins σ' H' s'/\Q σ' H') (fun _ _=>False) s
def Ku(te:TE)(p:Addr):S5:=fun σ H Q=>te σ H fun y H4=>∃ys,H4 p=some (.lst ys)/\ys.length<sizeLine/\Q σ (upd H4 p (.lst (ys++[y])))
def Kv(wi:TI)(g:TG)(tt:TT)(act:S5):S5:=fun σ H Q=>wi σ H fun J H1=>DJ J g tt act σ H1 Q
section
variable{X:Cx}{elt:Expr}{gens:List Comprehension}{scope:Scope}{pos:Pos}{d:Nat}
theorem Th{te:TE}{p:Addr}(hx:∀e s,¬ X.xe e s)(hn:gens[d+1]? =none)(he:PE X elt te):W7 X (S4 elt gens scope pos d (.ref p) X.env) (Ku te p):=by
 intro pins s σ H Q I h;unfold S4;rw[hn];refine Qz (Qb (he pins s σ H _ I h) (fun v s1 ⟨y,H1,I1,r1,ys,hys,hl,q⟩=>?_) fun e s' z=>(hx e s' z).elim)
 refine Qz (Qb (Ca (X:=X) _ s1 σ H1 (.ref p) [y] (.ref p) [v] (fun _ H2=>Q σ H2) I1 rfl (.cons r1 .nil) ⟨p,ys,y,rfl,rfl,hys,hl,q⟩) (fun _ s2 ⟨_,H2,I2,_,w2⟩=>Qx ⟨σ,H2,I2,w2⟩) fun e s' z=>(hx e s' z).elim)
theorem Ti{tg iter:Expr}{ifs:List Expr}{wi:TI}{g:TG}{tt:TT}{act:S5}{acc:Value}(hx:∀e s,¬ X.xe e s)(hc:X.calm=true)(hd:gens[d+1]? =some ⟨tg,iter,ifs,0⟩)(hi:PI X tg iter wi)(hg:PG X tg g)(ht:N9 X ifs tt)
  (ha:W7 X (S4 elt gens scope pos (d+1) acc X.env) act)(hs:∀x,foldedSetIterable iter X.env x=pure x):W7 X (S4 elt gens scope pos d acc X.env) (Kv wi g tt act):=by
 intro pins s σ H Q I h;unfold S4;rw[hd];have nof:∀(e:Value) (s:Shared),X.xe e s->False:=fun e s z=>hx e s z
 refine Qz (Qb (hi pins s σ H _ I h) (fun v s1 h1=>?_) fun e s' z=>(hx e s' z).elim)
 refine Qz (Ye ?_);show wpAny _ _ (foldedSetIterable iter X.env v>>=_) _ _ s1;refine Qz (wpAny_of_eq (hs v) ?_);show wpAny _ _ (holding [v] (pyIter v)>>=_) _ _ s1;refine Qz (Yt (Qb h1 (fun itv s2 h2=>?_) fun e s' z=>(hx e s' z).elim))
 obtain⟨it,fp,tn,J,H2,e,I2,T,st2,f2,W,⟨m0,w0⟩,turn⟩:=h2;subst e;have stat:∀{H':Hp},(∀b∈fp,H' b=none)->∀b∈fp,J4 X pins H' b:=fun hn b hb=>⟨hn b hb,(f2 b hb).2⟩
 have loop:codeAny (model X.prog X.w) X.A (.compLoop (.ListComp elt gens scope pos) (d+1) (.ref it) acc X.env) (fun r s'=>match r with|.ok f=>wpAny (model X.prog X.w) X.A (pure ()) (fun _ s'=>∃σ' H',Inv X pins σ' H' s'/\Q σ' H') (fun _ _=>False) s'|.error e=>cameBackBy (model X.prog X.w) X.A X.env (fun _ _=>False) e s') s2:=by
  refine Kt hd (fun n s'=>∃i σ' H',Inv X pins σ' H' s'/\tn i s'.heap/\(∀b∈fp,H' b=none)/\W i n σ' H') ?_ m0 ⟨0,σ,H2,I2,st2,fun b hb=>(f2 b hb).1,w0⟩
  rintro n s3 ⟨i,σ3,H3,I3,st3,fr3,w3⟩
  rcases turn i n σ3 H3 w3 with⟨stop,qn⟩|⟨go,step⟩
  ·refine Qb (T.done X rfl rfl rfl hc i pins s3 σ3 H3 (fun _ _=>False) I3 (stat fr3) st3 stop) (fun r s4 ⟨hr,I4⟩=>?_) fun _ _ z=>z
   subst hr;exact Qx ⟨σ3,H3,I4,qn⟩
  ·refine Qb (T.item X rfl rfl rfl hc i pins s3 σ3 H3 (fun _ _=>False) I3 (stat fr3) st3 go) (fun r s4 ⟨u,hr,h4⟩=>?_) fun _ _ z=>z
   subst hr;refine Qb h4 (fun _ s5 ⟨x,H5,I5,r5,y5,st5,fr5⟩=>?_) fun _ _ z=>z
   have I5':=I5.pinned (stat fr5) (T.obj _ _ st5)
   have back:∀{σ8:St}{H8:Hp}{s8:Shared}{m':Nat},Inv X (pins++X4 fp s5.heap) σ8 H8 s8->m'<n->W (i+1) m' σ8 H8->∃m,m<n/\∃i σ' H',Inv X pins σ' H' s8/\tn i s8.heap/\(∀b∈fp,H' b=none)/\W i m σ' H':=fun{σ8 H8 s8 m'} I8 hm w8=>by
    refine⟨m',hm,i+1,σ8,H8,I8.unpinned,T.keep _ _ _ st5 fun b hb o e=>(I8.pin (b,o) (Qm _ (Qm _ (U2 hb e)))).1,fun b hb=>?_,w8⟩
    obtain⟨o,e,d⟩:=T.obj _ _ st5 b hb;exact(I8.pin (b,o) (Qm _ (Qm _ (U2 hb e)))).2.1
   refine Qb (hg _ s5 σ3 H5 x u _ I5' r5 (step x H5 y5)) (fun _ s6 ⟨σ6,H6,I6,q6⟩=>?_) nof
   refine Qb (ht _ s6 σ6 H6 _ I6 q6) (fun b s7 ⟨H7,I7,q7⟩=>?_) nof
   cases b with
   |false=>
    simp only[Zz,Yz]at q7 ⊢;obtain⟨m',hm,w7⟩:=q7;exact back I7 hm w7
   |true=>
    simp only[Zd]at q7 ⊢;exact Qb (ha _ s7 σ6 H7 _ I7 q7) (fun _ s8 ⟨σ8,H8,I8,m',hm,w8⟩=>back I8 hm w8) fun _ _ z=>z
 refine Qz (wpAny_runOwn (h:=none) (Tg hd loop (Qb (T.self X.A 0 s2 _ (fun _ _=>False) st2 loop) (fun _ _ q=>q) fun _ _ q=>q.elim)))
end
section
variable{X:Cx}{N':List Str}{scope:Scope}{keep:List Bool}{more:Nat}{tg iter elt:Expr}{ifs:List Expr}{gs:List Comprehension}{g:TG}{tt:TT}{act:Addr->S5}{pos:Pos}
theorem Kw{E:OU}{pins:OA}{σ:St}{H:Hp}{s:Shared}{it:Addr}{fp:List Addr}{tn:Nat->Heap->Prop}{J:It}{Qf:Addr->Hp->Prop}{RR:Value->Addr->Result->Shared->Prop}
  (ok:gM X N' scope keep more)(hc:X.calm=true)(hg:∀s H fp,PG (D7 X N' scope s H fp) tg g)(ht:∀s H fp,N9 (D7 X N' scope s H fp) ifs tt)(he:∀s H fp p,W7 (D7 X N' scope s H fp) (S4 elt (⟨tg,iter,ifs,0⟩::gs) scope pos 0 (.ref p) (D7 X N' scope s H fp).env) (act p))
  (I:Inv X pins σ H s)(T:Turn X.prog X.w X.K tg J fp it tn)(st:tn 0 s.heap)(hf:∀b∈fp,J4 X pins H b)
  (run:∀p,H p=none->DJ J g tt (act p) (J0 keep more σ) (upd H p (.lst [])) (fun _ H'=>Qf p H'))
  (hRR:∀p C s' H' m,Inv X pins σ H' s'->Qf p H'->s'.heap.Ns C m->C≠X.env.locals->(∀x c,X.env.cells.lookup x=some c->c≠C)->H' C=none->(∀σ'' H'' s'' h',Inv X pins σ'' H'' s''->H'' C=none->Heap.SameBut C s''.heap h'->Inv X pins σ'' H'' {s'' with heap:=h'})->RR (.ref p) C (.ok .next) s'):
  wpAny (model X.prog X.w) X.A (newList []) (fun acc s₃=>wpAny (model X.prog X.w) X.A (newFunctionEnv scope X.env.globals (M0 X.env.cells scope.names []) [] X.env.qual none .none (some X.env)) (fun cenv s₄=>
   codeAny (model X.prog X.w) X.A (.compStart (.ListComp elt (⟨tg,iter,ifs,0⟩::gs) scope pos) 0 (.ref it) acc {cenv with scope:=relabel scope X.env}) (RR acc cenv.locals) s₄) E s₃) E s:=by
 have hp0:H s.heap.objs.size=none:=I.hok.fresh (Qv _)
 refine Yq ?_
 have I3:Inv X pins σ (upd H s.heap.objs.size (.lst [])) {s with heap:=s.heap.push {cls:=.type "list",dict:=none,data:=.seq ([]:List Value).toArray}}:=
  I.laid (t':=s.toks) (fun b u e=>Qj _ e) (Qv _) ⟨Yb _,[],0,.nil,Qw _ rfl⟩
 have fpOld:∀b∈fp,b<s.heap.objs.size:=fun b hb=>by
  obtain⟨o,e,_⟩:=T.obj 0 _ st b hb;exact Qk e
 have hf3:∀b∈fp,J4 X pins (upd H s.heap.objs.size (.lst [])) b/\b<(s.heap.push {cls:=.type "list",dict:=none,data:=.seq ([]:List Value).toArray}).objs.size:=fun b hb=>by
  refine⟨⟨by rw[C4 (Qh (fpOld b hb))];exact(hf b hb).1,(hf b hb).2⟩,?_⟩
  rw[Zy];exact Jx (fpOld b hb)
 have st3:tn 0 (s.heap.push {cls:=.type "list",dict:=none,data:=.seq ([]:List Value).toArray}):=T.keep 0 _ _ st fun b hb o e=>Qj _ e
 generalize hs3:({s with heap:=s.heap.push {cls:=.type "list",dict:=none,data:=.seq ([]:List Value).toArray}}:Shared)=s3 at I3 ⊢
 have hs3h:s3.heap=s.heap.push {cls:=.type "list",dict:=none,data:=.seq ([]:List Value).toArray}:=by rw[←hs3]
 rw[←hs3h]at hf3 st3;generalize hp:s.heap.objs.size=p at hp0 I3 hf3 ⊢;generalize hH3:upd H p (.lst [])=H3 at I3 hf3;refine FH _ ?_
 have I4:=FG ok I3 hf3
 generalize hs4:({s3 with heap:=pushCells (s3.heap.push {cls:=.type "dict",data:=.dict #[]}) scope.names}:Shared)=s4 at I4 ⊢
 have st4:tn 0 s4.heap:=T.keep 0 _ _ st3 fun b hb o e=>by rw[←hs4];exact Jh _ _ _ _ (Qj _ e)
 obtain⟨W,⟨m0,w0⟩,turn⟩:=run p hp0;have stat:∀{H':Hp},(∀b∈fp,H' b=none)->∀b∈fp,J4 (D7 X N' scope s3 H3 fp) [] H' b:=fun hn b hb=>by
  have z:=I4.ok.exf b hb
  exact⟨hn b hb,z.1,I4.ok.exfs b hb,.inl hb,z.2,fun p hp=>absurd (show p∈([]:OA)from hp) (by simp)⟩
 have loop:codeAny (model X.prog X.w) X.A (.compLoop (.ListComp elt (⟨tg,iter,ifs,0⟩::gs) scope pos) 0 (.ref it) (.ref p) (T3 scope X.env s3.heap.objs.size)) (RR (.ref p) s3.heap.objs.size) s4:=by
  refine Kt (d:=0) rfl (fun n s'=>∃i σ' H',Inv (D7 X N' scope s3 H3 fp) [] σ' H' s'/\tn i s'.heap/\(∀b∈fp,H' b=none)/\W i n σ' H') ?_ m0 ⟨0,_,H3,I4,st4,fun b hb=>(hf3 b hb).1.1,by rw[←hH3];exact w0⟩
  rintro n s5 ⟨i,σ5,H5,I5,st5,fr5,w5⟩
  rcases turn i n σ5 H5 w5 with⟨stop,qf⟩|⟨go,step⟩
  ·refine eV (T.done (D7 X N' scope s3 H3 fp) rfl rfl rfl hc i [] s5 σ5 H5 (fun _ _=>False) I5 (stat fr5) st5 stop) fun r s6 ⟨hr,I6⟩=>?_
   subst hr;obtain⟨m6,hn6,_⟩:=I6.loc;have hch:∀b∈fp,(b∈X.ex\/X.s₀.heap.objs.size≤b)/\b≠X.env.locals/\(∀x c,X.env.cells.lookup x=some c->c≠b)/\∀p∈X.pn++pins,p.1≠b:=fun b hb=>by
    obtain⟨_,f1,_,f3,f4,f5⟩:=hf b hb;exact⟨f3,f1,f4,f5⟩
   have IX:Inv X pins σ H5 s6:=I3.call' (s':=s6) (I6.os) (I6.base) I6.hok I6.bare hch
   have szC:X.s₀.heap.objs.size≤s3.heap.objs.size:=I3.sz
   have hCL:s3.heap.objs.size≠X.env.locals:=Js I3.lt
   have hCc:∀x c,X.env.cells.lookup x=some c->c≠s3.heap.objs.size:=fun x c e=>by
    obtain⟨v,q⟩:=I3.cell x c e;exact Qh q.lt
   have hCp:∀q∈X.pn++pins,q.1≠s3.heap.objs.size:=fun q hq=>Qh (Qk (I3.pin q hq).1)
   refine hRR p s3.heap.objs.size s6 H5 m6 IX qf hn6 hCL hCc I6.free fun σ'' H'' s'' h' I'' hn hs=>?_
   exact I''.turned (t':=s''.toks) (it:=s3.heap.objs.size) (fun b o hb e=>(hs.2 b hb).trans e) hn hCL (.inr szC) hCc hCp
  ·refine eV (T.item (D7 X N' scope s3 H3 fp) rfl rfl rfl hc i [] s5 σ5 H5 (fun _ _=>False) I5 (stat fr5) st5 go) fun r s6 ⟨u,hr,h6⟩=>?_
   subst hr;refine eV h6 fun _ s7 ⟨x,H7,I7,r7,y7,st7,fr7⟩=>?_
   have I7':=I7.pinned (stat fr7) (T.obj _ _ st7)
   have back:∀{σ8:St}{H8:Hp}{s8:Shared}{m':Nat},Inv (D7 X N' scope s3 H3 fp) ([]++X4 fp s7.heap) σ8 H8 s8->m'<n->W (i+1) m' σ8 H8->∃m,m<n/\∃i σ' H',Inv (D7 X N' scope s3 H3 fp) [] σ' H' s8/\tn i s8.heap/\(∀b∈fp,H' b=none)/\W i m σ' H':=fun{σ8 H8 s8 m'} I8 hm w8=>by
    refine⟨m',hm,i+1,σ8,H8,I8.unpinned,T.keep _ _ _ st7 fun b hb o e=>(I8.pin (b,o) (Qm _ (Qm _ (U2 hb e)))).1,fun b hb=>?_,w8⟩
    obtain⟨o,e,d⟩:=T.obj _ _ st7 b hb;exact(I8.pin (b,o) (Qm _ (Qm _ (U2 hb e)))).2.1
   refine eV (hg s3 H3 fp _ s7 σ5 H7 x u _ I7' r7 (step x H7 y7)) fun _ s8 ⟨σ8,H8,I8,q8⟩=>?_
   refine eV (ht s3 H3 fp _ s8 σ8 H8 _ I8 q8) fun b s9 ⟨H9,I9,q9⟩=>?_
   cases b with
   |false=>
    simp only[Zz,Yz]at q9 ⊢;obtain⟨m',hm,w9⟩:=q9;exact back I9 hm w9
   |true=>
    simp only[Zd]at q9 ⊢;exact eV (he s3 H3 fp p _ s9 σ8 H9 _ I9 q9) fun _ s10 ⟨σ10,H10,I10,m',hm,w10⟩=>back I10 hm w10
 refine codeAny_compStart_list loop ?_
 exact Qb (T.self X.A 0 s4 _ (fun _ _=>False) st4 loop) (fun _ _ q=>q) fun _ _ q=>q.elim
def Fo(wi:TI)(keep:List Bool)(more:Nat)(g:TG)(tt:TT)(act:Addr->S5):TE:=fun σ H Q=>wi σ H fun J H1=>∀p,H1 p=none->DJ J g tt (act p) (J0 keep more σ) (upd H1 p (.lst [])) (fun _ H'=>Q (.ref p) H')
theorem Tj{wi:TI}(ok:gM X N' scope keep more)(hc:X.calm=true)(hi:PI X tg iter wi)(hg:∀s H fp,PG (D7 X N' scope s H fp) tg g)(ht:∀s H fp,N9 (D7 X N' scope s H fp) ifs tt)
  (he:∀s H fp p,W7 (D7 X N' scope s H fp) (S4 elt (⟨tg,iter,ifs,0⟩::gs) scope pos 0 (.ref p) (D7 X N' scope s H fp).env) (act p))
  (hs:∀x,foldedSetIterable iter X.env x=pure x:=by intro _;rfl):PE X (.ListComp elt (⟨tg,iter,ifs,0⟩::gs) scope pos) (Fo wi keep more g tt act):=by
 intro pins s σ H Q I h;rw[eval_ListComp];refine Jp (use:=none) rfl hs ok.clos ok.kind (fun x hx hl=>by have:=ok.uniq x hx;rwa [hl]at this) (eV (hi pins s σ H _ I h) fun v s1 h1=>eV h1 fun itv s2 h2=>?_)
 obtain⟨it,fp,tn,J,H2,e,I2,T,st2,f2,run⟩:=h2;subst e;refine Kw (Qf:=fun p H'=>Q (.ref p) H') (RR:=fun acc C=>compPost (model X.prog X.w) X.A X.xe none (EP X pins σ Q) acc C) ok hc hg ht he I2 T st2 f2 run ?_
 intro p C s' H' m IX qf hn hCL hCc hCn turn;exact⟨m,hn,fun h' hs'=>⟨.ref p,H',turn σ H' s' h' IX hCn hs',rfl,qf⟩⟩
end
def Q1(m:Mo D):Mo (List D):=fun env=>(m env).map fun q=>([q.1],q.2)
def T5(g:OX)(t:Mo Bool)(a:Mo (List D)):List D->Mo (List D)
 |[],env=>some ([],env)
 |d::ds,env=>(g d env).bind fun e1=>(t e1).bind fun p=>if p.1 then(a p.2).bind fun q=>(T5 g t a ds q.2).map fun r=>(q.1++r.1,r.2)else T5 g t a ds p.2
def qI(mi:Mo (List D))(g:OX)(t:Mo Bool)(a:Mo (List D)):Mo (List D):=fun env=>(mi env).bind fun p=>T5 g t a p.1 p.2
def W8(mi:Mo (List D))(keep:List Bool)(more:Nat)(g:OX)(t:Mo Bool)(a:Mo (List D)):Mo (List D):=fun env=>(mi env).bind fun p=>
 (T5 g t a p.1 (N1 keep more p.2)).bind fun q=>if q.1.length≤100000 then(O6 keep p.2 q.2).map fun e=>(q.1,e)else none
theorem Tl{H:Hp}{p:Addr}{o:HO}(h:H p=some o):upd H p o=H:=by
 funext b
 by_cases hb:b=p
 ·subst hb;rw[D9,h]
 ·rw[C4 hb]
section
variable{K:Qq}{B:OE}{n:Nat}
def oW(K:Qq)(B:OE)(n:Nat)(a:Mo (List D))(p:Addr):S5:=fun σ H Q=>∃G env zs env' ys,Rel K B G σ env H/\ ¬ d6 σ env p/\G p=none/\H p=some (.lst ys)/\a env=some (zs,env')/\ys.length+zs.length≤100000/\
 ∀σ' G' H' vs,Ev K B G σ env (upd H p (.lst (ys++vs))) G' σ' env' H'->(∀j,j<n->σ'[j]? =σ[j]?)->H' p=some (.lst (ys++vs))->B9 K G' vs zs->Q σ' H'
theorem Tn{m:Mo D}{p:Addr}:∀σ H Q,oW K B n (Q1 m) p σ H Q->Ku (TD K B m) p σ H Q:=by
 rintro σ H Q ⟨G,env,zs,env',ys,rl,no,gp,hp,e,hl,k⟩;obtain⟨⟨d,a8⟩,e1,e2⟩:=E8 e;cases e2;refine⟨G,env,d,a8,rl,e1,fun v G' H' ev r=>?_⟩
 have hp':H' p=some (.lst ys):=ev.keep p _ no gL hp
 refine⟨ys,hp',Qu (by simp at hl;omega) (show 100000≤sizeLine by decide),?_⟩
 exact k σ G' _ [v] (ev.swapAt no (by rw[hp];simp) gp gL (fun φ z=>by rw[hp']at z;cases z)) (fun _ _=>rfl) D9 (fB r eY)
theorem Kx{g:OX}{t:Mo Bool}{a:Mo (List D)}{p:Addr}{J:It}{G1:Hp}{σ:St}{a8 envF:c7}{H1:Hp}{items zs:List D}{ys:List V}{Q:St->Hp->Prop}(rl:Rel K B G1 σ a8 H1)(itd:pA K J G1 items)(no:¬ d6 σ a8 p)(gp:G1 p=none)
  (hp:H1 p=some (.lst ys))(e3:T5 g t a items a8=some (zs,envF))(hl:ys.length+zs.length≤100000)
  (k:∀σ' G' H' vs,Ev K B G1 σ a8 (upd H1 p (.lst (ys++vs))) G' σ' envF H'->(∀j,j<n->σ'[j]? =σ[j]?)->H' p=some (.lst (ys++vs))->B9 K G' vs zs->Q σ' H'):
  DJ J (oU K B n g) (lK K B t) (oW K B n a p) σ H1 Q:=by
 have hpS:∀us,(upd H1 p (.lst us)) p=some (.lst us):=fun us=>D9
 refine⟨fun i m' σ2 H2=>m'=items.length-i/\i≤items.length/\∃G2 eW vs acc rest,Ev K B G1 σ a8 (upd H1 p (.lst (ys++vs))) G2 σ2 eW H2/\(∀j,j<n->σ2[j]? =σ[j]?)/\
   B9 K G2 vs acc/\T5 g t a (items.drop i) eW=some (rest,envF)/\acc++rest=zs,⟨_,rfl,Yb _,G1,a8,[],[],zs,?_,fun _ _=>rfl,eY,by simpa using e3,by simp⟩,?_⟩
 ·rw[Yr,Tl hp];exact .refl rl
 rintro i m' σ2 H2 ⟨rfl,hi,G2,eW,vs,acc,rest,d5,y2,r2,c2,t2⟩;have hp2:H2 p=some (.lst (ys++vs)):=d5.keep p _ no gL (hpS _);have lH:Le G1 H2:=d5.same.trans d5.rel.sub
 by_cases hlt:i<items.length
 ·refine .inr ⟨itd.go i H2 lH hlt,fun x H3 y=>?_⟩
  have ed:items.drop i=items[i]::items.drop (i+1):=Jv hlt
  rw[ed]at c2;obtain⟨kX,e7,e8⟩:=C8 c2;obtain⟨⟨b,k7⟩,e9,e10⟩:=C8 e8;have hget:items[i]? =some items[i]:=by simp[hlt]
  have st:∃G3,Ev K B G1 σ a8 (upd H1 p (.lst (ys++vs))) G3 σ2 eW H3/\Le G2 G3/\a9 K G3 x items[i]:=by
   rcases itd.yld i H2 x H3 items[i] lH y hget with⟨rfl,r⟩|⟨q,o,hno,hq,rfl,r⟩
   ·exact⟨G2,d5,Le.refl,a9.mono d5.same _ r⟩
   ·have gq:=d5.rel.gnone hq
    refine⟨upd G2 q o,d5.trans (d5.rel.alloc hq hno),Le.upd gq,a9.mono (fun b u z=>?_) _ r⟩
    by_cases hb2:b=q
    ·subst hb2;rw[D9]at z ⊢;exact z
    ·rw[C4 hb2]at z ⊢;exact d5.same b u z
  obtain⟨G3,iS,l3,r3⟩:=st;refine⟨G3,eW,items[i],kX,iS.rel,r3,e7,fun σ4 G4 H4 kI y4=>?_⟩
  refine⟨G4,kX,b,k7,kI.rel,e9,fun G5 H5 lC=>?_⟩
  have j0:=(iS.trans kI).trans lC
  have r5:B9 K G5 vs acc:=B9.mono ((l3.trans kI.same).trans lC.same) acc r2
  have y5:∀j,j<n->σ4[j]? =σ[j]?:=fun j hj=>(y4 j hj).trans (y2 j hj)
  have qQ:H5 p=some (.lst (ys++vs)):=j0.keep p _ no gL (hpS _)
  cases b with
  |true=>
   simp only[Zd]at e10 ⊢;obtain⟨⟨z7,nG⟩,e11,e12⟩:=C8 e10;obtain⟨⟨rest8,rZ⟩,e13,e14⟩:=E8 e12;cases e14;have lz:zs.length=acc.length+(z7.length+rest8.length):=by rw[←t2];simp
   have no5:¬ d6 σ4 k7 p:=fun z=>(j0.sub p z).elim no fun q=>by rw[hpS]at q;cases q
   refine⟨G5,k7,z7,nG,ys++vs,lC.rel,no5,j0.stay p (by rw[hpS];simp) no gp,qQ,e11,by rw[Zq,r2.length];omega,fun σ6 G6 H6 us nV y7 h7 r7=>?_⟩
   have nx:∀φ,H5 p≠some (.ext φ):=fun φ z=>by rw[qQ]at z;cases z
   have sw:=j0.swapAt (o:=.lst (ys++vs++us)) no (by rw[hpS];simp) gp gL nx
   rw[CS]at sw;refine⟨items.length-(i+1),by omega,rfl,hlt,G6,nG,vs++us,acc++z7,rest8,?_,fun j hj=>(y7 j hj).trans (y5 j hj),(B9.mono nV.same acc r5).append r7,e13,by rw[Vw];exact t2⟩
   rw[←Vw];exact sw.trans nV
  |false=>
   simp only[Zz,Yz]at e10 ⊢;exact⟨items.length-(i+1),by omega,rfl,hlt,G5,k7,vs,acc,rest,j0,y5,r5,e10,t2⟩
 ·have ei:i=items.length:=by omega
  subst ei;rw[Ud]at c2;cases c2;rw[Yr]at t2;subst t2;exact .inl ⟨itd.stop _ H2 lH (Qv _),k σ2 G2 H2 vs d5 y2 hp2 r2⟩
theorem To{mi:Mo (List D)}{g:OX}{t:Mo Bool}{a:Mo (List D)}{p:Addr}:∀σ H Q,oW K B n (qI mi g t a) p σ H Q->Kv (pN K B mi) (oU K B n g) (lK K B t) (oW K B n a p) σ H Q:=by
 rintro σ H Q ⟨G,env,zs,env',ys,rl,no,gp,hp,e,hl,k⟩;obtain⟨⟨items,a8⟩,e1,e2⟩:=C8 e;refine⟨G,env,items,a8,rl,e1,fun J G1 H1 fR itd=>?_⟩
 have hp1:H1 p=some (.lst ys):=fR.keep p _ no gL hp
 refine Kx fR.rel itd (fun z=>(fR.sub p z).elim no fun q=>by rw[hp]at q;cases q) (fR.stay p (by rw[hp];simp) no gp) hp1 e2 hl fun σ' G' H' vs ev y h r=>?_
 have nx:∀φ,H1 p≠some (.ext φ):=fun φ z=>by rw[hp1]at z;cases z
 exact k σ' G' H' vs ((fR.swapAt (o:=.lst (ys++vs)) no (by rw[hp];simp) gp gL nx).trans ev) y h r
theorem Ky{mi:Mo (List D)}{keep:List Bool}{more:Nat}{g:OX}{t:Mo Bool}{a:Mo (List D)}(hkl:keep.length=n):
  ∀(σ:St) H Q,σ.length=n->TL K B (W8 mi keep more g t a) σ H Q->Fo (pN K B mi) keep more (oU K B n g) (lK K B t) (oW K B n a) σ H Q:=by
 rintro σ H Q hσn ⟨G,env,total,env',rl,e,k⟩;obtain⟨⟨items,a8⟩,e1,e2⟩:=C8 e;obtain⟨⟨total',envF⟩,e3,e4⟩:=C8 e2;dsimp only at e4;split at e4
 ·rename_i hlen
  obtain⟨env'',e5,e6⟩:=E8 e4;cases e6;refine⟨G,env,items,a8,rl,e1,fun J G1 H1 fR itd p hp=>?_⟩
  have hk:keep.length=σ.length:=by rw[hkl,hσn]
  have gp:G1 p=none:=fR.rel.gnone hp
  have no1:¬ d6 σ a8 p:=fR.rel.unowned hp
  have no:¬ d6 (J0 keep more σ) (N1 keep more a8) p:=fun z=>no1 (AW z)
  have relS:∀ys,Rel K B G1 σ a8 (upd H1 p (.lst ys)):=fun ys=>(fR.rel.allocM hp).rel
  refine Kx (ys:=[]) ((relS []).ext hk) itd no gp D9 e3 (by simpa using hlen) fun σ2 G2 H2 ys d5 y2 hp2 r2=>?_
  rw[List.nil_append,CS]at d5;rw[List.nil_append]at hp2;have evO:=Ev.out (relS ys) hk d5 (fun j hj=>y2 j (by omega)) e5
  have evA:=fR.trans ((fR.rel.allocM (o:=.lst ys) hp).trans evO)
  have hpn:H p=none:=by
   cases q:H p with
   |none=>rfl
   |some o=>exact absurd hp (fR.live p (by rw[q];simp))
  have hpS:(upd H1 p (.lst ys)) p=some (.lst ys):=D9
  refine k p ys G2 H2 evA hpn (fun z=>?_) hp2 (d5.stay p (by rw[hpS];simp) no gp) r2
  rcases evO.sub p z with q|q
  ·exact no1 q
  ·rw[hpS]at q;cases q
 ·cases e4
end
def pR(X:Cx)(B:OE)(n:Nat)(elt:Expr)(gens:List Comprehension)(scope:Scope)(pos:Pos)(d:Nat)(p:Addr)(a:Mo (List D)):Prop:=W7 X (S4 elt gens scope pos d (.ref p) X.env) (oW X.K B n a p)
theorem Kz{X:Cx}{sem:Sem Unit}{t t':S5}(h:W7 X sem t)(i:∀σ H Q,t' σ H Q->t σ H Q):W7 X sem t':=fun pins s σ H Q I q=>h pins s σ H Q I (i σ H Q q)
section
variable{X:Cx}{B:OE}{N':List Str}{scope jC:Scope}{keep:List Bool}{more n d:Nat}{tg iter elt:Expr}{ifs:List Expr}{gens gs:List Comprehension}{g:OX}{t:Mo Bool}{m:Mo D}{mi:Mo (List D)}{a:Mo (List D)}{pos:Pos}{s:Shared}{H:Hp}{fp:List Addr}{p:Addr}
theorem Bd(hn:gens[d+1]? =none)(he:ED (D7 X N' jC s H fp) B elt m):pR (D7 X N' jC s H fp) B n elt gens scope pos d p (Q1 m):=Kz (Th (fun _ _ z=>z) hn he) Tn
theorem DK(hd:gens[d+1]? =some ⟨tg,iter,ifs,0⟩)(hc:X.calm=true)(hi:EI (D7 X N' jC s H fp) B tg iter mi)(hg:EG (D7 X N' jC s H fp) B n tg g)(ht:N9 (D7 X N' jC s H fp) ifs (lK X.K B t))
  (ha:pR (D7 X N' jC s H fp) B n elt gens scope pos (d+1) p a)(hs:∀x,foldedSetIterable iter (D7 X N' jC s H fp).env x=pure x:=by intro _;rfl):
  pR (D7 X N' jC s H fp) B n elt gens scope pos d p (qI mi g t a):=Kz (Ti (fun _ _ z=>z) hc hd hi hg ht ha hs) To
theorem CH(ok:gM X N' scope keep more)(hc:X.calm=true)(hi:EI X B tg iter mi)(hg:∀s H fp,EG (D7 X N' scope s H fp) B X.N.length tg g)(ht:∀s H fp,N9 (D7 X N' scope s H fp) ifs (lK X.K B t))
  (he:∀s H fp p,pR (D7 X N' scope s H fp) B X.N.length elt (⟨tg,iter,ifs,0⟩::gs) scope pos 0 p a)
  (hs:∀x,foldedSetIterable iter X.env x=pure x:=by intro _;rfl):EL X B (.ListComp elt (⟨tg,iter,ifs,0⟩::gs) scope pos) (W8 mi keep more g t a):=by
 intro pins s σ H Q I h;exact Tj (act:=oW X.K B X.N.length a) ok hc hi hg ht (fun s H fp p=>he s H fp p) hs pins s σ H Q I (Ky ok.klen σ H Q I.len h)
end
section
variable{X:Cx}{B:OE}{pos:Pos}{o e:Expr}{ma mb:Mo D}
end
section
variable{X:Cx}{B:OE}{pos:Pos}
end
abbrev S6(h:Heap)(z TI TO:Addr)(p:Nat)(b:Bool):Prop:=h.get? z=some {cls:=.type "zip",dict:=none,data:=.fields #[rawInt p,.bool b,.bool false,.ref TI,.ref TO],slots:=#[]}
section
variable{prog:Program}{w:World}{A:Around}{E:OU}{s:Shared}{c1 c2:Bool}
theorem Tp{M:Model}{a:Addr}{Q:Option Obj->Shared->Prop}(h:Q (s.heap.get? a) s):wpAny M A (loadIfAlive a) Q E s:=fun Γ p _=>by
 show Sem.wp M Γ (.loadIfAlive a .pure) _ _ p s;rw[Sem.wp_loadIfAlive];exact h
theorem LA{z TI TO:Addr}{p:Nat}{b:Bool}{o:Obj}{Q:Bool->Shared->Prop}(hz:S6 s.heap z TI TO p b)(ho:s.heap.get? p=some o)
  (hQ:∀h',S6 h' z TI TO p true->Heap.SameBut z s.heap h'->Q false {s with heap:=h'}):wpAny (model prog w) A (Builtin.SmallTypes.ownedTupleIsFree (.ref z)) Q E s:=by
 unfold Builtin.SmallTypes.ownedTupleIsFree;refine Qz (Zj hz rfl (x:=rawInt p) rfl ?_);show wpAny _ _ (loadIfAlive ((p:Int).toNat)>>=_) _ _ _;refine Qz (Tp ?_);rw[Uy,ho];show wpAny _ _ (field (.ref z) 1>>=_) _ _ _;refine Qz (Zj hz rfl (x:=.bool b) rfl ?_);cases b
 ·show wpAny _ _ (setField (.ref z) 1 (.bool true)>>=_) _ _ _
  exact Qz (Yc hz (by simp) fun g1 (z1:S6 g1 z TI TO p true) s1=>Qx (hQ g1 z1 s1))
 ·exact Qx (hQ s.heap hz ⟨rfl,fun _ _=>rfl⟩)
theorem Tq{z TI TO i1 i2 l1 l2:Addr}{k1 k2:Nat}{xs ys:Array Value}{x y:Value}{p:Nat}{b:Bool}{o:Obj}{Q:OU}(D:ZipApart z TI TO i1 i2 l1 l2)
  (hz:S6 s.heap z TI TO p b)(ho:s.heap.get? p=some o)(hTI:IsPair s.heap TI (.ref i1) (.ref i2))
  (h1:iH c1 s.heap i1 l1 k1)(h2:iH c2 s.heap i2 l2 k2)(hl1:jR c1 s.heap l1 xs)(hl2:jR c2 s.heap l2 ys)(hx:xs[k1]? =some x)(hy:ys[k2]? =some y)
  (hQ:∀h',S6 h' z TI TO p true->iH c1 h' i1 l1 (k1+1)->iH c2 h' i2 l2 (k2+1)->IsPair h' s.heap.objs.size x y->h'.objs.size=s.heap.objs.size+1->
   (∀c o,c≠z->c≠i1->c≠i2->s.heap.get? c=some o->h'.get? c=some o)->Q (.ref s.heap.objs.size) {s with heap:=h'}):
  wpAny (model prog w) A (Builtin.«zip.__next__» ⟨[.ref z],[]⟩) (fun fin s'=>∃v,fin=.done (.ret v)/\Q v s') E s:=by
 show wpAny _ _ (field (.ref z) 2>>=_) _ _ _;refine Qz (Zj hz rfl (x:=.bool false) rfl (Qz (Zj hz rfl (x:=.ref TI) rfl ?_)));refine Qz (Zo hTI rfl (Qz (LA hz ho fun g1 z1 s1=>?_)))
 simp only[Zz,Yz];rw[←Array.forIn_toList];simp only[Ue,Ji];refine Qz (Qz (Qz (Yt (Qz (m:=Builtin.SmallTypes.nextOf (.ref i1)) ?_))));refine BX (h1.but s1.extBut D.i1z) (hl1.but s1.extBut D.l1z) hx fun g2 a2 s2=>Qx (Qx ?_)
 refine Qz (Qz (Yt (Qz (m:=Builtin.SmallTypes.nextOf (.ref i2)) ?_)));refine BX ((h2.but s1.extBut D.i2z).but s2.extBut D.i12.symm) ((hl2.but s1.extBut D.l2z).but s2.extBut D.l2i1) hy fun g4 a4 s4=>Qx (Qx ?_)
 refine Qx (Qz (wpAny_newTuple ?_ (by show 2≤sizeLine;decide)))
 have hsz:g4.objs.size=s.heap.objs.size:=by rw[s4.1,s2.1,s1.1]
 have z4:S6 g4 z TI TO p true:=s4.extBut _ _ D.i2z.symm (s2.extBut _ _ D.i1z.symm z1)
 have k4:∀c o,c≠z->c≠i1->c≠i2->s.heap.get? c=some o->g4.get? c=some o:=fun c o n1 n3 n4 e=>s4.extBut _ _ n4 (s2.extBut _ _ n3 (s1.extBut _ _ n1 e))
 have b1:iH c1 g4 i1 l1 (k1+1):=a2.but s4.extBut D.i12
 refine Qx ⟨_,rfl,?_⟩;show Q (.ref g4.objs.size) _;rw[hsz];have t4:IsPair (g4.push {cls:=.type "tuple",data:=.seq #[x,y]}) g4.objs.size x y:=Qw _ rfl;rw[hsz]at t4;exact hQ _ (Qj _ z4) (b1.at' fun o e=>Qj _ e) (a4.at' fun o e=>Qj _ e) t4 (by rw[Zy,hsz]) fun c o n1 n2 n3 e=>Qj _ (k4 c o n1 n2 n3 e)
theorem Tr{z TI TO i1 i2 l1 l2:Addr}{k1 k2:Nat}{xs ys:Array Value}{p:Nat}{b:Bool}{o:Obj}{Q:PySem.Fin->Shared->Prop}(hh:A.handled=none)(D:ZipApart z TI TO i1 i2 l1 l2)
  (hz:S6 s.heap z TI TO p b)(ho:s.heap.get? p=some o)(hTI:IsPair s.heap TI (.ref i1) (.ref i2))
  (h1:iH c1 s.heap i1 l1 k1)(h2:iH c2 s.heap i2 l2 k2)(hl1:jR c1 s.heap l1 xs)(hl2:jR c2 s.heap l2 ys)(hend:xs[k1]? =none\/ys[k2]? =none)
  (hE:∀h' e,(∀c o,c≠z->c≠i1->c≠i2->s.heap.get? c=some o->h'.get? c=some o)->(∃o,h'.get? e=some o/\o.cls=.type "StopIteration")->E (.ref e) {s with heap:=h'}):
  wpAny (model prog w) A (Builtin.«zip.__next__» ⟨[.ref z],[]⟩) Q E s:=by
 show wpAny _ _ (field (.ref z) 2>>=_) _ _ _;refine Qz (Zj hz rfl (x:=.bool false) rfl (Qz (Zj hz rfl (x:=.ref TI) rfl ?_)));refine Qz (Zo hTI rfl (Qz (LA hz ho fun g1 z1 s1=>?_)))
 simp only[Zz,Yz];rw[←Array.forIn_toList];simp only[Ue,Ji];refine Qz (Qz (Qz (Yt (Qz (m:=Builtin.SmallTypes.nextOf (.ref i1)) ?_))));cases hx:xs[k1]? with
 |none=>
  refine DA hh (h1.but s1.extBut D.i1z) (hl1.but s1.extBut D.l1z) hx fun g2 e s2 he=>?_
  exact hE g2 e (fun c o n1 n3 _ x=>s2 _ _ n3 (s1.extBut _ _ n1 x)) he
 |some x=>
  have hy:ys[k2]? =none:=by
   rcases hend with h|h
   ·rw[hx]at h;cases h
   ·exact h
  refine BX (h1.but s1.extBut D.i1z) (hl1.but s1.extBut D.l1z) hx fun g2 a2 s2=>Qx (Qx ?_)
  refine Qz (Qz (Yt (Qz (m:=Builtin.SmallTypes.nextOf (.ref i2)) ?_)));refine DA hh ((h2.but s1.extBut D.i2z).but s2.extBut D.i12.symm) ((hl2.but s1.extBut D.l2z).but s2.extBut D.l2i1) hy fun g4 e s4 he=>?_
  exact hE g4 e (fun c o n1 n3 n4 x=>s4 _ _ n4 (s2.extBut _ _ n3 (s1.extBut _ _ n1 x))) he
theorem Ts{z TI TO i1 i2 l1 l2:Addr}{k1 k2:Nat}{xs ys:Array Value}{x y:Value}{p:Nat}{b:Bool}{o:Obj}{Q:Option Value->Shared->Prop}(D:ZipApart z TI TO i1 i2 l1 l2)
  (hz:S6 s.heap z TI TO p b)(ho:s.heap.get? p=some o)(hTI:IsPair s.heap TI (.ref i1) (.ref i2))
  (h1:iH c1 s.heap i1 l1 k1)(h2:iH c2 s.heap i2 l2 k2)(hl1:jR c1 s.heap l1 xs)(hl2:jR c2 s.heap l2 ys)(hx:xs[k1]? =some x)(hy:ys[k2]? =some y)
  (hQ:∀h',S6 h' z TI TO p true->iH c1 h' i1 l1 (k1+1)->iH c2 h' i2 l2 (k2+1)->IsPair h' s.heap.objs.size x y->h'.objs.size=s.heap.objs.size+1->
   (∀c o,c≠z->c≠i1->c≠i2->s.heap.get? c=some o->h'.get? c=some o)->Q (some (.ref s.heap.objs.size)) {s with heap:=h'}):
  wpAny (model prog w) A (pyNext (.ref z)) Q E s:=by
 have hT:s.TypeIs (.ref z) "zip":=⟨_,hz,rfl⟩
 unfold pyNext;exact Qz (Vk (Zh (name:=Str.ofString "__next__") hT Zr (Yk Zr hT Jc
  (Tq D hz ho hTI h1 h2 hl1 hl2 hx hy fun h' a1 a3 a4 a5 a6 a7=>Qx (hQ h' a1 a3 a4 a5 a6 a7)) (Jf _))))
theorem Tt{z TI TO i1 i2 l1 l2:Addr}{k1 k2:Nat}{xs ys:Array Value}{p:Nat}{b:Bool}{o:Obj}{Q:Option Value->Shared->Prop}(hh:A.handled=none)(D:ZipApart z TI TO i1 i2 l1 l2)
  (hz:S6 s.heap z TI TO p b)(ho:s.heap.get? p=some o)(hTI:IsPair s.heap TI (.ref i1) (.ref i2))
  (h1:iH c1 s.heap i1 l1 k1)(h2:iH c2 s.heap i2 l2 k2)(hl1:jR c1 s.heap l1 xs)(hl2:jR c2 s.heap l2 ys)(hend:xs[k1]? =none\/ys[k2]? =none)
  (hQ:∀h',(∀c o,c≠z->c≠i1->c≠i2->s.heap.get? c=some o->h'.get? c=some o)->Q none {s with heap:=h'}):wpAny (model prog w) A (pyNext (.ref z)) Q E s:=by
 have hT:s.TypeIs (.ref z) "zip":=⟨_,hz,rfl⟩
 unfold pyNext;refine Qz (Vk (Zh (name:=Str.ofString "__next__") hT Zr (Yk Zr hT Jc
  (Tr hh D hz ho hTI h1 h2 hl1 hl2 hend fun h' e hk he=>?_) (Jf _))))
 obtain⟨o,ho,hc⟩:=he;exact Qz (wpAny_isInstance (T:="StopIteration") (b:=true) ⟨o,ho,hc⟩ isSubtype_stop (Qx (hQ _ hk)))
end
theorem Tu:typeLookup (.type "zip") "__len__"=pure none:=by rw[typeLookup_type,builtinLookup_eq_fast];kernel_rfl
theorem Tv:typeLookup (.type "zip") "__length_hint__"=pure none:=by rw[typeLookup_type,builtinLookup_eq_fast];kernel_rfl
theorem Tw{X:Cx}{pins:OA}{σ:St}{H:Hp}{s:Shared}{p:Addr}{o:HO}(I:Inv X pins σ H s)(f:J4 X pins H p)(new:J3 X.prog X.w (upd H p o) s.heap p o):Inv X pins σ (upd H p o) s:=by
 have hn:H p=none:=f.1
 refine I.step (h':=s.heap) (g':=s.gens) (d':=s.drawn) (t':=s.toks) (ch:=[p]) (fun b hb=>?_) (fun b o _ _ hc e _=>e) (fun b o _ _ hc e _=>⟨o.slots,e⟩) (fun b o hc e n=>by rw[C4 (fun z=>hc (by simp[z]))];exact n)
  (fun b o hc e=>⟨o,e⟩) (fun b xs q=>by rw[C4 (J5 q hn)];exact q) (fun b u xs q=>by rw[C4 (J5 q hn)];exact q) (fun b ps e=>⟨#[],by rw[C4 (J5 e hn),e];simp⟩) (fun m hm=>hm) (fun b u e=>?_) I.bare
 ·obtain rfl:=List.mem_singleton.mp hb
  exact⟨f.2.2.2.1,f.2.1,f.2.2.2.2.1,f.2.2.2.2.2⟩
 ·by_cases hb:b=p
  ·subst hb;rw[D9]at e;cases e;exact new
  ·rw[C4 hb]at e
   exact(I.hok b u e).stay (fun c v hc q=>q) (fun c q=>by rw[C4 (J5 q hn)];exact q) fun c xs q=>by rw[C4 (J5 q hn)];exact q
def Tx(c1 c2:Bool)(n l1 l2:Addr)(i:Nat)(H:Hp)(h:Heap):Prop:=
 (IsZip h (n+4) (n+2) (n+3) .none\/(∃p b xs,S6 h (n+4) (n+2) (n+3) p b/\H p=some (.tup xs)))/\(∃a b,IsPair h (n+3) a b)/\IsPair h (n+2) (.ref n) (.ref (n+1))/\iH c1 h n l1 i/\iH c2 h (n+1) l2 i
section
variable{X:Cx}{pins:OA}{σ:St}{A:Around}{R:Result->Shared->Prop}{c1 c2:Bool}{n l1 l2 S:Addr}{xs ys:List V}
theorem Tz{J:Nat->Hp->List V->Prop}(hh:A.handled=none)(res:Value)(hne:∀j,j<5->S≠n+j)
  (hJ:∀i H vs,J i H vs->lY c1 X.K H l1 xs/\lY c2 X.K H l2 ys)
  (hJs:∀i H vs p a b,J i H vs->H p=none->xs[i]? =some a->ys[i]? =some b->J (i+1) (upd H p (.tup [a,b])) (vs++[.ref p]))
  (hR:∀s' H' vs acc c,Inv X pins σ H' s'->J4 X pins H' S->J (min xs.length ys.length) H' vs->D6 vs acc->acc.length≤sizeLine->s'.heap.get? S=some {cls:=.type "list",data:=.seq acc.toArray c}->R (.ok (.ret res)) s'):
  ∀(k i:Nat) (s:Shared) (H:Hp) (vs:List V) (acc:List Value) (c:Nat),min xs.length ys.length-i=k->i≤min xs.length ys.length->Inv X pins σ H s->(∀b∈S::lN n,J4 X pins H b)->Tx c1 c2 n l1 l2 i H s.heap->
   s.heap.get? S=some {cls:=.type "list",data:=.seq acc.toArray c}->acc.length=i->D6 vs acc->J i H vs->
   codeAny (model X.prog X.w) A (.builtin "list.extend.loop" ⟨[.ref S,.ref (n+4),res],[]⟩) R s:=by
 intro k
 induction k with
 |zero=>
  intro i s H vs acc c hk hi I hf st hS hl hv hj;obtain⟨q1,q2⟩:=hJ i H vs hj;obtain⟨its,r1,p1,z1⟩:=S1 I q1;obtain⟨jts,r2,p2,z2⟩:=S1 I q2;have D:ZipApart (n+4) (n+2) (n+3) n (n+1) l1 l2:=apart
   (fun j hj=>Z0 I (hf _ (Qi _ (W0 n hj))) q1)
   (fun j hj=>Z0 I (hf _ (Qi _ (W0 n hj))) q2)
  have e1:=r1.length
  have e2:=r2.length
  have hend:its.toArray[i]? =none\/jts.toArray[i]? =none:=by
   by_cases h:its.length≤i
   ·exact .inl (by simp;omega)
   ·exact .inr (by simp;omega)
  obtain⟨hz,⟨a,b,hO⟩,hI,h1,h2⟩:=st;refine Vq PySem.F.entry_extend_loop ?_
  rw[Around.under_plainId PySem.F.plain_extend_loop _];show wpAny _ A.in1 (pyNext (.ref (n+4))>>=_) _ _ s;have fin:∀h':Heap,(∀b o,b∉oI n->s.heap.get? b=some o->h'.get? b=some o)->R (.ok (.ret res)) {s with heap:=h'}:=fun h' kp=>by
   have I':Inv X pins σ H {s with heap:=h'}:=Cz (ch:=oI n) (t':=s.toks) I kp (fun c hc=>hf c (Qi _ (DB hc)))
   refine hR _ H vs acc c I' (hf S (by simp)) ?_ hv (by omega) (kp _ _ (fun z=>?_) hS)
   ·rw[show min xs.length ys.length=i by omega];exact hj
   ·simp only[oI,Qg,Zx,Yu]at z
    rcases z with z|z|z|z
    ·exact hne 4 (by decide) z
    ·exact hne 3 (by decide) z
    ·exact hne 0 (by decide) z
    ·exact hne 1 (by decide) z
  rcases hz with hz|⟨p,b,us,hz,hp⟩
  ·refine Qz (KP (show A.in1.handled=none from hh) D hz hI hO h1 h2 p1 p2 hend fun h' hk=>Qx (fin h' fun c o hc e=>hk c o (fun z=>hc (by simp[z])) (fun z=>hc (by simp[z])) (fun z=>hc (by simp[z])) (fun z=>hc (by simp[z])) e))
  ·obtain⟨ob,hob⟩:=FQ (I.hok p _ hp)
   refine Qz (Tt (show A.in1.handled=none from hh) D hz hob hI h1 h2 p1 p2 hend fun h' hk=>Qx (fin h' fun c o hc e=>hk c o (fun z=>hc (by simp[z])) (fun z=>hc (by simp[z])) (fun z=>hc (by simp[z])) e))
 |succ k ih=>
  intro i s H vs acc c hk hi I hf st hS hl hv hj;obtain⟨q1,q2⟩:=hJ i H vs hj;obtain⟨its,r1,p1,z1⟩:=S1 I q1;obtain⟨jts,r2,p2,z2⟩:=S1 I q2;have D:ZipApart (n+4) (n+2) (n+3) n (n+1) l1 l2:=apart
   (fun j hj=>Z0 I (hf _ (Qi _ (W0 n hj))) q1)
   (fun j hj=>Z0 I (hf _ (Qi _ (W0 n hj))) q2)
  have ex:xs[i]? =some (xs[i]'(by omega)):=by simp
  have ey:ys[i]? =some (ys[i]'(by omega)):=by simp
  obtain⟨u,hu,ru⟩:=r1.get ex;obtain⟨v,hv',rv⟩:=r2.get ey;obtain⟨hz,⟨a,b,hO⟩,hI,h1,h2⟩:=st;have hsz:xs.length≤sizeLine:=z1;refine Vq PySem.F.entry_extend_loop ?_
  rw[Around.under_plainId PySem.F.plain_extend_loop _];show wpAny _ A.in1 (pyNext (.ref (n+4))>>=_) _ _ s;have lt5:∀c∈S::lN n,c≠s.heap.objs.size:=fun c hc=>by
   have:∃o,s.heap.get? c=some o:=by
    rcases Qg.mp hc with rfl|hc
    ·exact⟨_,hS⟩
    ·simp only[lN,Qg,Zx,Yu]at hc
     rcases hc with rfl|rfl|rfl|rfl|rfl
     ·rcases hz with hz|⟨_,_,_,hz,_⟩
      ·exact⟨_,hz⟩
      ·exact⟨_,hz⟩
     ·exact⟨_,hI⟩
     ·exact⟨_,hO⟩
     ·obtain⟨o,e,_⟩:=h1.get;exact⟨o,e⟩
     ·obtain⟨o,e,_⟩:=h2.get;exact⟨o,e⟩
   obtain⟨o,e⟩:=this;exact Qh (Qk e)
  have next:∀h':Heap,((∃p b us,S6 h' (n+4) (n+2) (n+3) p b/\(upd H s.heap.objs.size (.tup [xs[i]'(by omega),ys[i]'(by omega)])) p=some (.tup us)))->(∃a b,IsPair h' (n+3) a b)->iH c1 h' n l1 (i+1)->iH c2 h' (n+1) l2 (i+1)->IsPair h' s.heap.objs.size u v->h'.objs.size=s.heap.objs.size+1->
    (∀b o,b∉oI n->s.heap.get? b=some o->h'.get? b=some o)->
    wpAny (model X.prog X.w) A.in1 (Builtin.List.listUpdate (.ref S) (·.push (.ref s.heap.objs.size))>>=fun _=>again (.builtin "list.extend.loop" ⟨[.ref S,.ref (n+4),res],[]⟩))
     (fun fin s'=>match fin with|.done f=>R (.ok f) s'|.again c'=>c'.quiet=true/\codeAny (model X.prog X.w) A c' R s') (fun e s'=>R (.error e) s') {s with heap:=h'}:=fun h' zz oo a3 a4 a5 a6 kp=>by
   have hS':h'.get? S=some {cls:=.type "list",data:=.seq acc.toArray c}:=kp _ _ (fun z=>by
    simp only[oI,Qg,Zx,Yu]at z
    rcases z with z|z|z|z
    ·exact hne 4 (by decide) z
    ·exact hne 3 (by decide) z
    ·exact hne 0 (by decide) z
    ·exact hne 1 (by decide) z) hS
   have I1:Inv X pins σ (upd H s.heap.objs.size (.tup [xs[i]'(by omega),ys[i]'(by omega)])) {s with heap:=h'}:=KN (ch:=oI n) (t':=s.toks) I kp
    (fun c hc=>hf c (Qi _ (DB hc))) (Qv _)
    ⟨by show 2≤sizeLine;decide,[u,v],.cons ru (.cons rv .nil),_,a5,rfl,rfl,0,rfl⟩
   have hf2:∀c∈S::lN n,J4 X pins (upd H s.heap.objs.size (.tup [xs[i]'(by omega),ys[i]'(by omega)])) c:=fun c hc=>⟨by rw[C4 (lt5 c hc)];exact(hf c hc).1,(hf c hc).2⟩
   show wpAny _ A.in1 (updateSeq S (·.push (.ref s.heap.objs.size))>>=_) _ _ _
   refine Qz ?_
   refine wpAny_updateSeq hS' rfl (Qx ⟨plainId_quiet PySem.F.plain_extend_loop _,?_⟩) (by rw[Qc];omega) (by show(acc.toArray.push _).size≤sizeLine+1;rw[Array.size_push,Qc];omega)
   have oth:∀b o,b∉[S]->h'.get? b=some o->(h'.update S (Obj.mapSeq (·.push (.ref s.heap.objs.size)))).get? b=some o:=fun b o hb e=>(Ze _ _ (fun h:S=b=>hb (by simp[h]))).trans e
   have I2:Inv X pins σ (upd H s.heap.objs.size (.tup [xs[i]'(by omega),ys[i]'(by omega)])) {s with heap:=h'.update S (Obj.mapSeq (·.push (.ref s.heap.objs.size)))}:=
    Cz (s:={s with heap:=h'}) (ch:=[S]) (t':=s.toks) I1 oth (fun b hb=>by obtain rfl:=List.mem_singleton.mp hb;exact hf2 _ (by simp))
   have hS2:=Yn (Obj.mapSeq (·.push (Value.ref s.heap.objs.size))) hS' rfl
   have nS:∀j,j<5->(n+j:Nat)∉[S]:=fun j hj z=>hne j hj (List.mem_singleton.mp z).symm
   refine ih (i+1) _ (upd H s.heap.objs.size (.tup [xs[i]'(by omega),ys[i]'(by omega)])) (vs++[.ref s.heap.objs.size]) (acc++[.ref s.heap.objs.size]) (c+1) (by omega) (by omega) I2 hf2 ⟨.inr ?_,?_,?_,?_,?_⟩ ?_ (by simp[hl]) (hv.append (.cons (show E3 (.ref s.heap.objs.size) (.ref s.heap.objs.size)from rfl) .nil)) (hJs i H vs _ _ _ hj (I.hok.fresh (Qv _)) ex ey)
   ·obtain⟨p,b,us,h1,h2⟩:=zz
    exact⟨p,b,us,oth _ _ (nS 4 (by decide)) h1,h2⟩
   ·obtain⟨a,b,e⟩:=oo
    exact⟨a,b,oth _ _ (nS 3 (by decide)) e⟩
   ·exact oth _ _ (nS 2 (by decide)) (kp _ _ (fun z=>by
     simp only[oI,Qg,Zx,Yu]at z
     rcases z with z|z|z|z<;>(revert z;show ¬ ((_:Nat)=_);omega)) hI)
   ·exact a3.at' fun o e=>oth _ _ (nS 0 (by decide)) e
   ·exact a4.at' fun o e=>oth _ _ (nS 1 (by decide)) e
   ·rw[hS2];simp[Obj.mapSeq]
  rcases hz with hz|⟨p,b,us,hz,hp⟩
  ·refine Qz (KO D hz hI hO h1 h2 p1 p2 (x:=u) (y:=v) (by simpa using hu) (by simpa using hv') fun h' a1 a2 a3 a4 a5 a6 a7=>?_)
   exact next h' ⟨_,_,_,a1,D9⟩ ⟨_,_,a2⟩ a3 a4 a5 a6 fun c o hc e=>a7 c o (fun z=>hc (by simp[z])) (fun z=>hc (by simp[z])) (fun z=>hc (by simp[z])) (fun z=>hc (by simp[z])) e
  ·obtain⟨ob,hob⟩:=FQ (I.hok p _ hp)
   refine Qz (Ts D hz hob hI h1 h2 p1 p2 (x:=u) (y:=v) (by simpa using hu) (by simpa using hv') fun h' a1 a3 a4 a5 a6 a7=>?_)
   exact next h' ⟨_,_,_,a1,by rw[C4 (Qh (Qk hob))];exact hp⟩ ⟨_,_,a7 _ _ D.TOz D.TOi1 D.TOi2 hO⟩ a3 a4 a5 a6 fun c o hc e=>a7 c o (fun z=>hc (by simp[z])) (fun z=>hc (by simp[z])) (fun z=>hc (by simp[z])) e
theorem UA{J:Nat->Hp->List V->Prop}{H:Hp}{s:Shared}{Q:OU}{E:OU}(hh:A.handled=none)(I:Inv X pins σ H s)(hn:∀b∈lN n,J4 X pins H b)
  (hz:IsZip s.heap (n+4) (n+2) (n+3) .none)(hO:∃a b,IsPair s.heap (n+3) a b)(hI:IsPair s.heap (n+2) (.ref n) (.ref (n+1)))(h1:iH c1 s.heap n l1 0)(h2:iH c2 s.heap (n+1) l2 0)(hJ:∀i H vs,J i H vs->lY c1 X.K H l1 xs/\lY c2 X.K H l2 ys)
  (hJs:∀i H vs p a b,J i H vs->H p=none->xs[i]? =some a->ys[i]? =some b->J (i+1) (upd H p (.tup [a,b])) (vs++[.ref p]))(hj:J 0 H [])
  (hQ:∀s' H' S vs,Inv X pins σ (upd H' S (.lst vs)) s'->H' S=none->H S=none->J (min xs.length ys.length) H' vs->Q (.ref S) s'):
  wpAny (model X.prog X.w) A (call (.type "list") [.ref (n+4)]) Q E s:=by
 have lt5:∀c∈lN n,c<s.heap.objs.size:=fun c hc=>by
  have:∃o,s.heap.get? c=some o:=by
   simp only[lN,Qg,Zx,Yu]at hc
   rcases hc with rfl|rfl|rfl|rfl|rfl
   ·exact⟨_,hz⟩
   ·exact⟨_,hI⟩
   ·obtain⟨a,b,e⟩:=hO;exact⟨_,e⟩
   ·obtain⟨o,e,_⟩:=h1.get;exact⟨o,e⟩
   ·obtain⟨o,e,_⟩:=h2.get;exact⟨o,e⟩
  obtain⟨o,e⟩:=this;exact Qk e
 have hSn:∀j,j<5->s.heap.objs.size≠n+j:=fun j hj=>Js (lt5 _ (W0 n hj))
 refine callType_codes (Q₁:=fun obj s₁=>obj=.ref s.heap.objs.size/\s₁={s with heap:=s.heap.push {cls:=.type "list",data:=.seq #[]}}) PySem.F.called_list (PySem.F.typeCall_list_1 _) PySem.F.entry_list_init
  (code_list_new _ ⟨rfl,rfl⟩) fun obj s₁ h₁=>?_
 obtain⟨rfl,rfl⟩:=h₁;have hS:(s.heap.push {cls:=.type "list",data:=.seq #[]}).get? s.heap.objs.size=some {cls:=.type "list",data:=.seq #[]}:=Qw _ rfl;refine⟨⟨_,hS,rfl⟩,PySem.F.args_list_init_2 _ _,?_⟩;show wpAny _ A.in1.in1 (do let old←Builtin.List.listItems (.ref s.heap.objs.size);Builtin.List.listUpdate (.ref s.heap.objs.size) (fun _=>#[]);letGo old.toList.reverse;Builtin.List.listExtendWith (.ref s.heap.objs.size) (.ref (n+4)) .none) _ _ _
 refine Qz ?_
 unfold Builtin.List.listItems;refine Qz (Zo hS rfl (Qx ?_));show wpAny _ A.in1.in1 (updateSeq s.heap.objs.size (fun _=>#[])>>=fun _=>letGo (#[]:Array Value).toList.reverse>>=fun _=>Builtin.List.listExtendWith (.ref s.heap.objs.size) (.ref (n+4)) .none) _ _ _
 refine Qz (wpAny_updateSeq hS rfl ?_);have hS₂:=Yn (Obj.mapSeq (fun _=>(#[]:Array Value))) hS rfl
 have oth₂:∀b o,b≠s.heap.objs.size->s.heap.get? b=some o->((s.heap.push {cls:=.type "list",data:=.seq #[]}).update s.heap.objs.size (Obj.mapSeq (fun _=>(#[]:Array Value)))).get? b=some o:=
  fun b o hb e=>(Ze _ _ (Qa hb)).trans (Qj _ e)
 generalize (s.heap.push {cls:=.type "list",data:=.seq #[]}).update s.heap.objs.size (Obj.mapSeq (fun _=>(#[]:Array Value)))=g2 at hS₂ oth₂ ⊢
 refine Qz (wpAny_letGo ?_);have k2:∀b o,s.heap.get? b=some o->g2.get? b=some o:=fun b o e=>oth₂ b o (Qh (Qk e)) e
 have hT2:Shared.TypeIs {s with heap:=g2} (.ref (n+4)) "zip":=⟨_,k2 _ _ hz,rfl⟩
 unfold Builtin.List.listExtendWith;refine Qz (wpAny_typeOf hT2 ?_);have e1:Builtin.List.listSameRef (.ref s.heap.objs.size) (.ref (n+4))=false:=by simp[Builtin.List.listSameRef];exact hSn 4 (by decide)
 have e2:(Value.type "zip"==Value.type "list")=false:=by decide
 have e3:(Value.type "zip"==Value.type "tuple")=false:=by decide
 simp only[e1,e2,e3,Bool.or_false,Zz,Yz];refine Qz (wpAny_pyIter_zip (s:={s with heap:=g2}) (k2 _ _ hz) ?_)
 refine Qz (Yt ?_);unfold Builtin.List.listLengthHint;refine Qz (wpAny_specialOf hT2 Tu ?_);show wpAny _ A.in1.in1 (specialOf (Value.ref (n+4)) (Str.ofString "__length_hint__")>>=_) _ _ _;refine Qz (wpAny_specialOf hT2 Tv ?_);refine Qx ?_
 show wpAny _ A.in1.in1 (rule "list.extend.makes-room">>=fun _=>Builtin.List.listTouch (.ref s.heap.objs.size)>>=fun _=>
  again (.builtin "list.extend.loop" ⟨[.ref s.heap.objs.size,.ref (n+4),.none],[]⟩)) _ _ _
 refine Qz (Jm ?_);refine Qz ?_
 show wpAny _ A.in1.in1 (updateSeq s.heap.objs.size (·.push .none)>>=fun _=>updateSeq s.heap.objs.size (·.pop)) _ _ _
 refine Qz (wpAny_updateSeq hS₂ rfl ?_);have hS₃:=Yn (Obj.mapSeq (·.push Value.none)) hS₂ rfl
 refine wpAny_updateSeq (hz:=by seq_fits) hS₃ rfl ?_
 have hS₄:=Yn (Obj.mapSeq (·.pop)) hS₃ rfl
 have oth:∀b o,b≠s.heap.objs.size->g2.get? b=some o->((g2.update s.heap.objs.size (Obj.mapSeq (·.push Value.none))).update s.heap.objs.size (Obj.mapSeq (·.pop))).get? b=some o:=
  fun b o hb e=>(Ze _ _ (Qa hb)).trans ((Ze _ _ (Qa hb)).trans e)
 generalize ((g2.update s.heap.objs.size (Obj.mapSeq (·.push Value.none))).update s.heap.objs.size (Obj.mapSeq (·.pop)))=g4 at hS₄ oth ⊢
 have k4:∀b o,s.heap.get? b=some o->g4.get? b=some o:=fun b o e=>oth b o (Qh (Qk e)) (k2 b o e)
 have I4:Inv X pins σ H {s with heap:=g4}:=I.kept (t':=s.toks) k4
 have hf4:∀b∈s.heap.objs.size::lN n,J4 X pins H b:=fun b hb=>by
  rcases Qg.mp hb with rfl|hb
  ·exact I.fpOk (Qv _) (I.hok.fresh (Qv _))
  ·exact hn b hb
 refine Qx ⟨plainId_quiet PySem.F.plain_extend_loop _,Tz (J:=J) (A:=A.in1) (c1:=c1) (c2:=c2) (xs:=xs) (ys:=ys) (show A.in1.handled=none from hh) .none hSn hJ hJs ?_ (min xs.length ys.length-0) 0 {s with heap:=g4} H [] [] _ rfl (Yb _) I4 hf4 ⟨.inl (k4 _ _ hz),?_,k4 _ _ hI,h1.at' fun o e=>k4 _ o e,h2.at' fun o e=>k4 _ o e⟩ hS₄ rfl .nil hj⟩
 ·intro s' H' vs acc c I' f' hj' hv hz' hl
  refine⟨rfl,hQ s' H' s.heap.objs.size vs (Tw I' f' ⟨?_,acc,c,hv,hl⟩) f'.1 (I.hok.fresh (Qv _)) hj'⟩;rw[hv.length];exact hz'
 ·obtain⟨a,b,e⟩:=hO
  exact⟨a,b,k4 _ _ e⟩
end
section
variable{X:Cx}{B:OE}{pos:Pos}{a b:Expr}{ms:Mo (List D)}
theorem UB(xs ys:List D)(i:Nat){a b:D}(h1:xs[i]? =some a)(h2:ys[i]? =some b):(P8 xs ys).take (i+1)=(P8 xs ys).take i++[.tup [a,b]]:=by
 have:(P8 xs ys)[i]? =some (.tup [a,b]):=by
  unfold P8;rw[Zc,List.getElem?_zip_eq_some.mpr (⟨h1,h2⟩:xs[i]? =some (a,b).1/\ys[i]? =some (a,b).2)];rfl
 rw[List.take_add_one,this];rfl
theorem LB{p1 p2 pos2:Pos}(hc:X.calm=true)(hgl:Gl X "list")(hml:X.mg "list"=none)(hg:Gl X "zip")(hm:X.mg "zip"=none)(ha:m5 X B [a,b] ms)
  (hs:starEach [a,b] X.env=[(false,eval a X.env),(false,eval b X.env)]:=by rfl)(hs2:starEach [b] X.env=[(false,eval b X.env)]:=by rfl):EL X B (.Call (.Name "list" p1) [.Call (.Name "zip" p2) [a,b] [] pos2] [] pos) (BY ms):=by
 intro pins s σ H Q I h;obtain⟨G,env,ds,env',rl,e,k⟩:=h;obtain⟨⟨ds',a8⟩,e1,e2⟩:=C8 e;dsimp only at e2;split at e2
 case h_2=>cases e2
 rename_i d1 d2;obtain⟨xs,e3,e4⟩:=C8 e2;obtain⟨ys,e5,e6⟩:=E8 e4;cases e6;have hh:X.A.handled=none:=I.ok.hd hc;refine Zi (AF I hgl hml FV (Yp (e:=.Call (.Name "zip" p2) [a,b] [] pos2) (rest:=[]) ?_ rfl rfl));show wpAny _ _ (spliced ((false,eval (.Call (.Name "zip" p2) [a,b] [] pos2) X.env)::backTo pos (starEach [] X.env))) _ _ s;refine Calls.spliced_cons ?_
 refine Zi (AF I hg hm KT (Yp (eV (ha pos2 pins s σ H (fun vs H1=>∃G1,Ev X.K B G σ env H G1 σ env' H1/\B9 X.K G1 vs [d1,d2]) I ⟨G,env,_,_,rl,e1,fun vs G1 H1 ev r=>⟨G1,ev,r⟩⟩) fun us s1 ⟨vs,H1,I1,r1,q1⟩=>?_) (by rw[hs,hs2]) (by rw[hs2];rfl)))
 obtain⟨G1,ev,r⟩:=q1;obtain⟨v,w,rfl,t1,t2⟩:=Cj r;obtain⟨c1,l1,vx,rfl,q1,t1⟩:=DC t1 e3;obtain⟨c2,l2,vy,rfl,q2,t2⟩:=DC t2 e5;obtain⟨u,v,rfl,ru,rv⟩:=AG r1;cases ru;cases rv;obtain⟨its,r1,p1,_⟩:=S1 I1 (ev.rel.sub.sqA q1);obtain⟨jts,r2,p2,_⟩:=S1 I1 (ev.rel.sub.sqA q2);refine KS p1 p2 fun h' a1 a2 a3 a4 a5 a6 a7=>Calls.spliced_nil ?_
 have lz:(P8 xs ys).length=min vx.length vy.length:=by rw[t1.length,t2.length];simp[P8]
 refine UA (J:=fun i H2 vs=>∃G2,Ev X.K B G σ env H G2 σ env' H2/\Le G1 G2/\B9 X.K G2 vs ((P8 xs ys).take i)) (xs:=vx) (ys:=vy) (c1:=c1) (c2:=c2) (l1:=l1) (l2:=l2) (n:=s1.heap.objs.size) hh (I1.kept (t':=s1.toks) a7) (fun c hc=>?_) a1 ⟨_,_,a3⟩ a2 a4 a5 ?_ ?_ ⟨G1,ev,Le.refl,by simp[eY]⟩ ?_
 ·have hle:s1.heap.objs.size≤c:=sV hc
  exact I1.fpOk hle (I1.hok.fresh hle)
 ·rintro i H2 vs ⟨G2,d5,le,_⟩
  exact⟨d5.rel.sub.sqA (le.sqA q1),d5.rel.sub.sqA (le.sqA q2)⟩
 ·rintro i H2 vs p a b ⟨G2,d5,le,rr⟩ hp ea eb
  obtain⟨da,f1,ra⟩:=t1.get' ea;obtain⟨db,f2,rb⟩:=t2.get' eb;have iS:=d5.trans (d5.rel.alloc (o:=.tup [a,b]) hp);have gp:G2 p=none:=by
   cases q:G2 p with
   |none=>rfl
   |some o=>rw[d5.rel.sub p o q]at hp;cases hp
  have le3:Le G2 (upd G2 p (.tup [a,b])):=Le.upd gp
  refine⟨_,iS,le.trans le3,?_⟩;rw[UB xs ys i f1 f2];exact(rr.mono le3).append (fB (BL D9 (fB (a9.mono (le.trans le3) _ ra) (fB (a9.mono (le.trans le3) _ rb) eY))) eY)
 ·rintro s' H' S vs I' hS hS0 ⟨G2,d5,le,rr⟩
  refine⟨.ref S,_,I',rfl,?_⟩;have rr':B9 X.K G2 vs (P8 xs ys):=by
   have:(P8 xs ys).take (min vx.length vy.length)=P8 xs ys:=by rw[←lz,List.take_length]
   rw[this]at rr;exact rr
  exact AJ d5 hS rr' k
end
section
variable{X:Cx}{B:OE}
def Fp(K:Qq)(neg:Bool):R2:=fun x y H Q=>∃G a ds,Le G H/\a9 K G x a/\(a9 K G y (.lst ds)\/a9 K G y (.tup ds))/\pP a=true/\(j1 a).depth≤60/\PyData.canLayAll0 (L7 ds)=true/\
 Q (.bl (if neg then !((L7 ds).any fun y=>PyData.eqv y (j1 a))else(L7 ds).any fun y=>PyData.eqv y (j1 a))) H
theorem UC(hu:X.A.units+64<cLine):i5 X (compareOp .In) (Fp X.K false):=by
 intro pins s σ H x y v u Q I rx ry h;obtain⟨G,a,ds,l,ra,rb,ha,hd,hb,q⟩:=h;have hl:=Yg ha;obtain⟨as,h1⟩:=gG I l a x v hl rx ra;have hroom:X.A.units+1+min (PyData.depthAll (L7 ds)) (j1 a).depth<cLine:=by
  have:min (PyData.depthAll (L7 ds)) (j1 a).depth≤(j1 a).depth:=Vp _ _
  omega
 rcases rb with rb|rb
 ·obtain⟨bs,h2⟩:=gG I l (.lst ds) y u (by show PyData.canLay0 (.list (L7 ds))=true;simpa [PyData.canLay0]using hb) ry rb
  exact SeqAt.in_list_reads h2 h1 hb hl hroom ⟨.bl _,H,I,rfl,q⟩
 ·obtain⟨bs,h2⟩:=gG I l (.tup ds) y u (by show PyData.canLay0 (.tuple (L7 ds))=true;simpa [PyData.canLay0]using hb) ry rb
  exact SeqAt.in_tuple_reads h2 h1 hb hl hroom ⟨.bl _,H,I,rfl,q⟩
theorem LC(hu:X.A.units+64<cLine):i5 X (compareOp .NotIn) (Fp X.K true):=by
 intro pins s σ H x y v u Q I rx ry h;obtain⟨G,a,ds,l,ra,rb,ha,hd,hb,q⟩:=h;have hl:=Yg ha;obtain⟨as,h1⟩:=gG I l a x v hl rx ra;have hroom:X.A.units+1+min (PyData.depthAll (L7 ds)) (j1 a).depth<cLine:=by
  have:min (PyData.depthAll (L7 ds)) (j1 a).depth≤(j1 a).depth:=Vp _ _
  omega
 rcases rb with rb|rb
 ·obtain⟨bs,h2⟩:=gG I l (.lst ds) y u (by show PyData.canLay0 (.list (L7 ds))=true;simpa [PyData.canLay0]using hb) ry rb
  exact SeqAt.notIn_list_reads h2 h1 hb hl hroom ⟨.bl _,H,I,rfl,q⟩
 ·obtain⟨bs,h2⟩:=gG I l (.tup ds) y u (by show PyData.canLay0 (.tuple (L7 ds))=true;simpa [PyData.canLay0]using hb) ry rb
  exact SeqAt.notIn_tuple_reads h2 h1 hb hl hroom ⟨.bl _,H,I,rfl,q⟩
def DL(neg:Bool):D->D->Option D:=fun a b=>(D.items b).bind fun ds=>if pP a&&decide ((j1 a).depth≤60)&&PyData.canLayAll0 (L7 ds)then
 some (.bl (if neg then !((L7 ds).any fun y=>PyData.eqv y (j1 a))else(L7 ds).any fun y=>PyData.eqv y (j1 a)))else none
theorem Fq{neg:Bool}:jZ X B (Fp X.K neg) (DL neg):=by
 intro G σ env H x y a b d Q rl ra rb e k;obtain⟨ds,e1,e2⟩:=C8 e;split at e2
 ·rename_i h
  rw[Qr,Qr,Jr]at h;cases e2;refine⟨G,a,ds,rl.sub,ra,?_,h.1.1,h.1.2,h.2,k _ G H (.refl rl) (by simp only[a9])⟩
  cases b<;>first|(exact absurd (show(none:Option (List D))=some ds from e1) (by simp))|skip
  ·cases e1;exact .inr rb
  ·cases e1;exact .inl rb
 ·cases e2
end
section
variable{prog:Program}{w:World}{A:Around}{E:OU}{s:Shared}
end
section
variable{X:Cx}{B:OE}{pos:Pos}{es:List Expr}{gs:List D->c7->Option c7}
end
section
variable{K:Qq}{G:Hp}
def UD(K:Qq)(H:Hp)(b:Addr)(k:List Int):Prop:=H b=some (.tup ((Ce k).map kV))\/El K b (Ce k)
end
section
variable{X:Cx}{pins:OA}{σ:St}{H:Hp}{s:Shared}{a b:Addr}{A:Around}{E:OU}{kvs:List (List Key×V)}
end
section
variable{K:Qq}{G:Hp}
end
section
variable{X:Cx}{B:OE}{pos:Pos}{a b e:Expr}{ma mb:Mo D}
theorem Fs{m:Mo D}(σ:St)(H:Hp)(Q:Bool->Hp->Prop)(h:lK X.K B (mT m) σ H Q):tB (TD X.K B m) σ H Q:=by
 obtain⟨G,env,b,env',rl,e,k⟩:=h;unfold mT at e;obtain⟨⟨d,a8⟩,e1,e2⟩:=C8 e;cases d<;>first|(exact absurd (show(none:Option (Bool×c7))=some _ from e2) (by simp))|skip
 cases e2;exact⟨G,env,_,_,rl,e1,fun v G1 H1 ev r=>⟨_,by simpa only[a9]using r,k G1 H1 ev⟩⟩
end
section
variable{X:Cx}{B:OE}{pos p:Pos}{e:Expr}{es:List Expr}{ma:Mo D}{ms:Mo (List D)}
end
section
variable{K:Qq}{B:OE}{G G1 G2:Hp}{σ:St}{env a8:c7}{H H1 H2:Hp}{vs:List V}{ds:List D}{a:Addr}
end
section
variable{X:Cx}{B:OE}{pos p:Pos}{e:Expr}{es:List Expr}{ms:Mo (List D)}{fn:Fn}{k n:Nat}{x:Str}
end
end L2.Mir
namespace L2.Mir
open PySem PySem.Spec PyProof.Rows
def UE:D->Option Str
 |.str x=>if x.length≤1000 then some x else none
 |.int i=>if-1000000000000000000<i/\i<1000000000000000000 then some (Str.ofString (toString i))else none
 |_=>none
def LD:List D->Option Str
 |[]=>some Str.empty
 |d::ds=>(UE d).bind fun x=>(LD ds).map fun y=>x++y
section
variable{X:Cx}{B:OE}{pos p:Pos}{e:Expr}{vs:List Expr}{ma:Mo D}{ms:Mo (List D)}
def PJ(X:Cx)(B:OE)(vs:List Expr)(ms:Mo (List D)):Prop:=∀(pins:OA) (s:Shared) (σ:St) (H:Hp) (acc:Str) (Q:Str->Hp->Prop),Inv X pins σ H s->
 (∃G env ds env' y,Rel X.K B G σ env H/\ms env=some (ds,env')/\LD ds=some y/\acc.length+1000 * ds.length≤sizeLine/\∀G' H',Ev X.K B G σ env H G' σ env' H'->Q (acc++y) H')->
 Joins (model X.prog X.w) X.A X.xe (evalEach vs X.env) acc (fun out s1=>∃H',Inv X pins σ H' s1/\Q out H') s
end
section
variable{X:Cx}{N':List Str}{scope:Scope}{keep:List Bool}{more:Nat}{tg iter elt:Expr}{ifs:List Expr}{gs:List Comprehension}{g:TG}{tt:TT}{act:Addr->S5}{pos:Pos}
theorem UG{wi:TI}{i:Nat}{y:Str}{py spos:Pos}(ok:gM X N' scope keep more)(hc:X.calm=true)(hN:X.N.Nodup)(hy:X.N[i]? =some y)(hyl:X.env.scope.names.lookup y=some .local)
  (hsw:swapsWith (.ListComp elt (⟨tg,iter,ifs,0⟩::gs) scope pos) (some (.Name y py)) spos.line X.env=pure true)
  (hi:PI X tg iter wi)(hg:∀s H fp,PG (D7 X N' scope s H fp) tg g)(ht:∀s H fp,N9 (D7 X N' scope s H fp) ifs tt)(he:∀s H fp p,W7 (D7 X N' scope s H fp) (S4 elt (⟨tg,iter,ifs,0⟩::gs) scope pos 0 (.ref p) (D7 X N' scope s H fp).env) (act p))
  (hs:∀x,foldedSetIterable iter X.env x=pure x:=by intro _;rfl):PS X (.Assign [.Name y py] (.ListComp elt (⟨tg,iter,ifs,0⟩::gs) scope pos) spos) (Bu (Fo wi keep more g tt act) (Bt i)):=by
 intro pins s σ H D I h;rw[exec_Assign_Name_used _ _ _ _ hsw];refine Qz (Ye (Qz ?_));show wpAny _ X.A (do let _←comprehension (.ListComp elt (⟨tg,iter,ifs,0⟩::gs) scope pos) scope X.env _ (newList []) false (eval iter X.env) (some (assign (.Name y py) X.env))) _ _ s
 refine Qz (Qb (Jp (use:=some (assign (.Name y py) X.env)) (Q:=fun _ s'=>SP X pins D .next s') rfl hs ok.clos ok.kind (fun x hx hl=>by have:=ok.uniq x hx;rwa [hl]at this) (eV (hi pins s σ H _ I h) fun v s1 h1=>eV h1 fun itv s2 h2=>?_)) (fun _ s' hq=>Qx (Qx hq)) fun _ _ e=>e)
 obtain⟨it,fp,tn,J,H2,e,I2,T,st2,f2,run⟩:=h2;subst e;refine Kw (Qf:=fun p H'=>D.nx (σ.set i (some (.ref p))) H') (RR:=fun acc C=>compPost (model X.prog X.w) X.A X.xe (some (assign (.Name y py) X.env)) (fun _ s'=>SP X pins D .next s') acc C) ok hc hg ht he I2 T st2 f2 run ?_
 intro p C s' H' m IX qf hn hCL hCc hCn turn;refine Uw (CT (v:=.ref p) (u:=.ref p) IX hN hy (.inl hyl) rfl (fun s'' I'' hs''=>?_) (.inr hyl))
 obtain⟨a,hsb,ha⟩:=hs'';have hCa:C≠a:=by
  rcases ha with z|z
  ·rw[z];exact hCL
  ·exact fun q=>hCc y a z q.symm
 exact⟨m,hn.sameBut hsb hCa,fun h' hs'=>⟨_,H',turn _ H' s'' h' I'' hCn hs',qf⟩⟩
end
section
variable{X:Cx}{B:OE}{N':List Str}{scope jC:Scope}{keep:List Bool}{more n d:Nat}{tg iter elt:Expr}{ifs:List Expr}{gens gs:List Comprehension}{g:OX}{t:Mo Bool}{m:Mo D}{mi:Mo (List D)}{a:Mo (List D)}{pos:Pos}{s:Shared}{H:Hp}{fp:List Addr}{p:Addr}
theorem UH{i:Nat}{y:Str}{py spos:Pos}(ok:gM X N' scope keep more)(hc:X.calm=true)(hN:X.N.Nodup)(hy:X.N[i]? =some y)(hyl:X.env.scope.names.lookup y=some .local)
  (hsw:swapsWith (.ListComp elt (⟨tg,iter,ifs,0⟩::gs) scope pos) (some (.Name y py)) spos.line X.env=pure true)
  (hi:EI X B tg iter mi)(hg:∀s H fp,EG (D7 X N' scope s H fp) B X.N.length tg g)(ht:∀s H fp,N9 (D7 X N' scope s H fp) ifs (lK X.K B t))
  (he:∀s H fp p,pR (D7 X N' scope s H fp) B X.N.length elt (⟨tg,iter,ifs,0⟩::gs) scope pos 0 p a)
  (hs:∀x,foldedSetIterable iter X.env x=pure x:=by intro _;rfl):ES X B (.Assign [.Name y py] (.ListComp elt (⟨tg,iter,ifs,0⟩::gs) scope pos) spos) (M4 i (W8 mi keep more g t a)):=by
 intro pins s σ H D I h;obtain⟨G,env,fl,env',rl,e,k⟩:=h;obtain⟨⟨d,a8⟩,e1,e2⟩:=E8 e;cases e2;exact UG (act:=oW X.K B X.N.length a) ok hc hN hy hyl hsw hi hg ht (fun s H fp p=>he s H fp p) hs pins s σ H D I (Ky ok.klen σ H _ I.len ⟨G,env,d,_,rl,e1,fun a xs G' H' ev ha no h' g' r=>k _ G' H' (ev.setOwn (fun z=>rl.old a z ha) ha no h' g' r)⟩)
end
inductive lQ (X:Cx):List Expr->List Nat->Prop
 |nil:lQ X [] []
 |cons {x:Str}{p:Pos}{i:Nat}{es:List Expr}{is:List Nat}:PE X (.Name x p) (O9 i)->lQ X es is->lQ X (.Name x p::es) (i::is)
section
variable{K:Qq}{B:OE}{G:Hp}{σ:St}{env:c7}{H:Hp}
open Classical in
end
section
variable{X:Cx}{B:OE}{pos p:Pos}{e:Expr}{es:List Expr}{is:List Nat}{fn:Fn}{k n:Nat}{x:Str}
end
end L2.Mir
namespace L2.Mir
open PySem PyProof PyProof.Rows L2
variable{X:Cx}{B:OE}
inductive lR (h:Heap):List Value->OO->Prop
 |nil:lR h [] []
 |cons {a:Addr}{its:Array Value}{k:List Int}{vs:List Value}{ks:OO}(t:IsTup h a its) (i:IntsAre its.toList k) (r:lR h vs ks):lR h (.ref a::vs) (k::ks)
section
open PySem.SeqAt
open PySem.AutoSeq1 (wpAny_loadPart')
open PySem.MeetsSeq PySem.MeetsSeq2 PySem.MeetsSeq3
end
section
variable{prog:Program}{w:World}{A:Around}{E:OU}{s:Shared}
end
section
variable{X:Cx}{B:OE}{pins:OA}{σ:St}{G H:Hp}{s:Shared}
end
section
variable{X:Cx}{B:OE}{e st:Expr}{ma:Mo D}{pos p2:Pos}
theorem IB{e:Expr}{t1 t2:TE}(h1:PE X e t1)(h2:PE X e t2):PE X e (fun σ H Q=>t1 σ H Q\/t2 σ H Q):=fun pins s σ H Q I h=>h.elim (h1 pins s σ H Q I) (h2 pins s σ H Q I)
end
section
variable{prog:Program}{w:World}{A:Around}{E:OU}{s:Shared}
variable{h₀:Heap}{L kS D:Addr}{m:OI}{news0:OA}{e1:Nat}{Fin:List Value->Nat->Shared->Prop}
end
section
variable{X:Cx}{pins:OA}{σ:St}{H:Hp}{s:Shared}
end
section
variable{X:Cx}{B:OE}{e:Expr}{ma:Mo D}{p p1 kp1 kp2 pos:Pos}{j:Nat}{p2:Pos}
end
section
open PySem.SeqAt
open PySem.AutoSeq1 (wpAny_loadPart')
open PySem.MeetsSeq PySem.MeetsSeq2 PySem.MeetsSeq3
end
section
variable{X:Cx}{B:OE}{pos:Pos}{o e:Expr}{ma mb:Mo D}
end
section
variable{K:Qq}{B:OE}{H0 G G':Hp}{σ σ':St}{env env':c7}{H H':Hp}{r:Nat}
end
section
variable(K:Qq)(B:OE)(r:Nat)
end
section
variable{X:Cx}{B:OE}{r:Nat}{e a b:Expr}{pos:Pos}{st:Stmt}{rest:List Stmt}
end
section
variable{X:Cx}{B:OE}{r:Nat}{e a b tg:Expr}{pos:Pos}{st:Stmt}{rest:List Stmt}
end
mutual
def D.lf:D->Bool
 |.non=>true
 |.bl _=>true
 |.int _=>true
 |.str _=>true
 |.tup ds=>qJ ds
 |_=>false
def qJ:List D->Bool
 |[]=>true
 |d::ds=>d.lf&&qJ ds
end
section
variable{K:Qq}{G G':Hp}
mutual
theorem pK(h:∀b xs,G b=some (.tup xs)->G' b=some (.tup xs)):∀(d:D) {v:V},d.lf=true->a9 K G v d->a9 K G' v d
 |.non,v,_,r=>by simpa only[a9]using r
 |.bl b,v,_,r=>by simpa only[a9]using r
 |.int i,v,_,r=>by simpa only[a9]using r
 |.str x,v,_,r=>by simpa only[a9]using r
 |.tup ds,v,l,r=>by
  simp only[a9]at r ⊢;obtain⟨a,xs,e,q,t⟩:=r;exact⟨a,xs,e,q.imp (fun e=>h _ _ e) id,m8 h ds (by simpa only[D.lf]using l) t⟩
 |.lst ds,v,l,r=>by simp[D.lf]at l
 |.emp,v,l,r=>by simp[D.lf]at l
 |.obj o,v,l,r=>by simp[D.lf]at l
 |.dct _ _,v,l,r=>by simp[D.lf]at l
 |.dcx _ _,v,l,r=>by simp[D.lf]at l
theorem m8(h:∀b xs,G b=some (.tup xs)->G' b=some (.tup xs)):∀(ds:List D) {xs:List V},qJ ds=true->B9 K G xs ds->B9 K G' xs ds
 |[],_,_,r=>by simpa only[B9]using r
 |d::ds,_,l,r=>by
  simp only[B9]at r ⊢;obtain⟨x,t,e,q,u⟩:=r;have l':d.lf=true/\qJ ds=true:=by simpa only[qJ,Qr]using l
  exact⟨x,t,e,pK h d l'.1 q,m8 h ds l'.2 u⟩
end
end
section
variable{K:Qq}{B:OE}{H0 G:Hp}{σ:St}{env:c7}{H:Hp}
end
section
variable{X:Cx}{B:OE}{r:Nat}{pos p px:Pos}{fn:Fn}{k n:Nat}{x y:Str}
end
section
variable{K:Qq}{B:OE}{G G1:Hp}{σ σ1:St}{env a8:c7}{H H1:Hp}
end
section
variable{X:Cx}{B:OE}{r:Nat}{N':List Str}{scope:Scope}{keep:List Bool}{more:Nat}{tg iter elt:Expr}{g:OX}{ml mi:Mo (List D)}{pos:Pos}
end
section
variable{X:Cx}{B:OE}{e:Expr}{ma:Mo D}{pos p2:Pos}
def Z7(m:Mo D)(ml mh:Mo (Option Int)):Mo D:=fun env=>(m env).bind fun p=>(ml p.2).bind fun q=>(mh q.2).bind fun r=>match p.1 with
 |.tup ds=>some (.tup (T4 ds q.1 r.1),r.2)
 |.lst ds=>some (.lst (T4 ds q.1 r.1),r.2)
 |_=>none
theorem Ft{lo hi:Option Expr}{ml mh:Mo (Option Int)}(he:ED X B e ma)(hl:EO X B lo ml)(hh:EO X B hi mh):ED X B (.Subscript e (.Slice lo hi none p2) pos) (Z7 ma ml mh):=by
 refine d9 (Pz (oG.or Rh QI) he hl hh) ?_
 rintro σ H Q ⟨G,env,d,env',rl,e,k⟩;obtain⟨⟨d1,a8⟩,e1,e2⟩:=C8 e;obtain⟨⟨l,eW⟩,e3,e4⟩:=C8 e2;obtain⟨⟨u,iT⟩,e5,e6⟩:=C8 e4;dsimp only at e3 e5 e6;split at e6
 ·rename_i ds
  cases e6;refine .bind rl e1 fun v G1 H1 fR r1=>⟨G1,a8,l,eW,fR.rel,e3,fun G2 H2 d5=>⟨G2,eW,u,_,d5.rel,e5,fun G3 H3 iS=>?_⟩⟩
  have r3:=a9.mono (d5.same.trans iS.same) _ r1
  have r30:=r3
  simp only[a9]at r3;obtain⟨p,xs,rfl,q,t⟩:=r3;refine .inl ⟨p,xs,rfl,iS.rel.sub.sqT q,fun hw=>?_,fun l' hp=>?_⟩
  ·rw[t.length]at hw
   exact k _ G3 H3 ((fR.trans d5).trans iS) (by rw[Ri hw];exact r30)
  ·exact k _ _ _ (((fR.trans d5).trans iS).trans (iS.rel.alloc hp)) (BL D9 (B9.mono (Le.upd (iS.rel.gnone hp)) _ (t.cut l u)))
 ·rename_i ds
  cases e6;refine .bind rl e1 fun v G1 H1 fR r1=>⟨G1,a8,l,eW,fR.rel,e3,fun G2 H2 d5=>⟨G2,eW,u,_,d5.rel,e5,fun G3 H3 iS=>?_⟩⟩
  have r3:=a9.mono (d5.same.trans iS.same) _ r1
  simp only[a9]at r3;obtain⟨p,xs,rfl,q,t⟩:=r3;refine .inr ⟨p,xs,rfl,iS.rel.sub.sqL q,fun l' hp=>?_⟩
  exact k _ _ _ (((fR.trans d5).trans iS).trans (iS.rel.alloc hp)) (Em D9 (B9.mono (Le.upd (iS.rel.gnone hp)) _ (t.cut l u)))
 ·cases e6
end
open PySem.W Builtin Builtin.ObjectAttr Builtin.Getset_descriptor PySem.Calls
theorem rX:typeLookup (.type "function") "__getattribute__"=pure (some (.builtin "object.__getattribute__")):=by rfl
theorem uG(self:Value):bindSpecial (Value.builtin "object.__getattribute__") self=pure (Value.builtin "object.__getattribute__",[self]):=by rfl
theorem uH:typeLookup (.type "function") "__class__"=pure (some (.builtin "object.__class__")):=by rfl
theorem sW:isSubtype (.type "function") (.type "object")=pure true:=by rfl
theorem qV:getOf (some (.builtin "object.__class__"))=pure (some (.builtin "getset_descriptor.__get__")):=by rfl
theorem uI:dataDescriptor? (some (.builtin "object.__class__")) (some (.builtin "getset_descriptor.__get__"))=pure (some (.builtin "getset_descriptor.__get__",.builtin "object.__class__")):=by rfl
section
variable{prog:Program}{w:World}{A:Around}{E:OU}{x:Addr}{h:Heap}{g:Array GenState}{d:Drawn}{t:Nat}{os:OsState}
theorem UI{R:Result->Shared->Prop}{tp:Value}(I:KitAt x "function" h)
  (hq:R (.ok (.ret (.type "function"))) ⟨h,g,d,t,os⟩):codeAny (model prog w) A (.call (.builtin "getset_descriptor.__get__") ⟨[.builtin "object.__class__",.ref x,tp],[]⟩) R ⟨h,g,d,t,os⟩:=by
 have L0:=kitAt_ty (M:=model prog w) (T:="function") _ I
 refine codeAny_call_builtin KF.slot_gs.plain KF.entry_gs (KF.slot_gs.check _ _ _ _ _ _ _ _ KF.type_class (KF.args_gs _ _ _) ?_);unfold Builtin.«getset_descriptor.__get__» descrGet;rw[dga_obj];refine Qz (Qx ?_);unfold descrGetter descrCheckInstance descrNameAndClass isInstance;simp only[KF.owner_class]
 repeat (first|with_reducible refine L0.at ?_|wp_step)
 dsimp only;rw[sW]
 repeat (first|with_reducible refine L0.at ?_|wp_step)
 refine⟨Code.quiet_builtin _ (by rfl'),Vq KF.entry_class ?_⟩
 unfold Builtin.«object.__class__» shownTypeOf
 repeat (first|with_reducible refine L0.at ?_|wp_step)
 exact hq
theorem UJ{tk:Tok}{Q:Fin->Shared->Prop}(I:KitAt x "function" h)(hq:Q (.done (.ret (.type "function"))) ⟨h,g,d,t,os⟩):
  wpAny (model prog w) A (Builtin.«object.__getattribute__» ⟨[.ref x,.str "__class__" tk],[]⟩) Q E ⟨h,g,d,t,os⟩:=by
 have L0:=kitAt_ty (M:=model prog w) (T:="function") _ I
 unfold Builtin.«object.__getattribute__»
 repeat (any_goals (first|assumption|with_reducible refine L0.at ?_|wp_step))
 rw[uH];refine Qx ?_
 rw[qV];refine Qz (Qx ?_);rw[uI]
 repeat (any_goals (first|assumption|with_reducible refine L0.at ?_|wp_step))
 refine UI I ?_
 repeat (any_goals (first|assumption|wp_step))
theorem UK{M:Model}{nameV:Value}{Q:Unit->Shared->Prop}(I:KitAt x "function" h)(hq:Q () ⟨h,g,d,t,os⟩):
  wpAny M A (checkBuiltinCall "object.__getattribute__" ⟨[.ref x,nameV],[]⟩) Q E ⟨h,g,d,t,os⟩:=by
 have hk:builtinKind "object.__getattribute__"=some .slot:=by rfl'
 have hsplit:splitId "object.__getattribute__"=some ("object","__getattribute__"):=by rfl'
 have L0:=kitAt_ty (M:=M) (T:="function") _ I
 simp only[checkBuiltinCall,hk,hsplit];refine Qz ?_
 unfold isInstance
 repeat (first|with_reducible refine L0.at ?_|wp_step)
 rw[sW]
 repeat (first|with_reducible refine L0.at ?_|wp_step)
 exact hq
theorem UL{Q:Option Value->Shared->Prop}{s:Shared}(I:KitAt x "function" s.heap)(k:Q (some (.type "function")) ⟨s.heap,s.gens,s.drawn,s.toks+1,s.os⟩):
  wpAny (model prog w) A (getAttr? (.ref x) "__class__") Q E s:=by
 obtain⟨h,g,d,t,os⟩:=s;have L0:=kitAt_ty (M:=model prog w) (T:="function") _ I;unfold getAttr? getAttrBy?
 repeat (any_goals (first|assumption|with_reducible refine L0.at ?_|wp_step))
 rw[rX]
 repeat (any_goals (first|assumption|with_reducible refine L0.at ?_|wp_step))
 rw[uG]
 repeat (any_goals (first|assumption|with_reducible refine L0.at ?_|wp_step))
 refine codeAny_call_builtin (by rfl') F.entry_object_getattribute (UK I (UJ I ?_))
 repeat (any_goals (first|assumption|wp_step))
end
theorem UM{K:Frag}{x:Addr}{o:Obj}(hl:List.lookup x K=some o)(hc:o.cls=.type "function"):KitX K (.ref x) (.type "function") (fun _=>True):=by
 have q:KitX K (.ref x) (.type "function") (KitAt x "function"):=kitx_of (fun M h p=>kitAt_ty M h p) (fun{prog w A E Q s} p k=>UL p k)
 exact⟨fun M h X _=>q.ty M h X (kitAt_K X hl hc),fun M h X _=>q.it M h X (kitAt_K X hl hc),q.ne,fun{prog w A E Q s} X _ k=>q.ca X (kitAt_K X hl hc) k⟩
def LF(K:Qq)(f:Addr):Bool:=match List.lookup f K with
 |some o=>o.cls==.type "function"
 |none=>false
theorem T6{K:Qq}{f:Addr}(h:LF K f=true):PySem.W.KitX K (.ref f) (.type "function") (fun _=>True):=by
 unfold LF at h;split at h
 ·rename_i o e
  exact UM e (eq_of_beq h)
 ·cases h
def k9(K:Qq)(mg:OI)(x:Str):Prop:=∃f,PySem.W.nsIn K mainGlobals x=some (some (.ref f))/\mg x=some (.ref f)/\PySem.W.KitX K (.ref f) (.type "function") (fun _=>True)
section
variable{X:Cx}{B:OE}{e:Expr}{es:List Expr}{p pos:Pos}{y:Str}{i k n:Nat}{as:Mo (List Ar)}
theorem LG{CX}{f:Addr}{fd:FuncData}{ps:List Str}{sp:Sp}{ds:List Value}{dvs:List V}{E:XK}{t:TA}(F:c8 X.prog X.w X.K X.mg X.base CX k f fd ps sp)(hr:fA k X.A)(hv:PE X (.Name y p) (O9 i))(hk:PySem.W.keepIn X.K (.ref f)=true)(hb:L8 X.K fd ps ds)(hd:D6 dvs ds)(hx:Q4 CX X E)
  (ha:PA X (e::es) t)(he:starEach (e::es) X.env=(false,eval e X.env)::starEach es X.env:=by rfl)(hpl:(backTo pos (starEach es X.env)).any (·.1)=false:=by rfl):
  PE X (.Call (.Name y p) (e::es) [] pos) (fun σ H Q=>σ[i]? =some (some (.ref f))/\Ed sp dvs E t σ H Q):=by
 intro pins s σ H Q I ⟨h0,h⟩;refine Zi (eV (hv pins s σ H (fun v H'=>v=.ref f/\H'=H) I ⟨_,h0,rfl,rfl⟩) fun u s0 ⟨v,H',I',r',q'⟩=>?_)
 obtain⟨rfl,rfl⟩:=q';cases r';refine PySem.W.callWith_K (h₀:=X.base) I'.ok.mod.kin hk (eV (ha pos pins s0 σ _ _ I' h) fun us s1 ⟨vs,H1,I1,r,q⟩=>⟨I1.kIn,?_⟩) he hpl
 exact Ef F hr hb hd hx I1 r q
def Aa(X:Cx)(n:Nat)(l:List (Str×Fn)):Prop:=∀nm fn,l.lookup nm=some fn->∃k,fA k X.A/\Def X.prog X.w X.K X.mg X.base nm k n fn/\k9 X.K X.mg nm
def Ab(X:Cx)(n:Nat)(l:List (Str×(List W->Option Str))):Prop:=∀nm g,l.lookup nm=some g->∃k,fA k X.A/\gQ X.prog X.w X.K X.mg X.base nm k n g/\k9 X.K X.mg nm
theorem Be:Aa X n []:=fun nm fn h=>by cases h
theorem UN{x:Str}{fn:Fn}{l:List (Str×Fn)}(hr:fA k X.A)(d:Def X.prog X.w X.K X.mg X.base x k n fn)(hn:k9 X.K X.mg x)(h:Aa X n l):Aa X n ((x,fn)::l):=fun nm fn' e=>by
 rw[List.lookup_cons]at e;split at e
 ·rename_i hb
  cases e;have:nm=x:=eq_of_beq hb;subst this;exact⟨k,hr,d,hn⟩
 ·exact h nm fn' e
theorem LH:Ab X n []:=fun nm fn h=>by cases h
theorem UO{x:Str}{g:List W->Option Str}{l:List (Str×(List W->Option Str))}(hr:fA k X.A)(d:gQ X.prog X.w X.K X.mg X.base x k n g)(hn:k9 X.K X.mg x)(h:Ab X n l):Ab X n ((x,g)::l):=fun nm fn' e=>by
 rw[List.lookup_cons]at e;split at e
 ·rename_i hb
  cases e;have:nm=x:=eq_of_beq hb;subst this;exact⟨k,hr,d,hn⟩
 ·exact h nm fn' e
def oX(n i:Nat)(l:List (Str×Fn))(as:Mo (List Ar)):Mo D:=fun env=>match env[i]? with
 |some (.dat (.obj (.fn nm)))=>(l.lookup nm).bind fun fn=>gJ n fn as env
 |_=>none
theorem LI{G:Hp}{v:V}{nm:Str}{f':Addr}(hn:k9 X.K X.mg nm)(hm:X.mg nm=some (.ref f'))(q:a9 X.K G v (.obj (.fn nm))):v=.ref f':=by
 obtain⟨f0,h1,h2,_⟩:=hn;simp only[a9]at q;obtain⟨f,rfl,h3,_⟩:=q;rw[h1]at h3;rw[h2]at hm;cases h3;cases hm
 rfl
theorem Bf{l:List (Str×Fn)}(ht:Aa X n l)(hv:PE X (.Name y p) (O9 i))(ha:n9 X B (e::es) as)(he:starEach (e::es) X.env=(false,eval e X.env)::starEach es X.env:=by rfl)(hpl:(backTo pos (starEach es X.env)).any (·.1)=false:=by rfl):
  ED X B (.Call (.Name y p) (e::es) [] pos) (oX n i l as):=by
 intro pins s σ H Q I ⟨G,env,d,env',rl,em,kk⟩;unfold oX at em;split at em
 case h_2=>cases em
 rename_i nm hen;obtain⟨fn,e1,e2⟩:=C8 em;obtain⟨k,hr,D,hn⟩:=ht nm fn e1;obtain⟨v,q1,q2⟩:=rl.dat i _ hen;obtain⟨f',fd,ps,F,rfl,hm,hk,hb⟩:=D.ex;have:=LI hn hm q2;subst this;obtain⟨⟨r,a8⟩,e3,e4⟩:=C8 e2;refine LG F hr hv hk hb .nil BI ha he hpl pins s σ H Q I ⟨q1,?_⟩;cases r with
 |d d'=>cases e4;exact FC rl e3 kk
 |l ds=>cases e4
def qZ(n i:Nat)(l:List (Str×(List W->Option Str)))(as:Mo (List Ar)):Mx:=fun env=>match env[i]? with
 |some (.dat (.obj (.fn nm)))=>(l.lookup nm).bind fun g=>N5 n g as env
 |_=>none
theorem LJ{E:XK}{l:List (Str×(List W->Option Str))}(hx:pF X E)(ht:Ab X n l)(hv:PE X (.Name y p) (O9 i))(ha:n9 X B (e::es) as)(he:starEach (e::es) X.env=(false,eval e X.env)::starEach es X.env:=by rfl)(hpl:(backTo pos (starEach es X.env)).any (·.1)=false:=by rfl):
  mM X B E (.Call (.Name y p) (e::es) [] pos) (qZ n i l as):=by
 intro pins s σ H Q I ⟨G,env,c,rl,em,C,hC,w⟩;unfold qZ at em;split at em
 case h_2=>cases em
 rename_i nm hen;obtain⟨g,e0,em⟩:=C8 em;obtain⟨k,hr,D,hn0⟩:=ht nm g e0;obtain⟨v,q1,q2⟩:=rl.dat i _ hen;obtain⟨f',fd,ps,F,rfl,hm,hk,hb⟩:=D.ex;have:=LI hn0 hm q2;subst this;refine LG F hr hv hk hb .nil hx.pass ha he hpl pins s σ H Q I ⟨q1,?_⟩;obtain⟨⟨av,a8⟩,e1,e2⟩:=C8 em;dsimp only at e2;split at e2
 ·rename_i hn
  split at e2
  ·rename_i hs
   refine⟨G,env,av,a8,rl,e1,fun vs G1 H1 ev ra=>?_⟩
   show j2 X.K ps.length g (vs++[]) H1 Q E;rw[Yr];exact⟨G1,av.map (N4 (.l [])),c,C,by rw[Ql];exact hn,AO,AQ (i:=0) (w:=.nil) ev.rel ra (fun k j e=>absurd e (O5 hs k j)) (fun k k' j j' e=>absurd e (O5 hs k j)),e2,hC,
    fun G2 ws' H2 d5=>w σ G2 a8 H2 (ev.trans (AR ev.rel ra hs d5))⟩
  ·cases e2
 ·cases e2
theorem Fu{E:XK}{tg:Expr}{x1:Mx}{m:Nat}{gg:OX}(h:mM X B E e x1)(hg:EG X B m tg gg)(hs:swapsWithSole [tg] e pos.line X.env=pure false:=by rfl)(hw:swappedStores [tg] e X.env=pure none:=by rfl)
  (h1:(assignEach [tg] X.env).map (·.2)=[assign tg X.env]:=by rfl):nZ X B E (.Assign [tg] e pos) x1:=fun pins s σ H D I q=>IJ h hg hs hw h1 pins s σ H D I q
end
section
variable{prog:Program}{w:World}{A:Around}{E:OU}{s:Shared}
end
inductive lS (K:Qq) (G:Hp):List V->List (List Int×V)->Prop
 |nil:lS K G [] []
 |cons {q b:Addr}{k:List Int}{v:V}{xs:List V}{ps:List (List Int×V)}:lJ K G q [.ref b,v]->UD K G b k->lS K G xs ps->lS K G (.ref q::xs) ((k,v)::ps)
section
variable{X:Cx}{pins:OA}{σ:St}{A:Around}{R:Result->Shared->Prop}{l it d:Addr}{xs:List V}{G:Hp}
end
section
variable{X:Cx}{B:OE}
end
end L2.Mir
namespace L2.Mir
open PySem PySem.Spec PyProof.Rows PySem.W
structure uJ(P:Program)(w:World)(K:Frag)(mg:OI)(base:Heap)(x:Str)(k n:Nat)(fn:Fn)(ts:List Addr):Prop where
 ex:∃(f:Addr) (fd:FuncData) (ps:List Str),c8 P w K mg base gA k f fd ps (pJ K ts n fn)/\ps.length=n/\mg x=some (.ref f)/\keepIn K (.ref f)=true/\L8 K fd ps []
section
variable{X:Cx}{B:OE}{pos p:Pos}{e:Expr}{es:List Expr}{as:Mo (List Ar)}{fn:Fn}{k n:Nat}{x:Str}{ts:List Addr}{f:Addr}{fd:FuncData}{ps:List Str}{t:TA}{E:XK}
end
theorem F1{N P:List Str}{sc:Scope}(a:sc.kind=.function:=by rfl)(b:sc.isCoroutine=false:=by rfl)(c:sc.isGenerator=false:=by rfl)(d:N.Nodup:=by rfl')(e:N.take P.length=P:=by rfl)(f:∀x∈P,sc.names.lookup x=some .local\/sc.names.lookup x=some .cell:=by rfl')(g:∀y∈sc.names,y.2≠.free:=by rfl'):b0 N P sc:=⟨a,b,c,d,e,f,g⟩
theorem jS{α:Type}{M:List α->Prop}(h:∀a,M [a]):∀us:List α,us.length=1->M us
 |[a],_=>h a
theorem lZ{α:Type}{M:List α->Prop}(h:∀a b,M [a,b]):∀us:List α,us.length=2->M us
 |[a,b],_=>h a b
theorem sB{α:Type}{M:List α->Prop}(h:∀a b c,M [a,b,c]):∀us:List α,us.length=3->M us
 |[a,b,c],_=>h a b c
def strs?:List D->Option (List Str)
 |[]=>some []
 |.str x::r=>(strs? r).map (x:: ·)
 |_=>none
def Ac:D->D->Option D
 |.str x,.lst ds=>(strs? ds).bind fun ss=>if x.length≤4&&ss.all (fun y=>decide (y.length≤1000))&&decide (ss.length≤1000)&&decide ((Txt.join x ss).length≤100000)then some (.str (Txt.join x ss))else none
 |_,_=>none
section
variable{X:Cx}{B:OE}{pos:Pos}{o e:Expr}{ma mb:Mo D}
theorem LK{K:Qq}{G:Hp}:∀{ds:List D}{xs:List V}{ss:List Str},B9 K G xs ds->strs? ds=some ss->xs=ss.map V.str
 |[],xs,ss,r,e=>by
  simp only[B9]at r;cases e;exact r
 |d::ds,xs,ss,r,e=>by
  simp only[B9]at r;obtain⟨x,t,rfl,r1,r2⟩:=r;unfold strs? at e;split at e
  ·rename_i z;cases z
  ·rename_i y r' z
   cases z;obtain⟨ss',e1,e2⟩:=E8 e;cases e2;simp only[a9]at r1;rw[r1.1,LK r2 e1]
   rfl
  ·cases e
theorem LL:∀{ss:List Str}{us:List Value},D6 (ss.map V.str) us->StrsAre us ss
 |[],_,h=>by cases h;exact .nil
 |s::ss,_,h=>by
  cases h with
  |cons r t=>
   obtain⟨tk,rfl⟩:=r;exact .cons _ _ (LL t)
theorem LM:∀{ss:List Str},(∀a∈ss,a.length≤1000)->(ss.map (·.length)).sum≤ss.length * 1000
 |[],_=>Qv _
 |s::ss,h=>by
  have a:=LM (ss:=ss) fun x hx=>h x (Qi _ hx)
  have b:=h s (Yx ..)
  rw[Zu,List.sum_cons,Zt]
  omega
def LN(K:Qq):V->List V->Hp->VK->Prop:=fun x vs H Q=>∃(sep:Str) (p:Addr) (ss:List Str),x=.str sep/\vs=[.ref p]/\kA K H p (ss.map V.str)/\sep.length≤4/\(∀a∈ss,a.length≤1000)/\ss.length≤1000/\Q (.str (Txt.join sep ss)) H
theorem UP:rT X "str.join" (LN X.K):=by
 intro pins s σ H x vs v us Q I rx rv h;obtain⟨sep,p,ss,rfl,rfl,hq,h1,h2,h3,q⟩:=h;obtain⟨tk,rfl⟩:=rx;obtain⟨u,rfl,ru⟩:=rv.one;cases ru;obtain⟨its,r,pl,hz⟩:=I.list hq;have hw:=LM h2;exact PyProof.Rows.join_listW pl.isList (LL r) (by omega) (by omega) fun t' k=>⟨.str (Txt.join sep ss),H,I.tok k,⟨t',rfl⟩,q⟩
theorem Bg{apos cpos:Pos}(ho:ED X B o ma)(he:ED X B e mb)
  (hbase:attributeBase o "join" X.env (eval o X.env)=eval o X.env:=by rfl)
  (hfew:((backTo cpos (starEach [e] X.env)).all (fun x=>!x.1)&&(backToKw cpos (keywordEach [] X.env)).all (fun x=>x.1.isSome)
   &&decide ([e].length+([]:List Keyword).length+(if([]:List Keyword).isEmpty then 0 else 1)<30))=true:=by rfl)
  (hline:(apos.endLine==cpos.line)=true:=by rfl)(hs:starEach [e] X.env=(false,eval e X.env)::starEach [] X.env:=by rfl)(hplain:(backTo cpos (starEach [] X.env)).any (·.1)=false:=by rfl):
  ED X B (.Call (.Attribute o "join" apos) [e] [] cpos) (C7 Ac ma mb):=by
 intro pins s σ H Q I h;obtain⟨G,env,d,env',rl,em,k⟩:=h;obtain⟨⟨d1,a8⟩,e1,e2⟩:=C8 em;obtain⟨⟨d2,eW⟩,e3,e4⟩:=C8 e2;obtain⟨d3,e5,e6⟩:=E8 e4;cases e6;dsimp only at e3 e5;unfold Ac at e5;split at e5
 ·rename_i sep ds
  obtain⟨ss,e7,e8⟩:=C8 e5;split at e8
  case isFalse=>cases e8
  rename_i hc;cases e8;simp only[Qr,Jr,Yv]at hc;obtain⟨⟨⟨c1,c2⟩,c3⟩,c4⟩:=hc;refine Ug hbase hfew hline rfl (eV (ho pins s σ H (fun x H1=>∃G1,x=.str sep/\Ev X.K B G σ env H G1 σ a8 H1) I ⟨G,env,_,a8,rl,e1,fun v G1 H1 fR r1=>?_⟩) fun v s1 ⟨x,H1,I1,r1,G1,hx,fR⟩=>?_)
  ·simp only[a9]at r1
   exact⟨G1,r1.1,fR⟩
  ·subst hx
   obtain⟨tk,rfl⟩:=r1;refine⟨"str","str.join",PySem.F.plainAttrs_str,PySem.F.slot_str_join,PySem.F.type_str_join,rfl,(fun a' z=>by cases z),?_⟩
   have hA:=(M7 he Q3 hs) cpos pins s1 σ H1 (fun vs H2=>LN X.K (.str sep) vs H2 Q) I1 ⟨G1,a8,_,eW,fR.rel,e3,fun v2 G2 H2 d5 r2=>by
    simp only[a9]at r2;obtain⟨a,xs,rfl,hq,rp⟩:=r2;have hb:=LK rp e7;subst hb;refine⟨sep,a,ss,rfl,rfl,d5.rel.sub.sqL hq,c1,fun y hy=>c2 y hy,c3,k _ G2 H2 (fR.trans d5) ?_⟩
    simp only[a9];exact⟨trivial,Qe c4 (by decide)⟩⟩
   rw[hs]at hA ⊢;refine Uh (by show(false||(backTo cpos (starEach [] X.env)).any (·.1))=false;rw[hplain]<;>rfl) (Jt ?_)
   exact eV hA fun us s2 ⟨vs,H2,I2,r2,q2⟩=>UP pins s2 σ H2 (.str sep) vs (.str sep tk) us Q I2 ⟨tk,rfl⟩ r2 q2
 ·cases e5
end
def S7(x sep:Str):List Str:=
 if(decide (x.length<sep.length)||decide (Builtin.Str.strKind x<Builtin.Str.strKind sep))=true then[x]
 else if(Builtin.Str.occurrences x sep 0 x.length (x.length+1)).isEmpty=true then[x]
 else Builtin.Str.partsBetween x (Builtin.Str.occurrences x sep 0 x.length (x.length+1)) sep.length
theorem LO{prog:Program}{w:World}{A:Around}{E:OU}:∀{ss:List Str}{s:Shared}{Q:List Value->Shared->Prop},(∀y∈ss,y.length≤sizeLine)->(∀vs tk,D6 (ss.map V.str) vs->Q vs {s with toks:=tk})->wpAny (model prog w) A (ss.mapM mkStr) Q E s
 |[],s,Q,_,h=>by
  rw[List.mapM_nil];exact Qx (h [] s.toks .nil)
 |y::ss,s,Q,hl,h=>by
  rw[List.mapM_cons];refine Qz (wpAny_mkStr (hx:=hl y (Yx ..)) ?_);refine Qz (LO (fun z hz=>hl z (Qi _ hz)) fun vs tk hv=>?_)
  exact Qx (h _ tk (.cons ⟨s.toks,rfl⟩ hv))
theorem UQ(x sep:Str)(t u:Tok):Meets (Builtin.«str.split» ⟨[.str x t,.str sep u],[]⟩) (fun _ R s=>(sep.length==0)=false/\(∀y∈S7 x sep,y.length≤sizeLine)/\(S7 x sep).length≤sizeLine/\∀vs tk,D6 ((S7 x sep).map V.str) vs->R (.ok (.ret (.ref s.heap.objs.size))) {s with heap:=s.heap.push {cls:=.type "list",data:=.seq vs.toArray},toks:=tk}):=by
 intro prog w A R s ⟨h0,h1,h2,h⟩;have one:S7 x sep=[x]->∀s':Shared,s'=s->wpAny (model prog w) A.in1 (newList [.str x t]>>=fun l=>ret l) (fun fin s'=>match fin with|.done f=>R (.ok f) s'|.again c'=>c'.quiet=true/\codeAny (model prog w) A c' R s') (fun e s'=>R (.error e) s') s':=by
  intro e s' hs;subst hs;refine Qz (wpAny_newList ?_);refine Qx ?_
  have:=h [.str x t] s'.toks (by rw[e];exact .cons ⟨t,rfl⟩ .nil)
  exact this
 have e1:Builtin.Str.strSelf ⟨[.str x t,.str sep u],[]⟩=pure (.str x t,x,[.str sep u]):=by
  unfold Builtin.Str.strSelf Builtin.Str.textOf asStr?;simp only[Us]
 have e2:Builtin.Str.bindOptional "str.split" "split" 0 ["sep","maxsplit"] [.str sep u] []=pure [some (.str sep u),none]:=by
  unfold Builtin.Str.bindOptional;dsimp only;rw[Qd (by simp),Qd (by simp)]
  rfl
 have e3:asStr? (.str sep u)=pure (some sep):=rfl
 unfold Builtin.«str.split»;rw[e1,Us];dsimp only;rw[e2,Us];dsimp only;unfold Builtin.Str.countLimit;dsimp only;rw[Us];rw[Qd (by simp)]
 show wpAny _ A.in1 (asStr? (.str sep u)>>=_) _ _ s;rw[e3,Us];dsimp only
 by_cases c1:(decide (x.length<sep.length)||decide (Builtin.Str.strKind x<Builtin.Str.strKind sep))=true
 ·rw[Qt c1]
  refine Qz (Jm ?_);exact one (by unfold S7;rw[Qt c1]) _ rfl
 ·rw[Qd c1,Qd (by rw[h0];simp)]
  by_cases c2:(Builtin.Str.occurrences x sep 0 x.length (x.length+1)).isEmpty=true
  ·rw[Qt (show(Builtin.Str.isExactStr (Value.str x t)&&(Builtin.Str.occurrences x sep 0 x.length (x.length+1)).isEmpty)=true by rw[c2];rfl)]
   refine Qz (Jm ?_);exact one (by unfold S7;rw[Qd c1,Qt c2]) _ rfl
  ·rw[Qd (show ¬ (Builtin.Str.isExactStr (Value.str x t)&&(Builtin.Str.occurrences x sep 0 x.length (x.length+1)).isEmpty)=true by rw[Bool.not_eq_true]at c2;rw[c2];simp)]
   have e:S7 x sep=Builtin.Str.partsBetween x (Builtin.Str.occurrences x sep 0 x.length (x.length+1)) sep.length:=by unfold S7;rw[Qd c1,Qd c2]
   rw[←e];refine Qz (LO h1 fun vs tk hv=>?_)
   refine Qz (wpAny_newList (hsz:=by rw[←hv.length,Ql];exact h2) ?_)
   exact Qx (h vs tk hv)
def LP:D->D->Option (List D)
 |.str x,.str sep=>if !(sep.length==0)&&(S7 x sep).all (fun y=>decide (y.length≤100000))&&decide ((S7 x sep).length≤100000)then some ((S7 x sep).map D.str)else none
 |_,_=>none
def DM(ma mb:Mo D):Mo (List D):=fun env=>(ma env).bind fun p=>(mb p.2).bind fun q=>(LP p.1 q.1).map fun ds=>(ds,q.2)
theorem DN{K:Qq}{G:Hp}:∀{ss:List Str},(∀y∈ss,y.length≤sizeLine)->B9 K G (ss.map V.str) (ss.map D.str)
 |[],_=>eY
 |y::ss,h=>fB (by simp only[a9];exact⟨trivial,h y (Yx ..)⟩) (DN fun z hz=>h z (Qi _ hz))
section
variable{X:Cx}{B:OE}{pos:Pos}{o e:Expr}{ma mb:Mo D}
theorem DO{apos cpos:Pos}(ho:ED X B o ma)(he:ED X B e mb)
  (hbase:attributeBase o "split" X.env (eval o X.env)=eval o X.env:=by rfl)
  (hfew:((backTo cpos (starEach [e] X.env)).all (fun x=>!x.1)&&(backToKw cpos (keywordEach [] X.env)).all (fun x=>x.1.isSome)
   &&decide ([e].length+([]:List Keyword).length+(if([]:List Keyword).isEmpty then 0 else 1)<30))=true:=by rfl)
  (hline:(apos.endLine==cpos.line)=true:=by rfl)(hs:starEach [e] X.env=(false,eval e X.env)::starEach [] X.env:=by rfl)(hplain:(backTo cpos (starEach [] X.env)).any (·.1)=false:=by rfl):
  EL X B (.Call (.Attribute o "split" apos) [e] [] cpos) (DM ma mb):=by
 intro pins s σ H Q I h;obtain⟨G,env,ds,env',rl,em,k⟩:=h;obtain⟨⟨d1,a8⟩,e1,e2⟩:=C8 em;obtain⟨⟨d2,eW⟩,e3,e4⟩:=C8 e2;obtain⟨ds',e5,e6⟩:=E8 e4;cases e6;dsimp only at e3 e5;unfold LP at e5;split at e5
 ·rename_i x sep
  split at e5
  case isFalse=>cases e5
  rename_i hc;cases e5;simp only[Qr,Jr,Yv,Ub]at hc;obtain⟨⟨c1,c2⟩,c3⟩:=hc;refine Ug hbase hfew hline rfl (eV (ho pins s σ H (fun v H1=>∃G1,v=.str x/\Ev X.K B G σ env H G1 σ a8 H1) I ⟨G,env,_,a8,rl,e1,fun v G1 H1 fR r1=>?_⟩) fun v s1 ⟨y,H1,I1,r1,G1,hx,fR⟩=>?_)
  ·simp only[a9]at r1
   exact⟨G1,r1.1,fR⟩
  ·subst hx
   obtain⟨tk,rfl⟩:=r1;refine⟨"str","str.split",PySem.F.plainAttrs_str,PySem.F.slot_str_split,PySem.F.type_str_split,rfl,(fun a' z=>by cases z),?_⟩
   have hA:=(M7 he Q3 hs) cpos pins s1 σ H1 (fun vs H2=>vs=[.str sep]/\∃G2,Ev X.K B G σ env H G2 σ eW H2) I1 ⟨G1,a8,_,eW,fR.rel,e3,fun v2 G2 H2 d5 r2=>by
    simp only[a9]at r2;exact⟨by rw[r2.1],G2,fR.trans d5⟩⟩
   rw[hs]at hA ⊢;refine Uh (by show(false||(backTo cpos (starEach [] X.env)).any (·.1))=false;rw[hplain]<;>rfl) (Jt ?_)
   refine eV hA fun us s2 ⟨vs,H2,I2,r2,hv,G2,d5⟩=>?_
   subst hv;obtain⟨u,rfl,ru⟩:=r2.one;obtain⟨tu,rfl⟩:=ru;refine call_meets PySem.F.slot_str_split rfl PySem.F.entry_str_split (PySem.F.args_str_split_2 _ _) (UQ x sep tk tu) ⟨c1,fun y hy=>Qe (c2 y hy) (by decide),Qe c3 (by decide),fun vs t' hv=>?_⟩
   have hn:H2 s2.heap.objs.size=none:=I2.hok.fresh (Qv _)
   refine⟨.ref s2.heap.objs.size,_,I2.laid (a:=s2.heap.objs.size) (o:=.lst ((S7 x sep).map V.str)) (t':=t') (fun _ _ q=>Qj _ q) (Qv _) ⟨?_,vs,0,hv,Qw _ rfl⟩,rfl,AJ d5 hn (DN fun y hy=>Qe (c2 y hy) (by decide)) k⟩
   rw[Ql];exact Qe c3 (by decide)
 ·cases e5
end
def signs(x:Str):List D:=x.cps.toList.map fun c=>D.str ⟨#[c]⟩
def sX(x:Str):It:=⟨fun i _=>i<x.cps.size,fun i H y H'=>H'=H/\∃c,x.cps[i]? =some c/\y=.str ⟨#[c]⟩,fun i _=>x.cps.size≤i⟩
theorem UR{P:Program}{w:World}{K:Qq}{tg:Expr}(it:Addr)(x:Str)(t:Tok):Turn P w K tg (sX x) [it] it (fun i h=>h.IsStrIter it "str_ascii_iterator" x t i/\i≤x.cps.size)where
 mem:=by simp
 obj:=fun i h st b hb=>by
  have e:b=it:=by simpa using hb
  subst e;obtain⟨⟨o,e,c,d⟩,_⟩:=st;exact⟨o,e,fun v z=>by rw[d]at z;cases z⟩
 keep:=fun i h h' st k=>by
  obtain⟨⟨o,e,c,d⟩,hi⟩:=st;exact⟨⟨o,k it (by simp) _ e,c,d⟩,hi⟩
 item:=by
  intro X hP hw hK hc i pins s σ H E I hf st hg;subst hP hw hK;obtain⟨f0,f1,f2,f3,f4,f5⟩:=hf it (by simp)
  have W:=Walks.strAscii (prog:=X.prog) (w:=X.w) (I.ok.hd hc) it x t
  refine W.item i s _ _ hg st.1 fun v h' tk hv st' kk=>?_
  obtain⟨c,u,h1,rfl⟩:=hv;have I1:Inv X pins σ H {s with heap:=h',toks:=tk}:=I.turned (fun b o hb e=>kk b o (by simpa using hb) e) f0 f1 f3 f4 f5
  obtain⟨o,e,oc,od⟩:=id st';have hi:i<x.cps.size:=hg;exact⟨_,rfl,CW (s:={s with heap:=h',toks:=tk}) (n:="str_ascii_iterator") e oc od (by decide) ⟨.str ⟨#[c]⟩,H,I1,⟨u,rfl⟩,⟨rfl,c,h1,rfl⟩,⟨st',hi⟩,fun b hb=>(hf b hb).1⟩⟩
 done:=by
  intro X hP hw hK hc i pins s σ H E I hf st hg;subst hP hw hK;obtain⟨f0,f1,f2,f3,f4,f5⟩:=hf it (by simp)
  have W:=Walks.strAscii (prog:=X.prog) (w:=X.w) (I.ok.hd hc) it x t
  have hi:x.cps.size≤i:=hg
  have e:i=x.cps.size:=Nat.le_antisymm st.2 hi
  subst e;exact W.done s _ _ st.1 fun h' tk kk=>⟨rfl,I.turned (fun b o hb e=>kk b o (by simpa using hb) e) f0 f1 f3 f4 f5⟩
 self:=fun A i s Q E st h=>by
  exact wpAny_pyIter_striter_ascii st.1 h
theorem US{K:Qq}{G:Hp}{x:Str}:pA K (sX x) G (signs x)where
 go:=fun i H l hi=>by
  have h:i<x.cps.size:=by simpa [signs]using hi
  exact h
 stop:=fun i H l hi=>by
  have h:x.cps.size≤i:=by simpa [signs]using hi
  exact h
 yld:=fun i H y H' d l z e=>by
  obtain⟨rfl,c,h1,rfl⟩:=z;refine .inl ⟨rfl,?_⟩;unfold signs at e;rw[Zc,Array.getElem?_toList,h1]at e;cases e;simp only[a9];exact⟨trivial,by show 1≤sizeLine;decide⟩
def DP(m:Mo D):Mo (List D):=fun env=>(m env).bind fun p=>match p.1 with
 |.str x=>if x.cps.all (fun c=>decide (c<128))then some (signs x,p.2)else none
 |_=>none
section
variable{X:Cx}{B:OE}{tg e:Expr}{ma:Mo D}
theorem DQ(h:ED X B e ma):EI X B tg e (DP ma):=by
 intro pins s σ H R I q;obtain⟨G,env,ds,env',rl,em,k⟩:=q;obtain⟨⟨d,a8⟩,e1,e2⟩:=C8 em;dsimp only at e2;split at e2
 case h_2=>cases e2
 rename_i x;split at e2
 case isFalse=>cases e2
 rename_i ha;cases e2;refine eV (h pins s σ H (fun v H1=>∃G1,v=.str x/\Ev X.K B G σ env H G1 σ env' H1) I ⟨G,env,_,env',rl,e1,fun v G1 H1 fR r1=>?_⟩) fun v s1 ⟨y,H1,I1,r1,G1,hy,fR⟩=>?_
 ·simp only[a9]at r1
  exact⟨G1,r1.1,fR⟩
 ·subst hy
  obtain⟨t,rfl⟩:=r1;refine wpAny_pyIter_strU ?_
  have ht:strIterType x="str_ascii_iterator":=by unfold strIterType;rw[Qt ha]
  rw[ht];refine⟨s1.heap.objs.size,[s1.heap.objs.size],_,_,H1,rfl,I1.kept (t':=s1.toks) fun b o e=>Qj _ e,UR _ x t,⟨⟨_,Qw _ rfl,rfl,rfl⟩,Yb _⟩,fun b hb=>?_,k _ G1 H1 fR US⟩
  have e:b=s1.heap.objs.size:=by simpa using hb
  subst e;exact I1.fpOk (Qv _) (I1.hok.fresh (Qv _))
end
section
variable{X:Cx}{B:OE}{pos:Pos}{e e2:Expr}{ma mb:Mo D}
end
def oK:List (Key×Key)->Key->Option Key
 |[],_=>none
 |p::l,k=>if p.1=k then some p.2 else oK l k
structure oA(P:Program)(w:World)(K:Qq)(mg:OI)(x:Str)(kvs:List (Key×Key)):Prop where
 ex:∃a,mg x=some (.ref a)/\(a==sysModules)=false/\∀h:Heap,K.In h->(∃o,h.get? a=some o/\o.cls=.type "dict")/\∃g:Key->Option Value,h.MapOf (F7 P w) a g/\∀k,N8 ((oK kvs k).map kV) (g k)
def W9:D->Option Key
 |.int i=>some (.inl i)
 |.str x=>some (.inr x)
 |_=>none
def Fv:Key->Option D
 |.inl i=>some (.int i)
 |.inr x=>if x.length≤100000 then some (.str x)else none
theorem Z8{K:Qq}{G:Hp}{v:V}{d:D}{k:Key}(r:a9 K G v d)(h:W9 d=some k):v=kV k:=by
 cases d<;>first|(exact absurd (show(none:Option Key)=some k from h) (by simp))|skip
 ·cases h
  simp only[a9]at r;exact r
 ·cases h
  simp only[a9]at r;exact r.1
theorem UT{K:Qq}{G:Hp}{k:Key}{d:D}(h:Fv k=some d):a9 K G (kV k) d:=by
 cases k with
 |inl i=>cases h;simp only[a9];rfl
 |inr x=>
  unfold Fv at h;dsimp only at h;split at h
  ·rename_i hl
   cases h;simp only[a9];exact⟨rfl,Qe hl (by decide)⟩
  ·cases h
def Fw(kvs:List (Key×Key))(mb:Mo D):Mo D:=fun env=>(mb env).bind fun p=>(W9 p.1).bind fun k=>(oK kvs k).bind fun v=>(Fv v).map fun d=>(d,p.2)
def Fx(kvs:List (Key×Key))(ma:Mo D):Mo D:=fun env=>(ma env).bind fun p=>(W9 p.1).map fun k=>(.bl (oK kvs k).isSome,p.2)
section
variable{X:Cx}{B:OE}{pos:Pos}{a b:Expr}{ma mb:Mo D}{kvs:List (Key×Key)}
theorem Fy{x:Str}{p:Pos}(hk:oA X.prog X.w X.K X.mg x kvs)(hg:Gl X x)(hb:ED X B b mb)(hs:AH b)(hd:(x==("__debug__":Str))=false:=by decide):
  ED X B (.Subscript (.Name x p) b pos) (Fw kvs mb):=by
 intro pins s σ H Q I h;obtain⟨G,env,d,env',rl,em,kk⟩:=h;obtain⟨⟨d1,a8⟩,e1,e2⟩:=C8 em;obtain⟨key,e3,e4⟩:=C8 e2;obtain⟨v,e5,e6⟩:=C8 e4;obtain⟨d2,e7,e8⟩:=E8 e6;cases e8;obtain⟨q,hm,hn,hall⟩:=hk.ex;refine Cc Jw.lookup hs (eV (V4 (v:=.ref q) hg hm rfl hd pins s σ H (fun v H1=>v=.ref q/\H1=H) I ⟨rfl,rfl⟩) fun u s1 ⟨y,H1,I1,ry,z1,z2⟩=>?_)
 subst z1 z2;cases ry;refine eV (hb pins s1 σ H1 (fun v H2=>∃G2,Ev X.K B G σ env H1 G2 σ a8 H2/\a9 X.K G2 v d1) I1 ⟨G,env,d1,a8,rl,e1,fun v G2 H2 ev r=>⟨G2,ev,r⟩⟩) fun iv s2 ⟨y,H2,I2,ry,G2,ev,r⟩=>?_
 have hv:=Z8 r e3
 subst hv;obtain⟨⟨o,ho,hc⟩,g,hmap,hrel⟩:=hall s2.heap I2.kIn;have hr:=hrel key;rw[e5]at hr;obtain⟨w',hw,rw'⟩:=N8.some_of (v:=kV v) (o:=g key) hr;exact⟨⟨o,ho,hc⟩,wpAny_getItem_of (M8 ry) hmap hw ⟨kV v,H2,I2.tok _,rw',kk _ G2 H2 ev (UT e7)⟩⟩
theorem UU{x:Str}{p:Pos}(hk:oA X.prog X.w X.K X.mg x kvs)(hg:Gl X x)(ha:ED X B a ma)(hd:(x==("__debug__":Str))=false:=by decide):PC X .In a (.Name x p) (TD X.K B (Fx kvs ma)):=by
 intro pins s σ H Q I h;obtain⟨G,env,d,env',rl,em,kk⟩:=h;obtain⟨⟨d1,a8⟩,e1,e2⟩:=C8 em;obtain⟨key,e3,e4⟩:=E8 e2;cases e4;obtain⟨q,hm,hn,hall⟩:=hk.ex;refine eV (ha pins s σ H (fun v H1=>∃G1,Ev X.K B G σ env H G1 σ a8 H1/\a9 X.K G1 v d1) I ⟨G,env,d1,a8,rl,e1,fun v G2 H2 ev r=>⟨G2,ev,r⟩⟩) fun iv s1 ⟨y,H1,I1,ry,G1,ev,r⟩=>?_
 refine eV (V4 (v:=.ref q) hg hm rfl hd pins s1 σ H1 (fun v H2=>v=.ref q/\H2=H1) I1 ⟨rfl,rfl⟩) fun u s2 ⟨x',H2,I2,rx,z1,z2⟩=>?_
 subst z1 z2;cases rx;have hv:=Z8 r e3;subst hv;obtain⟨_,g,hmap,hrel⟩:=hall s2.heap I2.kIn;have hr:=(hrel key).isSome_eq;rw[Option.isSome_map]at hr;refine wpAny_in_of (M8 ry) hn hmap ⟨.bl (oK kvs key).isSome,H2,I2.tok _,by rw[hr];rfl,kk _ G1 H2 ev (by simp only[a9])⟩
end
section
variable{X:Cx}{B:OE}{pos:Pos}{k1 k2 k3 v1 v2 v3:Expr}{a1 a2 a3 b1 b2 b3:Key}
theorem LQ{kvs:List (Key×Key)}{a:Expr}{ma:Mo D}{x:Str}{p:Pos}(hk:oA X.prog X.w X.K X.mg x kvs)(hg:Gl X x)(ha:ED X B a ma)(hm:behindInMarks .In (.Name x p)=false)(hd:(x==("__debug__":Str))=false:=by decide):ED X B (.Compare a [.In] [.Name x p] pos) (Fx kvs ma):=
 Hz (UU hk hg ha hd) hm
end
inductive l0 (P:Program) (w:World):List DictEntry->List (Key×Key)->Prop
 |nil:l0 P w [] []
 |cons {e:DictEntry}{p:Key×Key}{es:List DictEntry}{kvs:List (Key×Key)}:E3 (kV p.1) e.key->e.hash=(F7 P w).hash p.1->E3 (kV p.2) e.val->l0 P w es kvs->l0 P w (e::es) (p::kvs)
theorem l0.keys{P:Program}{w:World}{es:List DictEntry}{kvs:List (Key×Key)}(h:l0 P w es kvs):∀e∈es,∃k,(F7 P w).is k e.key=true/\e.hash=(F7 P w).hash k:=by
 induction h with
 |nil=>intro e he;cases he
 |cons h1 h2 h3 _ ih=>
  intro e he
  rcases Qg.mp he with rfl|he
  ·exact⟨_,M8 h1,h2⟩
  ·exact ih e he
theorem l0.find{P:Program}{w:World}{es:List DictEntry}{kvs:List (Key×Key)}(h:l0 P w es kvs)(k:Key):N8 ((oK kvs k).map kV) ((es.find? fun e=>(F7 P w).is k e.key).map (·.val)):=by
 induction h with
 |nil=>exact trivial
 |@cons e p es kvs h1 h2 h3 _ ih=>
  by_cases hk:p.1=k
  ·have e1:oK (p::kvs) k=some p.2:=Qt hk
   have e2:(F7 P w).is k e.key=true:=by rw[←hk];exact M8 h1
   rw[e1,Yi,e2];exact h3
  ·have e1:oK (p::kvs) k=oK kvs k:=Qd hk
   have e2:(F7 P w).is k e.key=false:=by
    cases hq:(F7 P w).is k e.key with
    |false=>rfl
    |true=>exact absurd ((F7 P w).inj _ _ _ (M8 h1) hq) hk
   rw[e1,Yi,e2];exact ih
theorem LR{P:Program}{w:World}{K:Qq}{mg:OI}{x:Str}{kvs:List (Key×Key)}{a:Addr}{es:List DictEntry}{ep:Nat}(hm:mg x=some (.ref a))(hl:K.lookup a=some ⟨.type "dict",none,.dict ⟨es⟩ ep,⟨[]⟩⟩)(hz:(a==sysModules)=false)(he:l0 P w es kvs):oA P w K mg x kvs:=by
 refine⟨a,hm,hz,fun h hin=>⟨⟨_,hin a _ hl,rfl⟩,findBy (F7 P w).is ⟨es⟩,⟨_,⟨es⟩,ep,hin a _ hl,⟨rfl,rfl,rfl⟩,rfl,fun e he'=>he.keys e (by simpa using he'),fun _=>rfl⟩,fun k=>?_⟩⟩
 have:=he.find k;unfold findBy;rw[←Array.find?_toList];exact this
section
variable{X:Cx}{B:OE}{a b e st:Expr}{ma mb:Mo D}{pos p2:Pos}
def uK:D->D->Option D
 |.str z,.int i=>(mL z.cps.toList i).map fun c=>.str ⟨#[c]⟩
 |_,_=>none
def Fz:List D->Option D
 |[.str z]=>some (.int z.length)
 |_=>none
theorem LS:R9 X B (fun xs H Q=>∃z,xs=[.str z]/\z.length≤sizeLine/\Q (.int z.length) H) Fz:=by
 intro G σ env H xs ds c Q rl r e k
 match ds,e with
 |[.str z],e=>
  obtain⟨x,rfl,q⟩:=Q9 r;simp only[a9]at q;obtain⟨rfl,hz⟩:=q;cases e;exact⟨z,rfl,hz,k _ G H (.refl rl) (by simp only[a9])⟩
end
def nH:List (Str×Str)->Key->Option Str
 |[],_=>none
 |p::l,k=>if(.inr p.1:Key)=k then some p.2 else nH l k
def LU(mg:OI):Option Str->Option Value->Prop
 |none,o=>o=none
 |some n,o=>∃f,mg n=some (.ref f)/\o=some (.ref f)
structure mO(P:Program)(w:World)(K:Qq)(mg:OI)(x:Str)(kvs:List (Str×Str)):Prop where
 ex:∃a,mg x=some (.ref a)/\(a==sysModules)=false/\∀h:Heap,K.In h->(∃o,h.get? a=some o/\o.cls=.type "dict")/\∃g:Key->Option Value,h.MapOf (F7 P w) a g/\∀k,LU mg (nH kvs k) (g k)
 wk:(kvs.map fun p=>(.inr p.1:Key)).Nodup->∃a vs ep,mg x=some (.ref a)/\(a==sysModules)=false/\vs.map (·.1)=kvs.map (fun p=>(.inr p.1:Key))/\∀h:Heap,K.In h->h.DictAt (F7 P w) a vs ep
theorem LV:∀{kvs:List (Str×Str)}{k:Key}{n:Str},nH kvs k=some n->∃p∈kvs,p.2=n
 |[],_,_,h=>by cases h
 |p::l,k,n,h=>by
  unfold nH at h;split at h
  ·cases h
   exact⟨p,Yx ..,rfl⟩
  ·obtain⟨q,hq,e⟩:=LV h
   exact⟨q,Qi _ hq,e⟩
def Z9(kvs:List (Str×Str))(mb:Mo D):Mo D:=fun env=>(mb env).bind fun p=>(W9 p.1).bind fun k=>(nH kvs k).map fun n=>(.obj (.fn n),p.2)
def AA(kvs:List (Str×Str))(ma:Mo D):Mo D:=fun env=>(ma env).bind fun p=>(W9 p.1).map fun k=>(.bl (nH kvs k).isSome,p.2)
section
variable{X:Cx}{B:OE}{pos:Pos}{a b:Expr}{ma mb:Mo D}{kvs:List (Str×Str)}
theorem Ad{K:Qq}{mg:OI}:∀q∈([]:List (Str×Str)),k9 K mg q.2:=fun q hq=>by cases hq
theorem F8{K:Qq}{mg:OI}{k n:Str}{l:List (Str×Str)}(h:k9 K mg n)(t:∀q∈l,k9 K mg q.2):∀q∈(k,n)::l,k9 K mg q.2:=fun q hq=>by
 rcases Qg.mp hq with rfl|hq
 ·exact h
 ·exact t q hq
theorem Ae{x:Str}{p:Pos}(hk:mO X.prog X.w X.K X.mg x kvs)(hn:∀q∈kvs,k9 X.K X.mg q.2)(hg:Gl X x)(hb:ED X B b mb)(hs:AH b)(hd:(x==("__debug__":Str))=false:=by decide):
  ED X B (.Subscript (.Name x p) b pos) (Z9 kvs mb):=by
 intro pins s σ H Q I h;obtain⟨G,env,d,env',rl,em,kk⟩:=h;obtain⟨⟨d1,a8⟩,e1,e2⟩:=C8 em;obtain⟨key,e3,e4⟩:=C8 e2;obtain⟨n,e5,e6⟩:=E8 e4;cases e6;obtain⟨q,hm,hz,hall⟩:=hk.ex;refine Cc Jw.lookup hs (eV (V4 (v:=.ref q) hg hm rfl hd pins s σ H (fun v H1=>v=.ref q/\H1=H) I ⟨rfl,rfl⟩) fun u s1 ⟨y,H1,I1,ry,z1,z2⟩=>?_)
 subst z1 z2;cases ry;refine eV (hb pins s1 σ H1 (fun v H2=>∃G2,Ev X.K B G σ env H1 G2 σ a8 H2/\a9 X.K G2 v d1) I1 ⟨G,env,d1,a8,rl,e1,fun v G2 H2 ev r=>⟨G2,ev,r⟩⟩) fun iv s2 ⟨y,H2,I2,ry,G2,ev,r⟩=>?_
 have hv:=Z8 r e3
 subst hv;obtain⟨⟨o,ho,hc⟩,g,hmap,hrel⟩:=hall s2.heap I2.kIn;have hr:=hrel key;rw[e5]at hr;obtain⟨f,hf,hgk⟩:=hr;obtain⟨⟨_,_⟩,hq,rfl⟩:=LV e5;obtain⟨f',n1,n2,n3⟩:=hn _ hq;dsimp only at hf n1 n2 n3;rw[hf]at n2;cases n2;exact⟨⟨o,ho,hc⟩,wpAny_getItem_of (M8 ry) hmap hgk ⟨.ref f,H2,I2.tok _,rfl,kk _ G2 H2 ev (by simp only[a9,P1];exact⟨f,rfl,n1,n3⟩)⟩⟩
theorem LW{x:Str}{p:Pos}(hk:mO X.prog X.w X.K X.mg x kvs)(hg:Gl X x)(ha:ED X B a ma)(hd:(x==("__debug__":Str))=false:=by decide):PC X .In a (.Name x p) (TD X.K B (AA kvs ma)):=by
 intro pins s σ H Q I h;obtain⟨G,env,d,env',rl,em,kk⟩:=h;obtain⟨⟨d1,a8⟩,e1,e2⟩:=C8 em;obtain⟨key,e3,e4⟩:=E8 e2;cases e4;obtain⟨q,hm,hn,hall⟩:=hk.ex;refine eV (ha pins s σ H (fun v H1=>∃G1,Ev X.K B G σ env H G1 σ a8 H1/\a9 X.K G1 v d1) I ⟨G,env,d1,a8,rl,e1,fun v G2 H2 ev r=>⟨G2,ev,r⟩⟩) fun iv s1 ⟨y,H1,I1,ry,G1,ev,r⟩=>?_
 refine eV (V4 (v:=.ref q) hg hm rfl hd pins s1 σ H1 (fun v H2=>v=.ref q/\H2=H1) I1 ⟨rfl,rfl⟩) fun u s2 ⟨x',H2,I2,rx,z1,z2⟩=>?_
 subst z1 z2;cases rx;have hv:=Z8 r e3;subst hv;obtain⟨_,g,hmap,hrel⟩:=hall s2.heap I2.kIn;have hr:(g key).isSome=(nH kvs key).isSome:=by
  have h1:=hrel key
  cases hl:nH kvs key with
  |none=>rw[hl]at h1;rw[show g key=none from h1];rfl
  |some n=>
   rw[hl]at h1;obtain⟨f,_,h2⟩:=h1;rw[h2]
   rfl
 refine wpAny_in_of (M8 ry) hn hmap ⟨.bl (nH kvs key).isSome,H2,I2.tok _,by rw[←hr];rfl,kk _ G1 H2 ev (by simp only[a9])⟩
theorem LX{x:Str}{p:Pos}(hk:mO X.prog X.w X.K X.mg x kvs)(hg:Gl X x)(ha:ED X B a ma)(hm:behindInMarks .In (.Name x p)=false)(hd:(x==("__debug__":Str))=false:=by decide):ED X B (.Compare a [.In] [.Name x p] pos) (AA kvs ma):=
 Hz (LW hk hg ha hd) hm
theorem DR{x:Str}{p:Pos}(hk:mO X.prog X.w X.K X.mg x kvs)(hg:Gl X x)(ha:ED X B a ma)(hm:behindInMarks .In (.Name x p)=false)(hd:(x==("__debug__":Str))=false:=by decide):ET X B (.Compare a [.In] [.Name x p] pos) (mT (AA kvs ma)):=
 jY (EK (LW hk hg ha hd) hm) Fs
end
inductive lE (P:Program) (w:World) (mg:OI):List DictEntry->List (Str×Str)->Prop
 |nil:lE P w mg [] []
 |cons {e:DictEntry}{p:Str×Str}{f:Addr}{es:List DictEntry}{kvs:List (Str×Str)}:E3 (.str p.1) e.key->e.hash=(F7 P w).hash (.inr p.1)->e.val=.ref f->mg p.2=some (.ref f)->lE P w mg es kvs->lE P w mg (e::es) (p::kvs)
theorem lE.keys{P:Program}{w:World}{mg:OI}{es:List DictEntry}{kvs:List (Str×Str)}(h:lE P w mg es kvs):∀e∈es,∃k,(F7 P w).is k e.key=true/\e.hash=(F7 P w).hash k:=by
 induction h with
 |nil=>intro e he;cases he
 |@cons e' p f es kvs h1 h2 h3 h4 _ ih=>
  intro e he
  rcases Qg.mp he with rfl|he
  ·exact⟨.inr p.1,M8 (k:=.inr p.1) h1,h2⟩
  ·exact ih e he
theorem lE.find{P:Program}{w:World}{mg:OI}{es:List DictEntry}{kvs:List (Str×Str)}(h:lE P w mg es kvs)(k:Key):LU mg (nH kvs k) ((es.find? fun e=>(F7 P w).is k e.key).map (·.val)):=by
 induction h with
 |nil=>rfl
 |@cons e p f es kvs h1 h2 h3 h4 _ ih=>
  by_cases hk:(.inr p.1:Key)=k
  ·have e1:nH (p::kvs) k=some p.2:=Qt hk
   have e2:(F7 P w).is k e.key=true:=by rw[←hk];exact M8 (k:=.inr p.1) h1
   rw[e1,Yi,e2];exact⟨f,h4,Yy some h3⟩
  ·have e1:nH (p::kvs) k=nH kvs k:=Qd hk
   have e2:(F7 P w).is k e.key=false:=by
    cases hq:(F7 P w).is k e.key with
    |false=>rfl
    |true=>exact absurd ((F7 P w).inj _ _ _ (M8 (k:=.inr p.1) h1) hq) hk
   rw[e1,Yi,e2];exact ih
theorem lE.pairs{P:Program}{w:World}{mg:OI}{es:List DictEntry}{kvs:List (Str×Str)}(h:lE P w mg es kvs):∃vs,Pairs (F7 P w) es vs/\vs.map (·.1)=kvs.map fun p=>(.inr p.1:Key):=by
 induction h with
 |nil=>exact⟨[],.nil,rfl⟩
 |@cons e p f es kvs h1 h2 h3 h4 _ ih=>
  obtain⟨vs,q,e'⟩:=ih;exact⟨((.inr p.1:Key),e.val)::vs,Pairs.cons (kv:=((.inr p.1:Key),e.val)) (M8 (k:=.inr p.1) h1) rfl q,by rw[Zu,Zu,e']⟩
theorem GB{P:Program}{w:World}{K:Qq}{mg:OI}{x:Str}{kvs:List (Str×Str)}{a:Addr}{es:List DictEntry}{ep:Nat}(hm:mg x=some (.ref a))(hl:K.lookup a=some ⟨.type "dict",none,.dict ⟨es⟩ ep,⟨[]⟩⟩)(hz:(a==sysModules)=false)(he:lE P w mg es kvs):mO P w K mg x kvs:=by
 obtain⟨vs,hp,hv⟩:=he.pairs;refine⟨⟨a,hm,hz,fun h hin=>⟨⟨_,hin a _ hl,rfl⟩,findBy (F7 P w).is ⟨es⟩,⟨_,⟨es⟩,ep,hin a _ hl,⟨rfl,rfl,rfl⟩,rfl,fun e he'=>he.keys e (by simpa using he'),fun _=>rfl⟩,fun k=>?_⟩⟩,fun hn=>⟨a,vs,ep,hm,hz,hv,fun h hin=>⟨_,⟨es⟩,hin a _ hl,⟨rfl,rfl,rfl⟩,rfl,fun e he'=>he.keys e (by simpa using he'),hp,by rw[hv];exact hn⟩⟩⟩
 have:=he.find k;unfold findBy;rw[←Array.find?_toList];exact this
section
variable{K:Qq}{B:OE}{G G':Hp}{σ σ':St}{env env':c7}{H H':Hp}
theorem Ev.layO{a:Addr}{o o0:HO}(v:Ev K B G σ env H G' σ' env' H')(ha:H a=none)(no:¬ d6 σ' env' a)(h':H' a=some o0)(ne:∀φ,o0≠.ext φ)(nt:NT o)(g':G' a=none):
  Ev K B G σ env H (upd G' a o) σ' env' (upd H' a o):=by
 have live':∀c,H' c≠none->(upd H' a o) c≠none:=fun c hc=>by
  by_cases hb:c=a
  ·subst hb;rw[D9];simp
  ·rw[C4 hb];exact hc
 refine⟨⟨fun b u e=>?_,v.rel.len,fun i d e=>?_,fun i w ds e1 e2=>?_,v.rel.inj,v.rel.fresh,fun c hc=>live' c (v.rel.old c hc),v.rel.tabs.upd nt (fun φ z=>by rw[h']at z;exact ne φ (Zs z)),Cf v.rel.gnt nt⟩,v.same.trans (Le.upd g'),fun c u n t e=>?_,fun c e=>live' c (v.live c e),fun b e n g=>?_,v.sub,v.par,v.slen⟩
 ·by_cases hb:b=a
  ·subst hb;rw[D9]at e ⊢;exact e
  ·rw[C4 hb]at e ⊢;exact v.rel.sub b u e
 ·obtain⟨x,e1,e2⟩:=v.rel.dat i d e
  exact⟨x,e1,a9.mono (Le.upd g') d e2⟩
 ·obtain⟨p,ys,e3,e4,e5,e6⟩:=v.rel.own i w ds e1 e2
  have hp:p≠a:=fun z=>no ⟨i,w,ds,e1,e2,by rw[←z];exact e3⟩
  exact⟨p,ys,e3,by rw[C4 hp];exact e4,e5.mono (Le.upd g'),by rw[C4 hp];exact e6⟩
 ·rw[C4 (fun z=>by rw[z,ha]at e;cases e)];exact v.keep c u n t e
 ·have hb:b≠a:=fun z=>e (z ▸ ha)
  rw[C4 hb];exact v.stay b e n g
end
section
variable{X:Cx}{B:OE}{pos:Pos}{k1 k2 k3 k4 v1 v2 v3 v4:Expr}{a1 a2 a3 a4:Str}{m1 m2 m3 m4:Mo D}
def lG:List (Key×V)->Key->Option V
 |[],_=>none
 |p::l,k=>if p.1=k then some p.2 else lG l k
theorem GC:∀{ps:List (Key×V)}{vs:List (Key×Value)}(k:Key),KV ps vs->N8 (lG ps k) (valueAt vs k)
 |[],_,k,h=>by cases h;exact trivial
 |p::ps,_,k,h=>by
  cases h with
  |@cons _ q _ qs hq t=>
   have ih:=GC k t
   obtain⟨h1,h2⟩:=hq
   by_cases e:p.1=k
   ·have e1:lG (p::ps) k=some p.2:=Qt e
    have e2:valueAt (q::qs) k=some q.2:=by
     unfold valueAt;rw[Yi,show decide (q.1=k)=true from decide_eq_true (h1.symm.trans e)]
     rfl
    rw[e1,e2];exact h2
   ·have e1:lG (p::ps) k=lG ps k:=Qd e
    have e2:valueAt (q::qs) k=valueAt qs k:=by
     unfold valueAt;rw[Yi,show decide (q.1=k)=false from Yd (fun z=>e (h1.trans z))]
    rw[e1,e2];exact ih
end
section
variable{X:Cx}{B:OE}{pos p:Pos}{fn:Fn}{k:Nat}{x:Str}
end
section
variable{X:Cx}{B:OE}{tg:Expr}{kvs:List (Str×Str)}
end
section
variable{prog:Program}{w:World}{A:Around}{R:Result->Shared->Prop}{I S:Addr}{fp wr:List Addr}{n:Nat}{P:Nat->Value->Prop}{St:Nat->Heap->Prop}{bt:Nat->Nat->Bool}{Z:Heap->Prop}
end
section
variable{X:Cx}{B:OE}
end
section
variable{X:Cx}{B:OE}{pos p p1:Pos}{e2:Expr}{m:Mo D}{fn:Fn}{k i:Nat}{x y:Str}
end
section
variable{prog:Program}{w:World}{A:Around}{s:Shared}{fin:Bool}{Q:Bool->Shared->Prop}
end
section
variable{X:Cx}{B:OE}{pins:OA}{σ:St}{G H:Hp}{s:Shared}
end
theorem GD{g:OX}{t:Mo Bool}{m:Mo D}:∀{ds:List D}{env e:c7}{r:List D},AX g t m ds env=some (r,e)->T5 g t (Q1 m) ds env=some (r,e)/\r.length≤ds.length
 |[],env,e,r,h=>by cases h;exact⟨rfl,Qv _⟩
 |d::ds,env,e,r,h=>by
  obtain⟨e1,h1,h⟩:=C8 h;obtain⟨⟨b,e2⟩,h2,h⟩:=C8 h;have goal:∀z,((g d env).bind fun e1=>(t e1).bind fun p=>if p.1 then(Q1 m p.2).bind fun q'=>(T5 g t (Q1 m) ds q'.2).map fun r=>(q'.1++r.1,r.2)else T5 g t (Q1 m) ds p.2)=z->T5 g t (Q1 m) (d::ds) env=z:=fun z h=>h
  cases b with
  |false=>
   obtain⟨a1,a2⟩:=GD (show AX g t m ds e2=some (r,e)from h)
   exact⟨goal _ (by rw[h1,Qs,h2];exact a1),Nat.le_succ_of_le a2⟩
  |true=>
   obtain⟨⟨x,e3⟩,h3,h⟩:=C8 (show(m e2).bind (fun q=>(AX g t m ds q.2).map fun r=>(q.1::r.1,r.2))=some (r,e)from h)
   obtain⟨⟨r',e4⟩,h4,h5⟩:=E8 h;cases h5;obtain⟨a1,a2⟩:=GD h4;refine⟨goal _ ?_,Nat.succ_le_succ a2⟩;have he:Q1 m e2=some ([x],e3):=by
    show(m e2).map _=_;rw[h3]
    rfl
   rw[h1,Qs,h2];show(Q1 m e2).bind _=_;rw[he];show(T5 g t (Q1 m) ds e3).map _=_;rw[a1]
   rfl
theorem LY{mi:Mo (List D)}{keep:List Bool}{more:Nat}{g:OX}{t:Mo Bool}{m:Mo D}{env:c7}{x:List D×c7}(h:K4 mi keep more g t m env=some x):W8 mi keep more g t (Q1 m) env=some x:=by
 obtain⟨p,h1,h⟩:=C8 h;split at h
 case isFalse=>cases h
 rename_i hl;obtain⟨⟨r,e⟩,h2,h3⟩:=C8 h;obtain⟨a1,a2⟩:=GD h2;unfold W8;rw[h1,Qs,a1,Qs,Qt (Qe a2 hl)];exact h3
section
variable{X:Cx}{B:OE}{N':List Str}{scope:Scope}{keep:List Bool}{more:Nat}{tg iter elt:Expr}{ifs:List Expr}{g:OX}{t:Mo Bool}{m:Mo D}{mi:Mo (List D)}{pos:Pos}
theorem N6(ok:gM X N' scope keep more)(hc:X.calm=true)(hi:EI X B tg iter mi)(hg:∀s H fp,EG (D7 X N' scope s H fp) B X.N.length tg g)(ht:∀s H fp,N9 (D7 X N' scope s H fp) ifs (lK X.K B t))(he:∀s H fp,ED (D7 X N' scope s H fp) B elt m)
  (hs:∀x,foldedSetIterable iter X.env x=pure x:=by intro _;rfl):EL X B (.ListComp elt [⟨tg,iter,ifs,0⟩] scope pos) (K4 mi keep more g t m):=
 d9 (CH ok hc hi hg ht (fun s H fp p=>Bd rfl (he s H fp)) hs) (by rintro σ H Q ⟨G,env,d,env',rl,e,k⟩;exact⟨G,env,d,env',rl,LY e,k⟩)
theorem LZ{i:Nat}{y:Str}{py spos:Pos}(ok:gM X N' scope keep more)(hc:X.calm=true)(hN:X.N.Nodup)(hy:X.N[i]? =some y)(hyl:X.env.scope.names.lookup y=some .local)
  (hsw:swapsWith (.ListComp elt [⟨tg,iter,ifs,0⟩] scope pos) (some (.Name y py)) spos.line X.env=pure true)
  (hi:EI X B tg iter mi)(hg:∀s H fp,EG (D7 X N' scope s H fp) B X.N.length tg g)(ht:∀s H fp,N9 (D7 X N' scope s H fp) ifs (lK X.K B t))(he:∀s H fp,ED (D7 X N' scope s H fp) B elt m)
  (hs:∀x,foldedSetIterable iter X.env x=pure x:=by intro _;rfl):ES X B (.Assign [.Name y py] (.ListComp elt [⟨tg,iter,ifs,0⟩] scope pos) spos) (M4 i (K4 mi keep more g t m)):=by
 refine iB (UH (i:=i) ok hc hN hy hyl hsw hi hg ht (fun s H fp p=>Bd rfl (he s H fp)) hs) ?_
 rintro D σ H ⟨G,env,fl,env',rl,e,k⟩;obtain⟨⟨d,a8⟩,e1,e2⟩:=E8 e;cases e2;refine⟨G,env,.nx,a8.set i (.own d),rl,?_,k⟩;show(W8 mi keep more g t (Q1 m) env).map _=_;rw[LY e1]
 rfl
end
section
variable{X:Cx}{k n:Nat}
theorem J1{x:Str}{fn:Fn}{l:List (Str×Fn)}(d:Def X.prog X.w X.K X.mg X.base x k n fn)(hn:k9 X.K X.mg x)(hr:fA k X.A)(h:Aa X n l):Aa X n ((x,fn)::l):=UN hr d hn h
theorem T7{x:Str}{g:List W->Option Str}{l:List (Str×(List W->Option Str))}(d:gQ X.prog X.w X.K X.mg X.base x k n g)(hn:k9 X.K X.mg x)(hr:fA k X.A)(h:Ab X n l):Ab X n ((x,g)::l):=UO hr d hn h
end
def La(t:SetTable):Nat->SetTable.Probe->SetTable.Probe
 |0,p=>p
 |n+1,p=>La t n (t.advance p)
def road(t:SetTable)(h:Int)(n:Nat):Nat:=(La t n (t.probeStart h)).j
structure Tb(t:SetTable)(es:Array (Int×Value))(L:List (Nat×Int×Value)):Prop where
 pl:t.place.toList=L.map (·.1)
 en:es.toList=L.map (·.2)
 ri:(L.map (·.1)).Pairwise (· < ·)
 le:∀x∈L,x.1≤t.mask
 du:t.dummies= #[]
 rd:∀x∈L,∃n,road t x.2.1 n=x.1/\∀n',n'<n->road t x.2.1 n'∈L.map (·.1)
variable{t:SetTable}{es:Array (Int×Value)}{L:List (Nat×Int×Value)}
end L2.Mir
namespace L2.Mir
open PySem PySem.Spec PyProof.Rows
abbrev fr(ow:Array (Option Nat))(j:Nat):Bool:=(ow.getD j (some 0)).isNone
structure Lay(t:SetTable)(hs:List Int)(k:Nat)(ow:Array (Option Nat)):Prop where
 sz:ow.size=t.mask+1
 rd:∀j q,ow.getD j none=some q->q<k/\∃n,road t (hs.getD q 0) n=j/\∀n',n'<n->(ow.getD (road t (hs.getD q 0) n') none).isSome=true
 al:∀q,q<k->∃j,ow.getD j none=some q
 inj:∀j j' q,ow.getD j none=some q->ow.getD j' none=some q->j=j'
section
variable{prog:Program}{w:World}{K:Type}[DecidableEq K](knd:KeyKind prog w K)
def UW(h:Heap):K ⊕ List K->Value->Prop
 |.inl k,v=>knd.is k v=true
 |.inr ks,v=>∃a,v=.ref a/\IsTupleKey knd h ks a
inductive mP (h:Heap):List (K ⊕ List K)->List Value->Prop
 |nil:mP h [] []
 |cons {k:K ⊕ List K}{v:Value}{ks:List (K ⊕ List K)}{vs:List Value}:UW knd h k v->mP h ks vs->mP h (k::ks) (v::vs)
variable{knd}
variable{A:Around}{E:OU}{s:Shared}
end
section
variable{prog:Program}{w:World}{K:Type}[DecidableEq K]{knd:KeyKind prog w K}{A:Around}{E:OU}{s:Shared}
end
section
variable{prog:Program}{w:World}{K:Type}[DecidableEq K]{knd:KeyKind prog w K}{A:Around}{E:OU}{s:Shared}
variable{S:Addr}{o:Obj}{es:Array (Int×Value)}{ep:Nat}{t:SetTable}{L:List (Nat×Int×Value)}{kx:List (K ⊕ List K)}{ax:Addr}
end
section
variable{prog:Program}{w:World}{K:Type}[DecidableEq K]{knd:KeyKind prog w K}{A:Around}{E:OU}{s:Shared}
theorem Af{n:Nat}(h:n≤1000):n≤sizeLine:=by rw[sizeLine_eq];omega
end
section
variable{prog:Program}{w:World}{K:Type}[DecidableEq K]{knd:KeyKind prog w K}{A:Around}{E:OU}{s:Shared}
end
section
variable{prog:Program}{w:World}{A:Around}{E:OU}{s:Shared}{it d:Addr}{es:Array DictEntry}{i ep:Nat}
end
section
variable{X:Cx}{B:OE}{pos:Pos}
end
section
variable{X:Cx}{B:OE}{pos:Pos}{e e2:Expr}{ma mb:Mo D}
end
section
variable{prog:Program}{w:World}{A:Around}{E:OU}{s:Shared}{it d:Addr}{es:Array DictEntry}{i ep:Nat}
end
def uL:Value->V
 |.ref a=>.ref a
 |_=>.non
section
variable{K:Qq}{G:Hp}
end
structure EsT(es:Array DictEntry)(xs:List V):Prop where
 key:∀(i:Nat) (e:DictEntry),es[i]? =some e->E3 (uL e.key) e.key
 val:∀(i:Nat) (e:DictEntry),es[i]? =some e->∃x,xs[i]? =some x/\E3 x e.val
section
variable{K:Qq}{G:Hp}{d:Addr}{es:Array DictEntry}{ep:Nat}{ks:List KX}{xs:List V}{vs:List D}
end
section
variable{X:Cx}{B:OE}{tg e:Expr}{ma:Mo D}
end
section
variable{K:Qq}{G:Hp}
inductive AL (K:Qq) (G:Hp):List (KX×Addr×Value)->List KX->List V->List D->Prop
 |nil:AL K G [] [] [] []
 |cons {y:KX×Addr×Value}{ys:List (KX×Addr×Value)}{ks:List KX}{x:V}{xs:List V}{d:D}{ds:List D}(h1:BK K G (.ref y.2.1) y.1) (h2:E3 x y.2.2) (h3:a9 K G x d) (t:AL K G ys ks xs ds):AL K G (y::ys) (y.1::ks) (x::xs) (d::ds)
end
section
variable{X:Cx}{pins:OA}{σ:St}{H G:Hp}{s:Shared}{a b:Addr}{A:Around}{E:OU}{es:Array DictEntry}{ep:Nat}{ks:List KX}{k:KX}{xs:List V}{vs:List D}
end
section
variable{X:Cx}{B:OE}{pos:Pos}{a b e e2:Expr}{ma mb:Mo D}
end
end L2.Mir
namespace L2
open PySem PySem.Spec PyProof.Rows
section
variable{κ:Type}[DecidableEq κ]
end
end L2
namespace L2.Mir
open PySem PySem.Spec PyProof.Rows
section
variable{X:Cx}{B:OE}{pos p:Pos}{a tg:Expr}{ms:Mo (List D)}
end
inductive mQ (K:Qq) (G:Hp):List V->List (Key×Key)->Prop
 |nil:mQ K G [] []
 |cons {q:Addr}{k v:Key}{xs:List V}{ps:List (Key×Key)}:lJ K G q [kV k,kV v]->mQ K G xs ps->mQ K G (.ref q::xs) ((k,v)::ps)
section
variable{X:Cx}{pins:OA}{σ:St}{A:Around}{R:Result->Shared->Prop}{l it d:Addr}{xs:List V}{G:Hp}
end
section
variable{X:Cx}{B:OE}
end
section
variable{prog:Program}{w:World}{A:Around}{R:Result->Shared->Prop}{s:Shared}
end
section
variable{X:Cx}{N':List Str}{scope:Scope}{keep:List Bool}{more:Nat}{tg iter kx vx:Expr}{ifs:List Expr}{g:TG}{tt:TT}{act:Addr->S5}{pos:Pos}
end
section
variable{K:Qq}{B:OE}{n:Nat}
end
section
variable{X:Cx}{B:OE}{N':List Str}{scope:Scope}{keep:List Bool}{more:Nat}{tg iter kx vx:Expr}{ifs:List Expr}{g:OX}{t:Mo Bool}{mk mv:Mo D}{mi:Mo (List D)}{pos:Pos}
end
section
variable{X:Cx}{B:OE}{pos:Pos}{e:Expr}{ma:Mo D}
end
section
variable{X:Cx}{B:OE}{pos:Pos}{o e:Expr}{ma mb:Mo D}
end
section
variable{P:Program}{w:World}
end
section
variable{X:Cx}{B:OE}{pins:OA}{σ:St}{G H:Hp}{s:Shared}
end
section
variable{prog:Program}{w:World}{A:Around}{E:OU}{s:Shared}
end
section
variable{prog:Program}{w:World}{A:Around}{R:Result->Shared->Prop}{I:Addr}{fp wr:List Addr}{G:Array GenState->Array GenState->Prop}{n:Nat}{P:Nat->Value->Prop}{St:Nat->Shared->Prop}
end
section
variable{prog:Program}{w:World}{A:Around}{E:OU}{s:Shared}
end
namespace FS
end FS
section
variable{prog:Program}{w:World}{A:Around}{E:OU}{s:Shared}{it S:Addr}{es:Array (Int×Value)}{i ep:Nat}{t:SetTable}{L:List (Nat×Int×Value)}
end
section
variable{prog:Program}{w:World}{A:Around}{E:OU}{s:Shared}{it S:Addr}{es:Array (Int×Value)}{i ep:Nat}{t:SetTable}{L:List (Nat×Int×Value)}
end
namespace FS
end FS
section
variable{prog:Program}{w:World}{A:Around}{E:OU}{s:Shared}{it S:Addr}{es:Array (Int×Value)}{i ep:Nat}{t:SetTable}{L:List (Nat×Int×Value)}
end
section
variable{X:Cx}{B:OE}
end
end L2.Mir
namespace L2.Mir
open PySem PySem.Spec PyProof.Rows PySem.W
structure PS where
 a:Array Nat
 pd:Array (Nat×Nat×Nat)
 mg:Nat
structure Lt where
 N:Nat
 lt:Nat->Nat->Bool
structure Sx where
 prog:Program
 w:World
 A:Around
 E:OU
 s:Shared
 κ:SortKind
 it:Nat->Keyed
 L:Lt
 ok:∀i j (C:Bool->Shared->Prop),i<L.N->j<L.N->C (L.lt i j) s->wpAny (model prog w) A (keyLt' κ (it i).1 (it j).1) C (fun _ _=>False) s
variable{Y:Sx}{α β γ δ:Type}
def sY(Y:Lt)(i j:Nat)(S:PS):Option (Bool×PS):=if i<Y.N/\j<Y.N then some (Y.lt i j,S)else none
def GF(g:β->PS->Option (ForInStep β×PS)):Nat->β->PS->Option (β×PS)
 |0,b,S=>some (b,S)
 |n+1,b,S=>(g b S).bind fun p=>match p.1 with
  |.done b'=>some (b',p.2)
  |.yield b'=>GF g n b' p.2
variable{Y:Sx}{α β γ δ:Type}
def bS(Y:Lt)(left:Bool)(key:Nat)(arr:Array Nat)(base i:Nat)(S:PS):Option (Bool×PS):=(arr[base+i]?.map fun x=>(x,S)).bind fun p=>if left=true then sY Y p.1 key p.2 else(sY Y key p.1 p.2).bind fun q=>some (!q.1,q.2)
def Lb(bey:Nat->PS->Option (Bool×PS))(n lo hi:Nat)(S:PS):Option (Nat×PS):=
 (GF (fun(b:Nat×Nat) S=>if b.1 ≥ b.2 then some (.done b,S)else(bey (b.1+(b.2-b.1)/2) S).bind fun p=>if p.1=true then some (.yield (b.1+(b.2-b.1)/2+1,b.2),p.2)else some (.yield (b.1,b.1+(b.2-b.1)/2),p.2)) (n-0) (lo,hi) S).bind fun p=>some (p.1.2,p.2)
abbrev e2(b:Nat×Nat):Option (Option Nat)×Nat×Nat:=(none,b.1,b.2)
def Lc(bey:Nat->PS->Option (Bool×PS))(at_:Nat->Nat)(stp:Bool->Bool)(n most:Nat)(k:Nat->Nat->PS->Option (Nat×PS))(S:PS):Option (Nat×PS):=
 (GF (fun(b:Nat×Nat) S=>if b.2 ≥ most then some (.done b,S)else(bey (at_ b.2) S).bind fun p=>if stp p.1=true then some (.done b,p.2)else some (.yield (b.2,2 * b.2+1),p.2)) (n-0) (0,1) S).bind fun p=>k p.1.1 p.1.2 p.2
def Ld(Y:Lt)(left:Bool)(key:Nat)(arr:Array Nat)(base n hint:Nat)(S:PS):Option (Nat×PS):=
 (bS Y left key arr base hint S).bind fun p=>if p.1=true then Lc (bS Y left key arr base) (fun o=>hint+o) (fun b=>!b) n (n-hint) (fun l o=>Lb (bS Y left key arr base) n (hint+l+1) (hint+min o (n-hint))) p.2
  else Lc (bS Y left key arr base) (fun o=>hint-o) (fun b=>b) n (hint+1) (fun l o=>Lb (bS Y left key arr base) n (hint+1-min o (hint+1)) (hint-l)) p.2
abbrev e1(b:Nat):Option (Option Nat)×Nat:=(none,b)
variable{Y:Sx}{α β γ δ:Type}
abbrev e3(b:Nat×Nat):Option Bool×Nat×Nat:=(none,b.1,b.2)
abbrev e0{α:Type}(_:Unit):Option α×Unit:=(none,())
variable{Y:Sx}{α β γ δ:Type}
abbrev An:=Array Nat
abbrev oM(it:Nat->Keyed)(o:Option An):Option (Array Keyed):=o.map fun a=>a.map it
def rA(a:An)(i:Nat)(S:PS):Option (Nat×PS):=a[i]?.map fun x=>(x,S)
def sC(a b out:An)(na nb:Nat):An:=a.extract 0 na++b.extract 0 nb++out.reverse
def sZ(a b out:An)(na nb:Nat):An:=b.extract 0 nb++a.extract 0 na++out.reverse
abbrev U7:=Option An×Nat×Nat×An×Nat×Nat×Nat
abbrev d7(it:Nat->Keyed)(t:U7):Option (Array Keyed)×Nat×Nat×Array Keyed×Nat×Nat×Nat:=(oM it t.1,t.2.1,t.2.2.1,t.2.2.2.1.map it,t.2.2.2.2.1,t.2.2.2.2.2.1,t.2.2.2.2.2.2)
def tD(a b:An)(mg k k2 na:Nat)(out:An)(nb:Nat)(S:PS):Option (ForInStep U7×PS):=(rA a (na-1) S).bind fun z=>
 if(na-1==0)=true then some (.done (some (sC a b (out.push z.1) (na-1) nb),na-1,nb,out.push z.1,mg,k,k2),z.2)
 else if(decide (k<7)&&decide (k2<7))=true then some (.done (none,na-1,nb,out.push z.1,mg,k,k2),z.2)else some (.yield (none,na-1,nb,out.push z.1,mg,k,k2),z.2)
def tE(Y:Lt)(a b:An)(mg k bc nb:Nat)(out:An)(na:Nat)(S:PS):Option (ForInStep U7×PS):=(rA b (nb-1) S).bind fun x=>
 if(nb-1==1)=true then some (.done (some (sZ a b (out.push x.1) na (nb-1)),na,nb-1,out.push x.1,mg,k,bc),x.2)
 else(rA a (na-1) x.2).bind fun y=>(Ld Y true y.1 b 0 (nb-1) (nb-1-1) y.2).bind fun q=>if nb-1-q.1>0 then
   (if(q.1==1)=true then some (.done (some (sZ a b (out.push x.1++(b.extract q.1 (nb-1)).reverse) na q.1),na,q.1,out.push x.1++(b.extract q.1 (nb-1)).reverse,mg,k,nb-1-q.1),q.2)
    else if(q.1==0)=true then some (.done (some (sC a b (out.push x.1++(b.extract q.1 (nb-1)).reverse) na q.1),na,q.1,out.push x.1++(b.extract q.1 (nb-1)).reverse,mg,k,nb-1-q.1),q.2)
    else tD a b mg k (nb-1-q.1) na (out.push x.1++(b.extract q.1 (nb-1)).reverse) q.1 q.2)
  else tD a b mg k (nb-1-q.1) na (out.push x.1) (nb-1) q.2
def Lf(Y:Lt)(a b:An)(t:U7)(mg:Nat)(S:PS):Option (ForInStep U7×PS):=(some ((),{S with mg:=mg})).bind fun u=>(rA b (t.2.2.1-1) u.2).bind fun x=>(Ld Y false x.1 a 0 t.2.1 (t.2.1-1) x.2).bind fun q=>if t.2.1-q.1>0 then
   (if(q.1==0)=true then some (.done (some (sC a b (t.2.2.2.1++(a.extract q.1 t.2.1).reverse) q.1 t.2.2.1),q.1,t.2.2.1,t.2.2.2.1++(a.extract q.1 t.2.1).reverse,mg,t.2.1-q.1,t.2.2.2.2.2.2),q.2)
    else tE Y a b mg (t.2.1-q.1) t.2.2.2.2.2.2 t.2.2.1 (t.2.2.2.1++(a.extract q.1 t.2.1).reverse) q.1 q.2)
  else tE Y a b mg (t.2.1-q.1) t.2.2.2.2.2.2 t.2.2.1 t.2.2.2.1 t.2.1 q.2
def hi2(Y:Lt)(a b:An)(t:U7)(S:PS):Option (ForInStep U7×PS):=if t.2.2.2.2.1>1 then Lf Y a b t (t.2.2.2.2.1-1) S else Lf Y a b t t.2.2.2.2.1 S
variable{Y:Sx}{α β γ δ:Type}
section
variable{prog:Program}{w:World}{A:Around}{E:OU}
end
section
variable{X:Cx}{B:OE}{e:Expr}{ma:Mo D}{p p1 kp1 kp2 pos:Pos}{j:Nat}{p2:Pos}
end
theorem PI.nox{X:Cx}{tg e:Expr}{wi:TI}(h:PI X.nox tg e wi):PI X tg e wi:=fun pins s σ H R I hw=>
 Qb (h pins s σ H R (I.wish _) hw) (fun _ _ q=>Qb q (fun _ _ ⟨it,fp,tn,J,H',e,I',T,t0,f,r⟩=>⟨it,fp,tn,J,H',e,I'.unwish,T,t0,fun b hb=>f b hb,r⟩) fun _ _ z=>False.elim z) fun _ _ z=>False.elim z
section
variable{X:Cx}{B:OE}{E:XK}{pos:Pos}{tg:Expr}{g:OX}
end
section
variable{X:Cx}{B:OE}{e:Expr}{es:List Expr}{y:Str}{p pos:Pos}{n i:Nat}{as:Mo (List Ar)}
end
section
variable{prog:Program}{w:World}{A:Around}{E:OU}
end
section
variable{X:Cx}{B:OE}{pins:OA}{σ:St}{G H:Hp}{s:Shared}
end
variable{β:Type}
def GA(N:Nat)(a:An):Prop:=∀x∈a,x<N
variable{Y:Lt}
section
variable{a b:An}{S:PS}(ha:GA Y.N a)(hb:GA Y.N b)
include ha hb
end
variable{Y:Lt}
section
variable{a b:An}{S:PS}(ha:GA Y.N a)(hb:GA Y.N b)
include ha hb
end
def tF:List (Nat×Nat×Nat)->Nat->Nat->Prop
 |[],s,e=>s=e
 |p::r,s,e=>p.1=s/\0<p.2.1/\tF r (s+p.2.1) e
structure Rdy(N n:Nat)(S:PS)(e:Nat):Prop where
 sz:S.a.size=n
 ga:GA N S.a
 ch:tF S.pd.toList 0 e
 le:e≤n
structure Kpt(N:Nat)(S S':PS):Prop where
 sz:S'.a.size=S.a.size
 ga:GA N S'.a
 pd:S'.pd=S.pd
section
variable{X:Cx}{B:OE}
end
section
variable{prog:Program}{w:World}{κ:Type}[DecidableEq κ]{knd:HeapKind prog w κ}{A:Around}{E:OU}{s:Shared}
end
section
variable{X:Cx}{B:OE}{tg e:Expr}{ma:Mo D}{pos:Pos}
end
inductive mR (K:Qq) (G:Hp):List V->List (KX×D)->Prop
 |nil:mR K G [] []
 |cons {q b:Addr}{k:KX}{v:V}{d:D}{xs:List V}{ps:List (KX×D)}:lJ K G q [.ref b,v]->BK K G (.ref b) k->a9 K G v d->mR K G xs ps->mR K G (.ref q::xs) ((k,d)::ps)
section
variable{X:Cx}{pins:OA}{σ:St}{A:Around}{R:Result->Shared->Prop}{l it d:Addr}{xs:List V}{G H:Hp}{kd:Bool}
end
section
variable{X:Cx}{B:OE}
end
theorem UX{e:Value}{env env':Env}(h:env.frame=env'.frame):noteFrame e env=noteFrame e env':=by unfold noteFrame PySem.frameOf;rw[h]
section
variable{M:Model}{A:Around}{E:OU}{s:Shared}{base:Heap}{env:Env}{outer:List Env}{L e:Addr}{cls a0 fl:Value}{Q:Unit->Shared->Prop}
theorem UY(hfr:A.frames=some (env::outer))(hl:s.heap.FunFrames base (env::outer))(hf:env.frame=some L)(ht:s.heap.TracedAtW base e cls a0 fl)(hkb:base.StaysIn s.heap)(hen:base.get? e=none)
  (h:∀h',base.NotedW (env::outer) e cls a0 (rawInt L) s.heap h'->Q () {s with heap:=h'}):wpAny M A (noteFrame (.ref e) env) Q E s:=by
 obtain⟨oe,vs,T,oT,ts,he,⟨hcls,h0⟩,hd,h1,hnT,hTe,hT,hdT,h3⟩:=id ht
 by_cases hfl:fl=rawInt L
 ·subst hfl
  exact wpAny_noteFrame_inFlight hf he hd h1 hT hdT h3 (h s.heap ⟨hkb,hl,ht,fun b o hb _=>⟨o.slots,hb⟩⟩)
 ·unfold noteFrame
  rw[hf];dsimp only;refine Qz (Zj he hd h1 ?_);rw[Qt (show(Value.ref T !=Value.none)=true by simp)]
  refine Qz (Zj hT hdT h3 ?_);rw[Qd (show ¬ (fl==rawInt L)=true by simpa using hfl)]
  refine Qz (Vz hT hdT (Array.getElem?_eq_some_iff.mp h3).1 ?_);have other:∀b,b≠T->(s.heap.update T (Obj.mapFields fun x=>x.setIfInBounds 3 Value.none)).get? b=s.heap.get? b:=fun b hb=>Ze s.heap _ (Qa hb)
  have noRec:∀b o,s.heap.get? b=some o->(∀vs:Array Value,o.data≠.fields vs)->b≠T:=fun b o hb hnf z=>by
   subst z;rw[hT]at hb;cases hb;exact hnf ts hdT
  subst hcls;refine wpAny_entryW hfr (Heap.FunFrames.of_keeps (fun b o hb hnf=>⟨o,(other b (noRec b o hb hnf)).trans hb,rfl⟩) hl) hf ((other e (Qa hTe)).trans he) (fun b o hbo=>(other b fun q=>by rw[q,hnT]at hbo;cases hbo).trans (hkb b o hbo)) hen hd (Array.getElem?_eq_some_iff.mp h1).1 h0 fun h' x=>?_
  obtain⟨x1,x2,x3,x4⟩:=x;exact h h' ⟨x1,x2,x3,fun b o hb hnf=>x4 b o ((other b (noRec b o hb hnf)).trans hb) hnf⟩
theorem UZ(hfr:A.frames=some (env::outer))(hl:s.heap.FunFrames base (env::outer))(hf:env.frame=some L)(ht:s.heap.TracedAtW base e cls a0 fl)(hkb:base.StaysIn s.heap)(hen:base.get? e=none)
  (h:∀h',base.FlyingW outer e cls a0 h'->s.heap.UpToSlots h'->Q () {s with heap:=h'}):wpAny M A (leaving env (.ref e)) Q E s:=by
 unfold leaving;refine Qz (UY hfr hl hf ht hkb hen fun h1 ⟨n1,n2,n3,n4⟩=>?_)
 refine wpAny_setFlight_noneW (s:={s with heap:=h1}) n1 n2 n3 fun h2 m1 m2 m3 m4=>?_
 refine h h2 ⟨m1,hen,m2.2.2,m3⟩ fun b o hb hnf=>?_
 obtain⟨sl,q⟩:=n4 b o hb hnf;exact⟨sl,m4 b _ q hnf⟩
end
theorem Lg{h base:Heap}:∀{l:List Env},h.FunFrames base l->∀b∈iN l,base.get? b=none/\∃o,h.get? b=some o/\∀vs:Array Value,o.data≠.fields vs
 |[],_,b,hb=>by cases hb
 |env::l,⟨_,⟨L,o,q1,q2,q3,q4⟩,t⟩,b,hb=>by
  unfold iN at hb;rw[Jq,q1]at hb
  rcases Qg.mp hb with z|z
  ·subst z;exact⟨q2,o,q3,q4⟩
  ·exact Lg t b z
theorem Lh{h h' base base':Heap}:∀{l:List Env},h.FunFrames base l->(∀b o,base.get? b=none->h.get? b=some o->(∀vs:Array Value,o.data≠.fields vs)->base'.get? b=none/\∃o',h'.get? b=some o'/\∀vs:Array Value,o'.data≠.fields vs)->h'.FunFrames base' l
 |[],_,_=>trivial
 |env::l,⟨q0,⟨L,o,q1,q2,q3,q4⟩,t⟩,k=>by
  obtain⟨k1,o',k2,k3⟩:=k L o q2 q3 q4;exact⟨q0,⟨L,o',q1,k1,k2,k3⟩,Lh t k⟩
def rB(X:Cx)(E:XK):Prop:=∀(pins:OA) (σ:St) (H H':Hp) (s s':Shared) (e t C:Addr) (Bh:Heap) (fl:Value),Inv X pins σ H s->s'.os=s.os->AllBare s'.gens->Bh.StaysIn s'.heap->Bh.get? e=none->s'.heap.FunFrames Bh X.stack->s'.heap.TracedAtW Bh e (.ref C) (.ref t) fl->
 (∀b o,b<X.s₀.heap.objs.size->s.heap.get? b=some o->H b=none->b∉iN X.stack->Bh.get? b=some o)->
 (∀b o,b<X.s₀.heap.objs.size->s.heap.get? b=some o->b∉iN X.stack->∃o',Bh.get? b=some o')->
 (∀b o,b<X.s₀.heap.objs.size->s.heap.get? b=some o->H b=none->b∈X.fs->∃sl,s'.heap.get? b=some {o with slots:=sl})->
 (∀b o,b<X.s₀.heap.objs.size->s.heap.get? b=some o->H b=none->H' b=none)->(∀b xs,H b=some (.tup xs)->H' b=some (.tup xs))->(∀b o u,H b=some (.frz o u)->H' b=some (.frz o u))->
 (∀b ps,H b=some (.tbl ps)->∃more,H' b=some (.tbl (ps++more)))->j6 X.prog X.w H' Bh->E (.ref C) none H'->X.xe (.ref e) s'
theorem VA{X:Cx}{pins:OA}{σ:St}{H H':Hp}{s s':Shared}{E:XK}{e t C:Addr}{Bh:Heap}(hst:X.stack=X.env::X.outer)(hfr:X.env.frame=some X.env.locals)(hex:X.ex=[])(I:Inv X pins σ H s)(os:s'.os=s.os)(bare:AllBare s'.gens)(fly:Heap.FlyingW Bh X.outer e (.ref C) (.ref t) s'.heap)
  (kept:∀b o,b<X.s₀.heap.objs.size->s.heap.get? b=some o->H b=none->b∉iN X.stack->Bh.get? b=some o)
  (thr:∀b o,b<X.s₀.heap.objs.size->s.heap.get? b=some o->b∉iN X.stack->∃o',Bh.get? b=some o')
  (slots:∀b o,b<X.s₀.heap.objs.size->s.heap.get? b=some o->H b=none->b∈X.fs->∃sl,s'.heap.get? b=some {o with slots:=sl})
  (free:∀b o,b<X.s₀.heap.objs.size->s.heap.get? b=some o->H b=none->H' b=none)(tups:∀b xs,H b=some (.tup xs)->H' b=some (.tup xs))(frzs:∀b o u,H b=some (.frz o u)->H' b=some (.frz o u))
  (tbls:∀b ps,H b=some (.tbl ps)->∃more,H' b=some (.tbl (ps++more)))(hok:j6 X.prog X.w H' Bh)(hE:E (.ref C) none H'):
  iA X.prog X.w X.outer X.H₀ X.s₀ E (.ref e) s':=by
 have nb:∀b o,X.s₀.heap.get? b=some o->b∉X.fs->b∉iN X.stack:=fun b o q n z=>by
  rw[hst]at z;unfold iN at z;rw[Jq,hfr]at z
  rcases Qg.mp z with z|z
  ·exact absurd (Qk q) (Nat.not_lt.mpr (by rw[z];exact I.ok.above))
  ·exact n z
 have nx:∀b,b∉X.ex:=fun b z=>by rw[hex]at z;cases z
 refine⟨e,t,C,H',Bh,rfl,os.trans I.os,bare,fly,⟨fun b o q n hb _=>?_,fun b o q n hb _=>?_,fun b o q n _=>?_,fun b o q _=>?_,fun b xs q=>tups b xs (I.base.tups b xs q),fun b o u q=>frzs b o u (I.base.frzs b o u q),fun b ps q=>?_⟩,hok,fun b o q n hb=>?_,fun b o q hb=>?_,hE⟩
 ·exact fly.1 b o (kept b o (Qk q) (I.base.keep b o q n hb (nx b)) (I.base.free b o q n (nx b)) (nb b o q hb))
 ·obtain⟨sl,q1⟩:=I.base.slot b o q n hb (nx b)
  obtain⟨sl',q2⟩:=slots b _ (Qk q) q1 (I.base.free b o q n (nx b)) hb;exact⟨sl',q2⟩
 ·obtain⟨o',q1⟩:=I.base.there b o q (nx b)
  exact free b o' (Qk q) q1 (I.base.free b o q n (nx b))
 ·obtain⟨o',q1⟩:=I.base.there b o q (nx b)
  by_cases hb:b∈X.fs
  ·obtain⟨sl,q2⟩:=slots b _ (Qk q) q1 (I.base.free b o q (I.ok.frf b hb) (nx b)) hb
   exact⟨_,q2⟩
  ·obtain⟨o2,q2⟩:=thr b o' (Qk q) q1 (nb b o q hb)
   exact⟨o2,fly.1 b o2 q2⟩
 ·obtain⟨m1,e1⟩:=I.base.tbls b ps q
  obtain⟨m2,e2⟩:=tbls b _ e1;exact⟨m1++m2,by rw[e2,Array.append_assoc]⟩
 ·exact kept b o (Qk q) (I.base.keep b o q n hb (nx b)) (I.base.free b o q n (nx b)) (nb b o q hb)
 ·obtain⟨o',q1⟩:=I.base.there b o q (nx b)
  exact thr b o' (Qk q) q1 (nb b o q hb)
theorem VB{P:Program}{w:World}{K:Qq}{mg:OI}{base:Heap}{N:List Str}{qual:Str}{scope:Scope}{f:Addr}{cd:Value}{A:Around}{outer:List Env}{s₀:Shared}{H₀:Hp}{E:XK}:
  rB (K8 (iA P w) P w K mg base N qual scope f cd A outer s₀ H₀ E) E:=by
 intro pins σ H H' s s' e t C Bh fl I os bare st hen hl ht kept thr slots free tups frzs tbls hok hE;refine UZ (L:=s₀.heap.objs.size) I.ok.frames hl rfl ht st hen fun h2 fly2 ups=>?_
 refine VA (X:=K8 (iA P w) P w K mg base N qual scope f cd A outer s₀ H₀ E) (s':={s' with heap:=h2}) rfl rfl rfl I os bare fly2 kept thr (fun b o lt q n hb=>?_) free tups frzs tbls hok hE
 obtain⟨sl,q1⟩:=slots b o lt q n hb;obtain⟨_,o1,g1,g2⟩:=I.funs.mem hb;rw[q]at g1;cases g1;obtain⟨sl2,q2⟩:=ups b _ q1 g2;exact⟨sl2,q2⟩
section
variable{prog:Program}{w:World}{A:Around}{R:Result->Shared->Prop}{s:Shared}
theorem VC{elt target iter:Expr}{scope:Scope}{pos:Pos}{it acc:Value}{env:Env}(I:Nat->Shared->Prop)
  (turn:∀n s,I n s->wpAny (model prog w) A (pyNext it) (fun r s₁=>match r with
   |none=>R (.ok .next) s₁
   |some v=>wpAny (model prog w) A (letOwnedTupleGo target it v) (fun _ s₁'=>wpAny (model prog w) A (assign target env v) (fun _ s₂=>
     wpAny (model prog w) A (eval elt env) (fun x s₄=>
       wpAny (model prog w) A (call (.builtin "list.append") [acc,x]) (fun _ s₅=>∃m,m<n/\I m s₅) (fun _ _=>False) s₄) (notedBy (model prog w) A env fun x s'=>R (.error x) s') s₂) (fun _ _=>False) s₁') (fun _ _=>False) s₁) (fun _ _=>False) s)
  (n:Nat)(h:I n s):
  codeAny (model prog w) A (.compLoop (.ListComp elt [⟨target,iter,[],0⟩] scope pos) 0 it acc env) R s:=by
 refine codeAny_loop rfl I (fun n s hI=>?_) n h
 show wpAny _ A ((compTurn (.ListComp elt [⟨target,iter,[],0⟩] scope pos) 0 it acc env).onRaise (fun x=>do noteFrame x env;theTreesLotGoes x)) _ _ s
 refine wpAny_noted ?_
 rw[compTurn_list];refine Qz (Ye (Qz (Qb (turn n s hI) (fun r s₁ h₁=>?_) fun _ _ h'=>h'.elim)))
 cases r with
 |none=>exact Qx h₁
 |some v=>
  refine Qz (Qb h₁ (fun _ s₁' h₁'=>?_) fun _ _ h'=>h'.elim)
  refine Qz (Qb h₁' (fun _ s₂ h₂=>Qz ?_) fun _ _ h'=>h'.elim)
  rw[Ji];refine Qx ?_
  exact Qz (Qz (Qb h₂ (fun x s₄ h₄=>Qz (Qb h₄ (fun _ s₅ h₅=>Qx (Qx ⟨rfl,h₅⟩)) fun _ _ h'=>h'.elim)) fun _ _ q=>q))
end
section
variable{X:Cx}{N':List Str}{scope:Scope}{keep:List Bool}{more:Nat}{tg iter elt:Expr}{g:TG}{te:TE}{pos:Pos}{E0:XK}
def Li(X:Cx)(scope:Scope)(R:Result->Shared->Prop)(C:Addr):OU:=notedBy (model X.prog X.w) X.A (T3 scope X.env C) fun x s'=>R (.error x) s'
theorem VD{pins:OA}{σ:St}{H3:Hp}{s3:Shared}{fp:List Addr}{Q:OU}{acc:Value}{use:Option (Value->Sem Unit)}(hst:X.stack=X.env::X.outer)(hfr:X.env.frame=some X.env.locals)(ha:rB X E0)(I3:Inv X pins σ H3 s3)(hf:∀b∈fp,J4 X pins H3 b):
  Q4 (iA X.prog X.w) ((D7 X N' scope s3 H3 fp).wish (Li X scope (compPost (model X.prog X.w) X.A X.xe use Q acc s3.heap.objs.size) s3.heap.objs.size)) E0:=by
 intro pc σc Hc sc ev s' Ic h;obtain⟨e,t,C,H',Bh,rfl,os,bare,fly,un,hok,kept,thr,hE⟩:=h;have hch:∀b∈fp,(b∈X.ex\/X.s₀.heap.objs.size≤b)/\b≠X.env.locals/\(∀x c,X.env.cells.lookup x=some c->c≠b)/\∀p∈X.pn++pins,p.1≠b:=fun b hb=>by
  obtain⟨_,f1,_,f3,f4,f5⟩:=hf b hb;exact⟨f3,f1,f4,f5⟩
 have IX:Inv X pins σ Hc sc:=I3.call' (s':=sc) Ic.os Ic.base Ic.hok Ic.bare hch
 have szC:X.s₀.heap.objs.size≤s3.heap.objs.size:=I3.sz
 obtain⟨m,hn,_⟩:=Ic.loc;have hn':sc.heap.Ns s3.heap.objs.size m:=hn;have hCn:Hc s3.heap.objs.size=none:=Ic.free;have hnf:s3.heap.objs.size∉iN X.stack:=fun z=>by
  obtain⟨_,o,q,_⟩:=Lg I3.stack _ z;exact absurd (Qk q) (Za _)
 obtain⟨oC,es,ep,c1,c2⟩:=id hn';have bC:Bh.get? s3.heap.objs.size=some oC:=kept _ _ c1 hCn hnf;have fly':Heap.FlyingW Bh (X.env::X.outer) e (.ref C) (.ref t) s'.heap:=hst ▸ fly;obtain⟨y1,y2,y3,y4⟩:=fly';show wpAny _ X.A (noteFrame (.ref e) (T3 scope X.env s3.heap.objs.size)) _ _ s';rw[UX (env:=T3 scope X.env s3.heap.objs.size) (env':=X.env) rfl];refine wpAny_noteFrame_onW (hst ▸ I3.ok.frames) y3 hfr y4 y1 y2 fun h1 ⟨n1,n2,n3,n4⟩=>?_
 obtain⟨oe,vs,T,oT,ts,he,⟨hcls,h0⟩,hd,h1',hnT,hTe,hT,hdT,h3⟩:=n3;have neT:s3.heap.objs.size≠T:=fun z=>by rw[z,hnT]at bC;cases bC
 have nee:s3.heap.objs.size≠e:=fun z=>by rw[z,y2]at bC;cases bC
 refine⟨m,⟨oC,es,ep,n1 _ _ bC,c2⟩,fun h' hs cenv _=>?_⟩
 have he':h'.get? e=some oe:=(hs.2 e (Qa nee)).trans he
 have hT':h'.get? T=some oT:=(hs.2 T (Qa neT)).trans hT
 unfold PySem.passOn;refine Qz (Zj he' hd h1' ?_);rw[Qd (show ¬ (Value.ref T==Value.none)=true by simp)]
 unfold setFlight;refine Qz (Qz (Zj he' hd h1' ?_));rw[Qt (show(Value.ref T !=Value.none)=true by simp)]
 refine Vz hT' hdT (Array.getElem?_eq_some_iff.mp h3).1 (wpAny_throw ?_);have other:∀v b,b≠T->(h'.update T (Obj.mapFields fun x=>x.setIfInBounds 3 v)).get? b=h'.get? b:=fun v b hb=>Ze h' _ (Qa hb)
 generalize (cenv.frame.elim Value.none fun f=>rawInt ↑f)=v
 have hide:∀b o,(PySem.W.hideAll Bh [s3.heap.objs.size]).get? b=some o->Bh.get? b=some o/\b≠s3.heap.objs.size:=fun b o q=>by
  refine⟨PySem.W.of_hideAll _ q,fun z=>?_⟩
  subst z;rw[PySem.W.hideAll_none _ (by simp)]at q
  cases q
 have hideN:∀b,Bh.get? b=none->(PySem.W.hideAll Bh [s3.heap.objs.size]).get? b=none:=fun b q=>by
  cases z:(PySem.W.hideAll Bh [s3.heap.objs.size]).get? b with
  |none=>rfl
  |some o=>rw[(hide b o z).1]at q;cases q
 have unh:∀b o,Bh.get? b=some o->b≠s3.heap.objs.size->(PySem.W.hideAll Bh [s3.heap.objs.size]).get? b=some o:=fun b o q n=>PySem.W.hideAll_get _ q (by simpa using n)
 refine ha pins σ Hc H' sc _ e t C (PySem.W.hideAll Bh [s3.heap.objs.size]) v IX os bare (fun b o q=>?_) (hideN _ y2) ?_ ?_ (fun b o lt q n hb=>unh b o (kept b o q n hb) (Qh (Qu lt szC))) (fun b o lt q hb=>?_) (fun b o lt q n hb=>?_) (fun b o lt q n=>un.free b o q n (by simp)) un.tups un.frzs un.tbls ?_ hE
 ·obtain⟨q1,q2⟩:=hide b o q
  have hb:b≠T:=fun z=>by rw[z,hnT]at q1;cases q1
  exact(other v b hb).trans ((hs.2 b q2).trans (n1 b o q1))
 ·rw[hst]
  refine Lh n2 fun b o q1 q2 q3=>⟨hideN b q1,o,?_,q3⟩
  have hb:b≠T:=fun z=>by subst z;rw[hT]at q2;cases q2;exact q3 ts hdT
  have hc:b≠s3.heap.objs.size:=fun z=>by rw[z,bC]at q1;cases q1
  exact(other v b hb).trans ((hs.2 b hc).trans q2)
 ·refine⟨oe,vs,T,Obj.mapFields (fun x=>x.setIfInBounds 3 v) oT,ts.setIfInBounds 3 v,(other v e (Qa hTe)).trans he',⟨hcls,h0⟩,hd,h1',hideN _ hnT,hTe,Yn _ hT' (Obj.isFreed_of_fields (Uj hdT _)),Uj hdT _,?_⟩
  have:=(Array.getElem?_eq_some_iff.mp h3).1;rw[Array.getElem?_setIfInBounds_self_of_lt this]
 ·obtain⟨o',q'⟩:=thr b o q hb
  exact⟨o',unh b o' q' (Qh (Qu lt szC))⟩
 ·obtain⟨sl,q1⟩:=un.any q n (by simp)
  obtain⟨_,o1,g1,g2⟩:=IX.funs.mem hb;rw[q]at g1;cases g1;obtain⟨sl2,q2⟩:=n4 b _ q1 g2;have hb2:b≠T:=fun z=>by subst z;rw[hT]at q2;cases q2;exact g2 ts hdT
  exact⟨sl2,(other v b hb2).trans ((hs.2 b (Qh (Qu lt szC))).trans q2)⟩
 ·refine Fa hok fun b u o q1 q2=>unh b o q2 fun z=>?_
  subst z;rw[un.free _ _ c1 hCn (by simp)]at q1
  cases q1
end
def Lj(J:It)(g:TG)(te:TE)(p:Addr)(σ₀:St)(H₀:Hp)(Q:Hp->Prop):Prop:=
 ∃W:Nat->Nat->St->Hp->Prop,(∃m,W 0 m σ₀ (upd H₀ p (.lst [])))/\∀i m σ H,W i m σ H->
  (J.stop i H/\Q H)\/(J.go i H/\∀x H',J.yld i H x H'->g x σ H' fun σ2 H2=>
   te σ2 H2 fun y H4=>∃ys,H4 p=some (.lst ys)/\ys.length<sizeLine/\∃m',m'<m/\W (i+1) m' σ2 (upd H4 p (.lst (ys++[y]))))
def Lk(wi:TI)(keep:List Bool)(more:Nat)(g:TG)(te:TE):TE:=fun σ H Q=>wi σ H fun J H1=>∀p,H1 p=none->Lj J g te p (J0 keep more σ) H1 (Q (.ref p))
section
variable{X:Cx}{N':List Str}{scope:Scope}{keep:List Bool}{more:Nat}{tg iter elt:Expr}{g:TG}{te:TE}{pos:Pos}{E0:XK}
theorem VE{E0:XK}{E:OU}{pins:OA}{σ:St}{H:Hp}{s:Shared}{it:Addr}{fp:List Addr}{tn:Nat->Heap->Prop}{J:It}{Qf:Addr->Hp->Prop}{RR:Value->Addr->Result->Shared->Prop}
  (ok:gM X N' scope keep more)(hc:X.calm=true)(hg:∀s H fp,PG (D7 X N' scope s H fp) tg g)(he:∀s H fp EX,Q4 (iA X.prog X.w) ((D7 X N' scope s H fp).wish EX) E0->PE ((D7 X N' scope s H fp).wish EX) elt te)
  (I:Inv X pins σ H s)(T:Turn X.prog X.w X.K tg J fp it tn)(st:tn 0 s.heap)(hf:∀b∈fp,J4 X pins H b)
  (run:∀p,H p=none->Lj J g te p (J0 keep more σ) H (Qf p))
  (hP:∀p s3 H3,Inv X pins σ H3 s3->(∀b∈fp,J4 X pins H3 b)->Q4 (iA X.prog X.w) ((D7 X N' scope s3 H3 fp).wish (Li X scope (RR (.ref p) s3.heap.objs.size) s3.heap.objs.size)) E0)
  (hRR:∀p C s' H' m,Inv X pins σ H' s'->Qf p H'->s'.heap.Ns C m->C≠X.env.locals->(∀x c,X.env.cells.lookup x=some c->c≠C)->H' C=none->(∀σ'' H'' s'' h',Inv X pins σ'' H'' s''->H'' C=none->Heap.SameBut C s''.heap h'->Inv X pins σ'' H'' {s'' with heap:=h'})->RR (.ref p) C (.ok .next) s'):
  wpAny (model X.prog X.w) X.A (newList []) (fun acc s₃=>wpAny (model X.prog X.w) X.A (newFunctionEnv scope X.env.globals (M0 X.env.cells scope.names []) [] X.env.qual none .none (some X.env)) (fun cenv s₄=>
   codeAny (model X.prog X.w) X.A (.compStart (.ListComp elt [⟨tg,iter,[],0⟩] scope pos) 0 (.ref it) acc {cenv with scope:=relabel scope X.env}) (RR acc cenv.locals) s₄) E s₃) E s:=by
 have hp0:H s.heap.objs.size=none:=I.hok.fresh (Qv _)
 refine Yq ?_
 have I3:Inv X pins σ (upd H s.heap.objs.size (.lst [])) {s with heap:=s.heap.push {cls:=.type "list",dict:=none,data:=.seq ([]:List Value).toArray}}:=
  I.laid (t':=s.toks) (fun b u e=>Qj _ e) (Qv _) ⟨Yb _,[],0,.nil,Qw _ rfl⟩
 have fpOld:∀b∈fp,b<s.heap.objs.size:=fun b hb=>by
  obtain⟨o,e,_⟩:=T.obj 0 _ st b hb;exact Qk e
 have hf3:∀b∈fp,J4 X pins (upd H s.heap.objs.size (.lst [])) b/\b<(s.heap.push {cls:=.type "list",dict:=none,data:=.seq ([]:List Value).toArray}).objs.size:=fun b hb=>by
  refine⟨⟨by rw[C4 (Qh (fpOld b hb))];exact(hf b hb).1,(hf b hb).2⟩,?_⟩
  rw[Zy];exact Jx (fpOld b hb)
 have st3:tn 0 (s.heap.push {cls:=.type "list",dict:=none,data:=.seq ([]:List Value).toArray}):=T.keep 0 _ _ st fun b hb o e=>Qj _ e
 generalize hs3:({s with heap:=s.heap.push {cls:=.type "list",dict:=none,data:=.seq ([]:List Value).toArray}}:Shared)=s3 at I3 ⊢
 have hs3h:s3.heap=s.heap.push {cls:=.type "list",dict:=none,data:=.seq ([]:List Value).toArray}:=by rw[←hs3]
 rw[←hs3h]at hf3 st3;generalize hp:s.heap.objs.size=p at hp0 I3 hf3 ⊢;generalize hH3:upd H p (.lst [])=H3 at I3 hf3;refine FH _ ?_
 have I4:=FG ok I3 hf3
 generalize hs4:({s3 with heap:=pushCells (s3.heap.push {cls:=.type "dict",data:=.dict #[]}) scope.names}:Shared)=s4 at I4 ⊢
 have st4:tn 0 s4.heap:=T.keep 0 _ _ st3 fun b hb o e=>by rw[←hs4];exact Jh _ _ _ _ (Qj _ e)
 obtain⟨W,⟨m0,w0⟩,turn⟩:=run p hp0;have stat:∀{H':Hp},(∀b∈fp,H' b=none)->∀b∈fp,J4 (D7 X N' scope s3 H3 fp) [] H' b:=fun hn b hb=>by
  have z:=I4.ok.exf b hb
  exact⟨hn b hb,z.1,I4.ok.exfs b hb,.inl hb,z.2,fun p hp=>absurd (show p∈([]:OA)from hp) (by simp)⟩
 have loop:codeAny (model X.prog X.w) X.A (.compLoop (.ListComp elt [⟨tg,iter,[],0⟩] scope pos) 0 (.ref it) (.ref p) (T3 scope X.env s3.heap.objs.size)) (RR (.ref p) s3.heap.objs.size) s4:=by
  refine VC (fun n s'=>∃i σ' H',Inv (D7 X N' scope s3 H3 fp) [] σ' H' s'/\tn i s'.heap/\(∀b∈fp,H' b=none)/\W i n σ' H') ?_ m0 ⟨0,_,H3,I4,st4,fun b hb=>(hf3 b hb).1.1,by rw[←hH3];exact w0⟩
  rintro n s5 ⟨i,σ5,H5,I5,st5,fr5,w5⟩
  rcases turn i n σ5 H5 w5 with⟨stop,qf⟩|⟨go,step⟩
  ·refine eV (T.done (D7 X N' scope s3 H3 fp) rfl rfl rfl hc i [] s5 σ5 H5 (fun _ _=>False) I5 (stat fr5) st5 stop) fun r s6 ⟨hr,I6⟩=>?_
   subst hr;obtain⟨m6,hn6,_⟩:=I6.loc;have hch:∀b∈fp,(b∈X.ex\/X.s₀.heap.objs.size≤b)/\b≠X.env.locals/\(∀x c,X.env.cells.lookup x=some c->c≠b)/\∀p∈X.pn++pins,p.1≠b:=fun b hb=>by
    obtain⟨_,f1,_,f3,f4,f5⟩:=hf b hb;exact⟨f3,f1,f4,f5⟩
   have IX:Inv X pins σ H5 s6:=I3.call' (s':=s6) (I6.os) (I6.base) I6.hok I6.bare hch
   have szC:X.s₀.heap.objs.size≤s3.heap.objs.size:=I3.sz
   have hCL:s3.heap.objs.size≠X.env.locals:=Js I3.lt
   have hCc:∀x c,X.env.cells.lookup x=some c->c≠s3.heap.objs.size:=fun x c e=>by
    obtain⟨v,q⟩:=I3.cell x c e;exact Qh q.lt
   have hCp:∀q∈X.pn++pins,q.1≠s3.heap.objs.size:=fun q hq=>Qh (Qk (I3.pin q hq).1)
   refine hRR p s3.heap.objs.size s6 H5 m6 IX qf hn6 hCL hCc I6.free fun σ'' H'' s'' h' I'' hn hs=>?_
   exact I''.turned (t':=s''.toks) (it:=s3.heap.objs.size) (fun b o hb e=>(hs.2 b hb).trans e) hn hCL (.inr szC) hCc hCp
  ·refine eV (T.item (D7 X N' scope s3 H3 fp) rfl rfl rfl hc i [] s5 σ5 H5 (fun _ _=>False) I5 (stat fr5) st5 go) fun r s6 ⟨u,hr,h6⟩=>?_
   subst hr;refine eV h6 fun _ s7 ⟨x,H7,I7,r7,y7,st7,fr7⟩=>?_
   have I7':=I7.pinned (stat fr7) (T.obj _ _ st7)
   have back:∀{σ8:St}{H8:Hp}{s8:Shared}{m':Nat},Inv (D7 X N' scope s3 H3 fp) ([]++X4 fp s7.heap) σ8 H8 s8->m'<n->W (i+1) m' σ8 H8->∃m,m<n/\∃i σ' H',Inv (D7 X N' scope s3 H3 fp) [] σ' H' s8/\tn i s8.heap/\(∀b∈fp,H' b=none)/\W i m σ' H':=fun{σ8 H8 s8 m'} I8 hm w8=>by
    refine⟨m',hm,i+1,σ8,H8,I8.unpinned,T.keep _ _ _ st7 fun b hb o e=>(I8.pin (b,o) (Qm _ (Qm _ (U2 hb e)))).1,fun b hb=>?_,w8⟩
    obtain⟨o,e,d⟩:=T.obj _ _ st7 b hb;exact(I8.pin (b,o) (Qm _ (Qm _ (U2 hb e)))).2.1
   refine eV (hg s3 H3 fp _ s7 σ5 H7 x u _ I7' r7 (step x H7 y7)) fun _ s8 ⟨σ8,H8,I8,q8⟩=>?_
   refine Qb (he s3 H3 fp _ (hP p s3 H3 I3 fun b hb=>(hf3 b hb).1) _ s8 σ8 H8 _ (I8.wish _) q8) (fun v s10 ⟨y,H10,I10,r10,ys,hys,hl,m',hm,w10⟩=>?_) fun _ _ q=>q
   exact eV (Ca (X:=D7 X N' scope s3 H3 fp) _ s10 σ8 H10 (.ref p) [y] (.ref p) [v] (fun _ H11=>W (i+1) m' σ8 H11) I10.unwish rfl (.cons r10 .nil) ⟨p,ys,y,rfl,rfl,hys,hl,w10⟩) fun _ s11 ⟨_,H11,I11,_,w11⟩=>back I11 hm w11
 refine codeAny_compStart_list loop ?_
 exact Qb (T.self X.A 0 s4 _ (fun _ _=>False) st4 loop) (fun _ _ q=>q) fun _ _ q=>q.elim
theorem VF{wi:TI}{i:Nat}{y:Str}{py spos:Pos}(ok:gM X N' scope keep more)(hc:X.calm=true)(hN:X.N.Nodup)(hy:X.N[i]? =some y)(hyl:X.env.scope.names.lookup y=some .local)
  (hsw:swapsWith (.ListComp elt [⟨tg,iter,[],0⟩] scope pos) (some (.Name y py)) spos.line X.env=pure true)
  (hi:PI X tg iter wi)(hg:∀s H fp,PG (D7 X N' scope s H fp) tg g)(he:∀s H fp EX,Q4 (iA X.prog X.w) ((D7 X N' scope s H fp).wish EX) E0->PE ((D7 X N' scope s H fp).wish EX) elt te)(hst:X.stack=X.env::X.outer)(hfr:X.env.frame=some X.env.locals)(hat:rB X E0)
  (hs:∀x,foldedSetIterable iter X.env x=pure x:=by intro _;rfl):L2.PS X (.Assign [.Name y py] (.ListComp elt [⟨tg,iter,[],0⟩] scope pos) spos) (Bu (Lk wi keep more g te) (Bt i)):=by
 intro pins s σ H D I h;rw[exec_Assign_Name_used _ _ _ _ hsw];refine Qz (Ye (Qz ?_));show wpAny _ X.A (do let _←comprehension (.ListComp elt [⟨tg,iter,[],0⟩] scope pos) scope X.env _ (newList []) false (eval iter X.env) (some (assign (.Name y py) X.env))) _ _ s
 refine Qz (Qb (Jp (use:=some (assign (.Name y py) X.env)) (Q:=fun _ s'=>SP X pins D .next s') rfl hs ok.clos ok.kind (fun x hx hl=>by have:=ok.uniq x hx;rwa [hl]at this) (eV (hi pins s σ H _ I h) fun v s1 h1=>eV h1 fun itv s2 h2=>?_)) (fun _ s' hq=>Qx (Qx hq)) fun _ _ e=>e)
 obtain⟨it,fp,tn,J,H2,e,I2,T,st2,f2,run⟩:=h2;subst e;refine VE (Qf:=fun p H'=>D.nx (σ.set i (some (.ref p))) H') (RR:=fun acc C=>compPost (model X.prog X.w) X.A X.xe (some (assign (.Name y py) X.env)) (fun _ s'=>SP X pins D .next s') acc C) ok hc hg he I2 T st2 f2 run (fun p s3 H3 I3 hf3=>VD hst hfr hat I3 hf3) ?_
 intro p C s' H' m IX qf hn hCL hCc hCn turn;refine Uw (CT (v:=.ref p) (u:=.ref p) IX hN hy (.inl hyl) rfl (fun s'' I'' hs''=>?_) (.inr hyl))
 obtain⟨a,hsb,ha⟩:=hs'';have hCa:C≠a:=by
  rcases ha with z|z
  ·rw[z];exact hCL
  ·exact fun q=>hCc y a z q.symm
 exact⟨m,hn.sameBut hsb hCa,fun h' hs'=>⟨_,H',turn _ H' s'' h' I'' hCn hs',qf⟩⟩
end
def GG(g:OX)(x:Mx)(m:Mo D):List D->Mx
 |[],_=>none
 |d::ds,env=>(g d env).bind fun e1=>match x e1 with
  |some n=>some n
  |none=>(m e1).bind fun q=>GG g x m ds q.2
def GH(mi:Mo (List D))(keep:List Bool)(more:Nat)(g:OX)(x:Mx)(m:Mo D):Mx:=fun env=>(mi env).bind fun p=>if p.1.length≤100000 then GG g x m p.1 (N1 keep more p.2)else none
section
variable{K:Qq}{B:OE}{G G':Hp}{σ σ':St}{env eW env':c7}{H H':Hp}{keep:List Bool}{more:Nat}{E:XK}{n:Str}
theorem Ev.toNil(ev:Ev K B G (J0 keep more σ) (N1 keep more env) H G' σ' eW H'):Ev K B G σ env H G' σ (List.replicate σ.length .nil) H':=
 ⟨DH ev.rel ev.rel.old,ev.same,fun b o n t e=>ev.keep b o (fun z=>n (AW z)) t e,ev.live,fun b e n g=>ev.stay b e (fun z=>n (AW z)) g,fun a z=>(Kn z).elim,fun i w e hp=>(by
  rw[Yo]at e;split at e
  ·cases e;cases hp
  ·cases e),rfl⟩
theorem XW.inner(w:XW K B E G σ env H n):XW K B E G (J0 keep more σ) (N1 keep more env) H n:=by
 obtain⟨C,h,k⟩:=w;exact⟨C,h,fun σ' G' env' H' ev=>k _ _ _ _ ev.toNil⟩
end
theorem VG{K:Qq}{B:OE}{E:XK}{mi:Mo (List D)}{keep:List Bool}{more n:Nat}{g:OX}{x:Mx}{m:Mo D}(hkl:keep.length=n):
  ∀(σ:St) H (Q:V->Hp->Prop),σ.length=n->TX K B E (GH mi keep more g x m) σ H->Lk (pN K B mi) keep more (oU K B n g) (fun σ H Q=>TX K B E x σ H\/TD K B m σ H Q) σ H Q:=by
 rintro σ H Q hσn ⟨G,env,nm,rl,e,w⟩;obtain⟨⟨items,a8⟩,e1,e2⟩:=C8 e;dsimp only at e2;split at e2
 ·rename_i hlen
  refine⟨G,env,items,a8,rl,e1,fun J G1 H1 fR itd p hp=>?_⟩
  have hk:keep.length=σ.length:=by rw[hkl,hσn]
  have gp:G1 p=none:=fR.rel.gnone hp
  have no1:¬ d6 σ a8 p:=fR.rel.unowned hp
  have no:¬ d6 (J0 keep more σ) (N1 keep more a8) p:=fun z=>no1 (AW z)
  have evA:∀ys,Ev K B G1 σ a8 H1 G1 σ a8 (upd H1 p (.lst ys)):=fun ys=>fR.rel.allocM hp
  refine⟨fun i m' σ2 H2=>m'=items.length-i/\i≤items.length/\∃G2 eW ys acc,Ev K B G1 (J0 keep more σ) (N1 keep more a8) (upd H1 p (.lst ys)) G2 σ2 eW H2/\
   B9 K G2 ys acc/\GG g x m (items.drop i) eW=some nm/\acc.length≤i,⟨_,rfl,Yb _,G1,_,[],[],.refl ((evA []).rel.ext hk),eY,by simpa using e2,Qv _⟩,?_⟩
  rintro i m' σ2 H2 ⟨rfl,hi,G2,eW,ys,acc,d5,r2,c2,l2⟩;have hpS:(upd H1 p (.lst ys)) p=some (.lst ys):=D9;have lH:Le G1 H2:=d5.same.trans d5.rel.sub
  by_cases hlt:i<items.length
  ·refine .inr ⟨itd.go i H2 lH hlt,fun v H3 y=>?_⟩
   have ed:items.drop i=items[i]::items.drop (i+1):=Jv hlt
   rw[ed]at c2;obtain⟨kX,e7,e8⟩:=C8 c2;have hget:items[i]? =some items[i]:=by simp[hlt]
   have st:∃G3,Ev K B G1 (J0 keep more σ) (N1 keep more a8) (upd H1 p (.lst ys)) G3 σ2 eW H3/\Le G2 G3/\a9 K G3 v items[i]:=by
    rcases itd.yld i H2 v H3 items[i] lH y hget with⟨rfl,r⟩|⟨q,o,hno,hq,rfl,r⟩
    ·exact⟨G2,d5,Le.refl,a9.mono d5.same _ r⟩
    ·have gq:=d5.rel.gnone hq
     refine⟨upd G2 q o,d5.trans (d5.rel.alloc hq hno),Le.upd gq,a9.mono (fun b u z=>?_) _ r⟩
     by_cases hb2:b=q
     ·subst hb2;rw[D9]at z ⊢;exact z
     ·rw[C4 hb2]at z ⊢;exact d5.same b u z
   obtain⟨G3,iS,l3,r3⟩:=st;refine⟨G3,eW,items[i],kX,iS.rel,r3,e7,fun σ4 G4 H4 kI _=>?_⟩
   have j0:=iS.trans kI
   cases hx4:x kX with
   |some n'=>
    rw[hx4]at e8;cases e8;exact .inl ⟨G4,kX,_,kI.rel,hx4,((w.after (fR.trans (evA ys))).inner).after j0⟩
   |none=>
    rw[hx4]at e8;obtain⟨⟨d7,nG⟩,e11,e12⟩:=C8 e8;refine .inr (.bind kI.rel e11 fun v G7 H7 nV r7=>?_)
    have lD:=j0.trans nV
    have qA:H7 p=some (.lst ys):=lD.keep p _ no gL hpS
    refine⟨ys,qA,by rw[r2.length];exact Uq l2 (Qu hlt (Qe hlen (by decide))),items.length-(i+1),by omega,rfl,hlt,G7,nG,ys++[v],acc++[d7],?_,(B9.mono ((l3.trans kI.same).trans nV.same) acc r2).append (fB r7 eY),e12,by rw[Zq];simp;omega⟩
    have:=lD.swapAt (o:=.lst (ys++[v])) no (by rw[hpS];simp) gp gL (fun φ z=>by rw[lD.keep p _ no gL hpS]at z;cases z)
    rwa [CS]at this
  ·have ei:i=items.length:=by omega
   subst ei;rw[Ud]at c2;cases c2
 ·cases e2
section
variable{X:Cx}{B:OE}{E:XK}{N':List Str}{scope:Scope}{keep:List Bool}{more:Nat}{tg iter elt:Expr}{g:OX}{x:Mx}{m:Mo D}{mi:Mo (List D)}{pos:Pos}
theorem VH{i:Nat}{y:Str}{py spos:Pos}(ok:gM X N' scope keep more)(hc:X.calm=true)(hN:X.N.Nodup)(hy:X.N[i]? =some y)(hyl:X.env.scope.names.lookup y=some .local)
  (hsw:swapsWith (.ListComp elt [⟨tg,iter,[],0⟩] scope pos) (some (.Name y py)) spos.line X.env=pure true)
  (hi:EI X B tg iter mi)(hg:∀s H fp,EG (D7 X N' scope s H fp) B X.N.length tg g)(he:∀s H fp EX,ED ((D7 X N' scope s H fp).wish EX) B elt m)(hx:∀s H fp EX,Q4 (iA X.prog X.w) ((D7 X N' scope s H fp).wish EX) E->mM ((D7 X N' scope s H fp).wish EX) B E elt x)
  (hst:X.stack=X.env::X.outer)(hfr:X.env.frame=some X.env.locals)(hat:rB X E)
  (hs:∀x,foldedSetIterable iter X.env x=pure x:=by intro _;rfl):nZ X B E (.Assign [.Name y py] (.ListComp elt [⟨tg,iter,[],0⟩] scope pos) spos) (GH mi keep more g x m):=by
 intro pins s σ H D I h;exact VF (g:=oU X.K B X.N.length g) (te:=fun σ H Q=>TX X.K B E x σ H\/TD X.K B m σ H Q) ok hc hN hy hyl hsw hi hg (fun s H fp EX hp pins s' σ H Q I q=>q.elim (hx _ _ _ EX hp pins s' σ H Q I) (he _ _ _ EX pins s' σ H Q I)) hst hfr hat hs pins s σ H D I (VG ok.klen σ H _ I.len h)
end
structure mS(P:Program)(w:World)(K:Qq)(mg:OI)(base:Heap)(m:Str)(k:Nat)(fn:Fn):Prop where
 ex:∃(C f:Addr) (fd:FuncData) (ps:List Str),PySem.W.nsIn K mainGlobals "Desk"=some (some (.ref C))/\mY K C/\mI K C m f/\c8 P w K mg base gA k f fd ps (gU K 2 fn)/\ps.length=2/\L8 K fd ps []
structure mB(P:Program)(w:World)(K:Qq)(mg:OI)(base:Heap)(m:Str)(k:Nat)(g:List W->Option Str):Prop where
 ex:∃(C f:Addr) (fd:FuncData) (ps:List Str),PySem.W.nsIn K mainGlobals "Desk"=some (some (.ref C))/\mY K C/\mI K C m f/\c8 P w K mg base (iA P w) k f fd ps (j2 K 2 g)/\ps.length=2/\L8 K fd ps []
def GI:D->Bool
 |.obj (.dsk _)=>true
 |_=>false
theorem Ll{d:D}(h:GI d=true):∃kvs,d=.obj (.dsk kvs):=by
 cases d with
 |obj o=>cases o with
  |dsk kvs=>exact⟨kvs,rfl⟩
  |_=>cases h
 |_=>cases h
def rD:Rr->Option D
 |.d d=>some d
 |.l _=>none
def O2(fn:Fn)(mo ma:Mo D):Mo D:=fun env=>(mo env).bind fun p=>if GI p.1 then(ma p.2).bind fun q=>(fn [.dat p.1,.dat q.1]).bind fun r=>(rD r.1).map fun d=>(d,q.2)else none
def DS(g:List W->Option Str)(mo ma:Mo D):Mx:=fun env=>(mo env).bind fun p=>if GI p.1 then(ma p.2).bind fun q=>g [.dat p.1,.dat q.1]else none
section
variable{X:Cx}{B:OE}{E:XK}{m:Str}{k:Nat}{o e:Expr}{mo ma:Mo D}{apos pos:Pos}{fn:Fn}{g:List W->Option Str}
theorem V1{pl:Sem Bool}(Df:mS X.prog X.w X.K X.mg X.base m k fn)(hr:fA k X.A)(ho:ED X B o mo)(ha:ED X B e ma)(hm:(m==("by_name":Str))=false:=by decide)
  (hst:starEach [e] X.env=(false,eval e X.env)::starEach [] X.env:=by rfl)(hpl:(backTo pos (starEach [] X.env)).any (·.1)=false:=by rfl)
  (ht:eval (.Call (.Attribute o m apos) [e] [] pos) X.env=(do
   let ov←eval o X.env
   standAt apos.atName
   let (f,first)←holding [ov] (getMethod ov m pl)
   callWith pos f first (backTo pos (starEach [e] X.env)) (backToKw pos (keywordEach [] X.env))):=by rfl):
  ED X B (.Call (.Attribute o m apos) [e] [] pos) (O2 fn mo ma):=by
 obtain⟨C,f,fd,ps,hC,cl,hme,F,hl,hb⟩:=Df.ex;refine d9 (Eh (pl:=pl) (E:=fun _ _ _=>False) ho cl hme F hr hb .nil BI (M7 ha Q3 hst) hst hpl ht) ?_
 rintro σ H Q ⟨G,env,d,env',rl,em,kk⟩;obtain⟨⟨d0,jA⟩,e0,e1⟩:=C8 em;dsimp only at e1;split at e1
 case isFalse=>cases e1
 rename_i hd;obtain⟨⟨d1,a8⟩,e2,e3⟩:=C8 e1;obtain⟨⟨r,ws'⟩,e4,e5⟩:=C8 e3;obtain⟨d2,e6,e7⟩:=E8 e5;cases e7;obtain⟨kvs,rfl⟩:=Ll hd;refine⟨G,env,_,jA,rl,e0,fun v G1 H1 fR r1=>?_⟩
 have r1':=r1
 simp only[a9,P1]at r1';obtain⟨a,C',dx,dd,qs,rfl,hC',K',g1,g2,g3,g4⟩:=r1';rw[hC]at hC';cases hC';refine⟨a,dx,_,rfl,fR.rel.sub _ _ g1,?_,G1,jA,d1,a8,fR.rel,e2,fun u G2 H2 d5 r2=>?_⟩
 ·simp only[List.lookup,hm]
 ·show gU X.K 2 fn [.ref a,u] H2 Q (fun _ _ _=>False)
  have ra:gP X.K G2 σ [.ref a,u] [.d (.obj (.dsk kvs)),.d d1]:=⟨_,_,rfl,a9.mono d5.same _ r1,_,_,rfl,r2,rfl⟩
  refine⟨G2,[.dat (.obj (.dsk kvs)),.dat d1],r,ws',rfl,AO (as:=[.d (.obj (.dsk kvs)),.d d1]) (c:=.l []),AQ (c:=.l []) (i:=0) (w:=.nil) d5.rel ra (fun k j e=>absurd e (O5 (as:=[.d (.obj (.dsk kvs)),.d d1]) rfl k j)) (fun k k' j j' e=>absurd e (O5 (as:=[.d (.obj (.dsk kvs)),.d d1]) rfl k j)),e4,?_⟩
  cases r with
  |d d'=>cases e6;exact fun v G3 H3 iS rp=>kk v G3 H3 ((fR.trans d5).trans (AR (c:=.l []) d5.rel ra rfl iS)) rp
  |l ds=>cases e6
theorem Lm{pl:Sem Bool}(hx:Q4 (iA X.prog X.w) X E)(Df:mB X.prog X.w X.K X.mg X.base m k g)(hr:fA k X.A)(ho:ED X B o mo)(ha:ED X B e ma)(hm:(m==("by_name":Str))=false:=by decide)
  (hst:starEach [e] X.env=(false,eval e X.env)::starEach [] X.env:=by rfl)(hpl:(backTo pos (starEach [] X.env)).any (·.1)=false:=by rfl)
  (ht:eval (.Call (.Attribute o m apos) [e] [] pos) X.env=(do
   let ov←eval o X.env
   standAt apos.atName
   let (f,first)←holding [ov] (getMethod ov m pl)
   callWith pos f first (backTo pos (starEach [e] X.env)) (backToKw pos (keywordEach [] X.env))):=by rfl):
  mM X B E (.Call (.Attribute o m apos) [e] [] pos) (DS g mo ma):=by
 obtain⟨C,f,fd,ps,hC,cl,hme,F,hl,hb⟩:=Df.ex;refine d9 (Eh (pl:=pl) (E:=E) ho cl hme F hr hb .nil hx (M7 ha Q3 hst) hst hpl ht) ?_
 rintro σ H Q ⟨G,env,c,rl,em,C2,hC2,w⟩;obtain⟨⟨d0,jA⟩,e0,e1⟩:=C8 em;dsimp only at e1;split at e1
 case isFalse=>cases e1
 rename_i hd;obtain⟨⟨d1,a8⟩,e2,e3⟩:=C8 e1;obtain⟨kvs,rfl⟩:=Ll hd;refine⟨G,env,_,jA,rl,e0,fun v G1 H1 fR r1=>?_⟩
 have r1':=r1
 simp only[a9,P1]at r1';obtain⟨a,C',dx,dd,qs,rfl,hC',K',g1,g2,g3,g4⟩:=r1';rw[hC]at hC';cases hC';refine⟨a,dx,_,rfl,fR.rel.sub _ _ g1,?_,G1,jA,d1,a8,fR.rel,e2,fun u G2 H2 d5 r2=>?_⟩
 ·simp only[List.lookup,hm]
 ·show j2 X.K 2 g [.ref a,u] H2 Q E
  have ra:gP X.K G2 σ [.ref a,u] [.d (.obj (.dsk kvs)),.d d1]:=⟨_,_,rfl,a9.mono d5.same _ r1,_,_,rfl,r2,rfl⟩
  exact⟨G2,[.dat (.obj (.dsk kvs)),.dat d1],c,C2,rfl,AO (as:=[.d (.obj (.dsk kvs)),.d d1]) (c:=.l []),AQ (c:=.l []) (i:=0) (w:=.nil) d5.rel ra (fun k j e=>absurd e (O5 (as:=[.d (.obj (.dsk kvs)),.d d1]) rfl k j)) (fun k k' j j' e=>absurd e (O5 (as:=[.d (.obj (.dsk kvs)),.d d1]) rfl k j)),e3,hC2,
   fun G3 ws' H3 iS=>w σ G3 a8 H3 ((fR.trans d5).trans (AR (c:=.l []) d5.rel ra rfl iS))⟩
end
def O8(t:OO):D:=.tup (t.map fun r=>.tup (r.map .int))
def nM:List (Str×OO)->Key->Option (OO)
 |[],_=>none
 |p::l,k=>if(.inr p.1:Key)=k then some p.2 else nM l k
theorem Ln{K:Qq}{G:Hp}:∀{xs:List V}{rs:OO},X6 K G xs rs->B9 K G xs (rs.map fun r=>.tup (r.map .int))
 |[],[],_=>eY
 |x::xs,r::rs,⟨⟨a,e,h⟩,t⟩=>fB (by simp only[a9];exact⟨a,_,e,h,FX r⟩) (Ln t)
theorem DT{K:Qq}{G:Hp}:∀{ps:List (Key×V)}{qs:List (Str×OO)}(k:Key),O4 K G ps qs->match nM qs k with
  |none=>lG ps k=none
  |some t=>∃v,lG ps k=some v/\a9 K G v (O8 t)
 |[],[],k,_=>rfl
 |p::ps,q::qs,k,⟨h1,⟨a,xs,h2,h3,h5⟩,h4⟩=>by
  have ih:=DT k h4
  by_cases e:(.inr q.1:Key)=k
  ·have e1:nM (q::qs) k=some q.2:=Qt e
   have e2:lG (p::ps) k=some p.2:=Qt (h1.trans e)
   rw[e1];exact⟨_,e2,by simp only[O8,a9];exact⟨a,xs,h2,h3,Ln h5⟩⟩
  ·have e1:nM (q::qs) k=nM qs k:=Qd e
   have e2:lG (p::ps) k=lG ps k:=Qd (fun z=>e (h1.symm.trans z))
   rw[e1,e2];exact ih
def DU:D->Option (List (Str×OO))
 |.obj (.dsk kvs)=>some kvs
 |_=>none
theorem GJ{d:D}{kvs:List (Str×OO)}(h:DU d=some kvs):d=.obj (.dsk kvs):=by
 cases d with
 |obj o=>cases o with
  |dsk l=>cases h;rfl
  |_=>cases h
 |_=>cases h
def CI(ma mo:Mo D):Mo D:=fun env=>(ma env).bind fun p=>(mo p.2).bind fun q=>(DU q.1).bind fun kvs=>(W9 p.1).map fun k=>(.bl (!(nM kvs k).isSome),q.2)
def Lo(mo ma:Mo D):Mo D:=fun env=>(mo env).bind fun q=>(DU q.1).bind fun kvs=>(ma q.2).bind fun p=>(W9 p.1).bind fun k=>(nM kvs k).map fun t=>(O8 t,p.2)
section
variable{X:Cx}{B:OE}{o e:Expr}{mo ma:Mo D}{apos pos:Pos}
theorem Lp{pins:OA}{s:Shared}{σ:St}{H G:Hp}{env jA:c7}{kvs:List (Str×OO)}(ho:ED X B o mo)(hb:attributeBase o "by_name" X.env (eval o X.env)=eval o X.env)(I:Inv X pins σ H s)(rl:Rel X.K B G σ env H)(e0:mo env=some (.obj (.dsk kvs),jA)):
  wpAny (model X.prog X.w) X.A (eval (.Attribute o "by_name" apos) X.env) (EP X pins σ fun v H1=>∃G1 d ps,v=.ref d/\Ev X.K B G σ env H G1 σ jA H1/\G1 d=some (.dK ps)/\O4 X.K G1 ps kvs) X.xe s:=by
 refine Eb ho hb pins s σ H _ I ⟨G,env,_,jA,rl,e0,fun v G1 H1 fR r1=>?_⟩
 simp only[a9,P1]at r1;obtain⟨a,C',dx,dd,qs,rfl,hC',K',g1,g2,g3,g4⟩:=r1;exact⟨a,C',dx,_,.ref dd,rfl,fR.rel.sub _ _ g1,K'.cl,K'.nb,rfl,G1,dd,qs,rfl,fR,g3,g4⟩
theorem VI(ha:ED X B e ma)(ho:ED X B o mo)(hb:attributeBase o "by_name" X.env (eval o X.env)=eval o X.env:=by rfl):PC X .NotIn e (.Attribute o "by_name" apos) (TD X.K B (CI ma mo)):=by
 intro pins s σ H Q I h;obtain⟨G,env,d,env',rl,em,kk⟩:=h;obtain⟨⟨d1,a8⟩,e1,e2⟩:=C8 em;obtain⟨⟨d0,jA⟩,e3,e4⟩:=C8 e2;obtain⟨kvs,e5,e6⟩:=C8 e4;obtain⟨key,e7,e8⟩:=E8 e6;cases e8;cases GJ e5;refine eV (ha pins s σ H (fun v H1=>∃G1,Ev X.K B G σ env H G1 σ a8 H1/\a9 X.K G1 v d1) I ⟨G,env,d1,a8,rl,e1,fun v G2 H2 ev r=>⟨G2,ev,r⟩⟩) fun iv s1 ⟨y,H1,I1,ry,G1,ev,r⟩=>?_
 refine eV (Lp ho hb I1 ev.rel e3) fun u s2 ⟨x',H2,I2,rx,G2,q,ps,z1,d5,g2,dv⟩=>?_
 subst z1;cases rx;have hv:=Z8 r e7;subst hv;obtain⟨_,hsys,xs,kv,dd⟩:=(show J3 X.prog X.w H2 s2.heap q (.dK _)from I2.hok q _ (d5.rel.sub _ _ g2))
 have hr:=(GC key kv).isSome_eq
 have hl:(lG ps key).isSome=(nM kvs key).isSome:=by
  have:=DT key dv;cases hv:nM kvs key with
  |none=>rw[hv]at this;rw[show lG ps key=none from this];rfl
  |some t=>rw[hv]at this;obtain⟨v,h1,_⟩:=this;rw[h1];rfl
 refine wpAny_notIn_of (M8 ry) hsys dd.mapOf ⟨.bl (!(nM kvs key).isSome),H2,I2.tok _,by rw[←hl,hr];rfl,kk _ G2 H2 (ev.trans d5) (by simp only[a9])⟩
theorem GK(ha:ED X B e ma)(ho:ED X B o mo)(hm:behindInMarks .NotIn (.Attribute o "by_name" apos)=false:=by rfl)(hb:attributeBase o "by_name" X.env (eval o X.env)=eval o X.env:=by rfl):ET X B (.Compare e [.NotIn] [.Attribute o "by_name" apos] pos) (mT (CI ma mo)):=
 jY (EK (VI ha ho hb) hm) Fs
theorem VJ(ho:ED X B o mo)(ha:ED X B e ma)(hs:AH e)(hb:attributeBase o "by_name" X.env (eval o X.env)=eval o X.env:=by rfl):
  ED X B (.Subscript (.Attribute o "by_name" apos) e pos) (Lo mo ma):=by
 intro pins s σ H Q I h;obtain⟨G,env,d,env',rl,em,kk⟩:=h;obtain⟨⟨d0,jA⟩,e3,e4⟩:=C8 em;obtain⟨kvs,e5,e6⟩:=C8 e4;obtain⟨⟨d1,a8⟩,e1,e2⟩:=C8 e6;obtain⟨key,e7,e8⟩:=C8 e2;obtain⟨t,e9,e10⟩:=E8 e8;cases e10;cases GJ e5;refine Cc Jw.lookup hs (eV (Lp ho hb I rl e3) fun u s1 ⟨x',H1,I1,rx,G1,q,ps,z1,fR,g1,dv⟩=>?_)
 subst z1;cases rx;refine eV (ha pins s1 σ H1 (fun v H2=>∃G2,Ev X.K B G1 σ jA H1 G2 σ a8 H2/\a9 X.K G2 v d1) I1 ⟨G1,jA,d1,a8,fR.rel,e1,fun v G2 H2 ev r=>⟨G2,ev,r⟩⟩) fun iv s2 ⟨y,H2,I2,ry,G2,ev,r⟩=>?_
 have hv:=Z8 r e7
 subst hv;obtain⟨_,hsys,xs,kv,dd⟩:=(show J3 X.prog X.w H2 s2.heap q (.dK _)from I2.hok q _ (ev.rel.sub _ _ (ev.same _ _ g1)))
 have hl:=DT key (dv.mono ev.same)
 rw[e9]at hl;obtain⟨v,h1,h2⟩:=hl;have hr:=GC key kv;rw[h1]at hr;obtain⟨w',hw,rw'⟩:=N8.some_of (v:=v) (o:=valueAt xs key) hr;exact⟨dd.typeIs,wpAny_getItem_of (M8 ry) dd.mapOf hw ⟨v,H2,I2.tok _,rw',kk _ G2 H2 (fR.trans ev) h2⟩⟩
end
def n5:List (Str×List Str)->Key->Option (List Str)
 |[],_=>none
 |p::l,k=>if(.inr p.1:Key)=k then some p.2 else n5 l k
def GL(K:Qq):Option (List Str)->Option Value->Prop
 |none,none=>True
 |some ts,some u=>∃b,u=.ref b/\lJ K (fun _=>none) b (ts.map V.str)/\∀x∈ts,x.length≤sizeLine
 |_,_=>False
structure pL(P:Program)(w:World)(K:Qq)(mg:OI)(x:Str)(kvs:List (Str×List Str)):Prop where
 ex:∃a,mg x=some (.ref a)/\(a==sysModules)=false/\∀h:Heap,K.In h->(∃o,h.get? a=some o/\o.cls=.type "dict")/\∃g:Key->Option Value,h.MapOf (F7 P w) a g/\∀k,GL K (n5 kvs k) (g k)
def GN(kvs:List (Str×List Str))(mb:Mo D):Mo D:=fun env=>(mb env).bind fun p=>(W9 p.1).bind fun k=>(n5 kvs k).map fun ts=>(.tup (ts.map .str),p.2)
def GO(kvs:List (Str×List Str))(ma:Mo D):Mo D:=fun env=>(ma env).bind fun p=>(W9 p.1).map fun k=>(.bl (!(n5 kvs k).isSome),p.2)
section
variable{X:Cx}{B:OE}{pos:Pos}{a b:Expr}{ma mb:Mo D}{kvs:List (Str×List Str)}
theorem Lq{x:Str}{p:Pos}(hk:pL X.prog X.w X.K X.mg x kvs)(hg:Gl X x)(hb:ED X B b mb)(hs:AH b)(hd:(x==("__debug__":Str))=false:=by decide):
  ED X B (.Subscript (.Name x p) b pos) (GN kvs mb):=by
 intro pins s σ H Q I h;obtain⟨G,env,d,env',rl,em,kk⟩:=h;obtain⟨⟨d1,a8⟩,e1,e2⟩:=C8 em;obtain⟨key,e3,e4⟩:=C8 e2;obtain⟨ts,e5,e6⟩:=E8 e4;cases e6;obtain⟨q,hm,hn,hall⟩:=hk.ex;refine Cc Jw.lookup hs (eV (V4 (v:=.ref q) hg hm rfl hd pins s σ H (fun v H1=>v=.ref q/\H1=H) I ⟨rfl,rfl⟩) fun u s1 ⟨y,H1,I1,ry,z1,z2⟩=>?_)
 subst z1 z2;cases ry;refine eV (hb pins s1 σ H1 (fun v H2=>∃G2,Ev X.K B G σ env H1 G2 σ a8 H2/\a9 X.K G2 v d1) I1 ⟨G,env,d1,a8,rl,e1,fun v G2 H2 ev r=>⟨G2,ev,r⟩⟩) fun iv s2 ⟨y,H2,I2,ry,G2,ev,r⟩=>?_
 have hv:=Z8 r e3
 subst hv;obtain⟨⟨o,ho,hc⟩,g,hmap,hrel⟩:=hall s2.heap I2.kIn;have hr:=hrel key;rw[e5]at hr;cases hgk:g key with
 |none=>rw[hgk]at hr;exact hr.elim
 |some u=>
  rw[hgk]at hr;obtain⟨c,rfl,hsq,hl⟩:=hr;exact⟨⟨o,ho,hc⟩,wpAny_getItem_of (M8 ry) hmap hgk ⟨.ref c,H2,I2.tok _,rfl,kk _ G2 H2 ev (by simp only[a9];exact⟨c,_,rfl,hsq.imp (fun z=>nomatch z) id,DN hl⟩)⟩⟩
theorem VL{x:Str}{p:Pos}(hk:pL X.prog X.w X.K X.mg x kvs)(hg:Gl X x)(ha:ED X B a ma)(hd:(x==("__debug__":Str))=false:=by decide):PC X .NotIn a (.Name x p) (TD X.K B (GO kvs ma)):=by
 intro pins s σ H Q I h;obtain⟨G,env,d,env',rl,em,kk⟩:=h;obtain⟨⟨d1,a8⟩,e1,e2⟩:=C8 em;obtain⟨key,e3,e4⟩:=E8 e2;cases e4;obtain⟨q,hm,hn,hall⟩:=hk.ex;refine eV (ha pins s σ H (fun v H1=>∃G1,Ev X.K B G σ env H G1 σ a8 H1/\a9 X.K G1 v d1) I ⟨G,env,d1,a8,rl,e1,fun v G2 H2 ev r=>⟨G2,ev,r⟩⟩) fun iv s1 ⟨y,H1,I1,ry,G1,ev,r⟩=>?_
 refine eV (V4 (v:=.ref q) hg hm rfl hd pins s1 σ H1 (fun v H2=>v=.ref q/\H2=H1) I1 ⟨rfl,rfl⟩) fun u s2 ⟨x',H2,I2,rx,z1,z2⟩=>?_
 subst z1 z2;cases rx;have hv:=Z8 r e3;subst hv;obtain⟨_,g,hmap,hrel⟩:=hall s2.heap I2.kIn;have hr:(n5 kvs key).isSome=(g key).isSome:=by
  have:=hrel key;cases h1:n5 kvs key<;>cases h2:g key<;>rw[h1,h2]at this<;>first|rfl|exact this.elim
 refine wpAny_notIn_of (M8 ry) hn hmap ⟨.bl (!(n5 kvs key).isSome),H2,I2.tok _,by rw[hr];rfl,kk _ G1 H2 ev (by simp only[a9])⟩
theorem VM{x:Str}{p:Pos}(hk:pL X.prog X.w X.K X.mg x kvs)(hg:Gl X x)(ha:ED X B a ma)(hm:behindInMarks .NotIn (.Name x p)=false)(hd:(x==("__debug__":Str))=false:=by decide):ET X B (.Compare a [.NotIn] [.Name x p] pos) (mT (GO kvs ma)):=
 jY (EK (VL hk hg ha hd) hm) Fs
theorem Lr{x y:Str}(hg:Gl X x)(hm:∃t,X.mg x=some (.str y t))(hl:y.length≤sizeLine)(hd:(x==("__debug__":Str))=false:=by decide):ED X B (.Name x pos) (mC (.str y)):=by
 obtain⟨t,hm⟩:=hm;intro pins s σ H Q I h;obtain⟨G,env,d,env',rl,em,kk⟩:=h;cases em;exact V4 (v:=.str y) hg hm ⟨t,rfl⟩ hd pins s σ H Q I (kk _ G H (.refl rl) (by simp only[a9];exact⟨trivial,hl⟩))
def DV:D->D->Option D
 |.str i,.str j=>some (.bl (!(Builtin.Str.occurrences j i 0 j.length 1).isEmpty))
 |_,_=>none
theorem Ls:jZ X B (fun x y H Q=>∃i j,x=.str i/\y=.str j/\Q (.bl (!(Builtin.Str.occurrences j i 0 j.length 1).isEmpty)) H) DV:=by
 intro G σ env H x y a b d Q rl ra rb e k;unfold DV at e;split at e
 ·cases e
  simp only[a9]at ra rb;exact⟨_,_,ra.1,rb.1,k _ G H (.refl rl) (by simp only[a9])⟩
 ·cases e
def DW:List D->Option D
 |[.str x]=>if x.length≤640 then(PySem.intText? x).map D.int else none
 |_=>none
theorem Lu:M3 X (.type "int") (fun xs H Q=>∃x n,xs=[.str x]/\PySem.intText? x=some n/\x.length≤640/\Q (.int n) H):=by
 intro pins s σ H xs us Q I r h;obtain⟨x,n,rfl,hn,hl,q⟩:=h;obtain⟨u,rfl,t,rfl⟩:=R6 r;exact PySem.W.KIN.call_text hn hl ⟨.int n,H,I.tok _,⟨_,rfl⟩,q⟩
theorem Lv:R9 X B (fun xs H Q=>∃x n,xs=[.str x]/\PySem.intText? x=some n/\x.length≤640/\Q (.int n) H) DW:=by
 intro G σ env H xs ds c Q rl r e k;unfold DW at e;split at e
 ·rename_i x
  split at e
  ·rename_i hl
   obtain⟨n,e1,e2⟩:=E8 e;cases e2;obtain⟨y,rfl,q1⟩:=Q9 r;simp only[a9]at q1;obtain⟨rfl,_⟩:=q1;exact⟨x,n,rfl,e1,hl,k _ G H (.refl rl) (by simp only[a9])⟩
  ·cases e
 ·cases e
def GP:List D->Option D
 |[.int i]=>if i.natAbs.log2<1920/\(Str.ofString (toString i)).length≤100000 then some (.str (Str.ofString (toString i)))else none
 |_=>none
theorem VN:R9 X B (fun xs H Q=>∃i,xs=[.int i]/\i.natAbs.log2<1920/\Q (.str (toString i)) H) GP:=by
 intro G σ env H xs ds c Q rl r e k;unfold GP at e;split at e
 ·rename_i i
  split at e
  ·rename_i hl
   cases e;obtain⟨y,rfl,q1⟩:=Q9 r;simp only[a9]at q1;subst q1;exact⟨i,rfl,hl.1,k _ G H (.refl rl) (by simp only[a9];exact⟨trivial,Qe hl.2 (by decide)⟩)⟩
  ·cases e
 ·cases e
theorem VO{P:Program}{w:World}{v:Value}{x:Str}(h:(F7 P w).is (.inr x) v=true):∃t,v=.str x t:=by
 have h':AE (Sum.inr x) v=true:=h
 cases v<;>first|(exact absurd (show false=true from h') Zm)|skip
 rename_i y t;have:y=x:=beq_iff_eq.mp (show(y==x)=true from h')
 subst this;exact⟨t,rfl⟩
def oY(a b:Str):Prop:=ltCps b.cps.toList a.cps.toList=false
theorem CJ{a b:Str}:oY a b↔a.cps.toList≤b.cps.toList:=by
 unfold oY;rw[ltCps_eq,decide_eq_false_iff_not];exact List.not_lt
theorem VP{a b:Str}(h1:oY a b)(h2:oY b a):a=b:=by
 have:=List.le_antisymm (CJ.mp h1) (CJ.mp h2);obtain⟨⟨a⟩⟩:=a;obtain⟨⟨b⟩⟩:=b;cases this
 rfl
theorem Lw:∀{ss:List Str}{p:Str},risingS p ss=true->(p::ss).Pairwise oY
 |[],_,_=>by simp
 |x::r,p,h=>by
  unfold risingS at h;rw[Qr]at h;have h1:oY p x:=by have:=h.1;unfold oY;cases q:ltCps x.cps.toList p.cps.toList with
   |false=>rfl
   |true=>rw[q]at this;cases this
  have ih:=Lw h.2
  refine List.pairwise_cons.mpr ⟨fun y hy=>?_,ih⟩
  rcases Qg.mp hy with rfl|hy
  ·exact h1
  ·exact CJ.mpr (List.le_trans (CJ.mp h1) (CJ.mp ((List.pairwise_cons.mp ih).1 y hy)))
theorem Lx{ss:List Str}(h:sortedS ss=true):ss.Pairwise oY:=by
 cases ss with
 |nil=>exact .nil
 |cons x r=>exact Lw h
theorem VQ{ss ts:List Str}(hp:ss.Perm ts)(h1:sortedS ss=true)(h2:sortedS ts=true):ss=ts:=
 hp.eq_of_pairwise (fun _ _ _ _=>VP) (Lx h1) (Lx h2)
theorem Ly:∀{l:List Value}{ss:List Str},l.length=ss.length->(∀(j:Nat) v,l[j]? =some v->∃x t,ss[j]? =some x/\v=.str x t)->StrsAre l ss
 |[],[],_,_=>.nil
 |[],_::_,h,_=>by simp at h
 |_::_,[],h,_=>by simp at h
 |v::l,x::ss,h,k=>by
  obtain⟨y,t,e1,e2⟩:=k 0 v rfl;cases e1;subst e2;exact .cons _ _ (Ly (by simpa using h) fun j v e=>k (j+1) v e)
theorem Lz:∀{us:List Value}{ss:List Str},StrsAre us ss->D6 (ss.map V.str) us
 |_,_,.nil=>.nil
 |_,_,.cons n t h=>.cons ⟨t,rfl⟩ (Lz h)
theorem GQ:∀{ps:List (Key×V)}{vs:List (Key×Value)},KV ps vs->vs.map (·.1)=ps.map (·.1)
 |_,_,.nil=>rfl
 |_,_,.cons h t=>by rw[Zu,Zu,GQ t,h.1]
theorem VR(hc:X.calm=true):M3 X (.builtin "sorted") (fun xs H Q=>∃(q:Addr) (ps:List (Key×V)) (ss:List Str),xs=[.ref q]/\H q=some (.dK ps)/\ps.map (·.1)=ss.map .inr/\ss.length<64/\sortedS ss=true/\∀l,H l=none->Q (.ref l) (upd H l (.lst (ss.map V.str)))):=by
 intro pins s σ H xs us Q I r h;obtain⟨d,ps,ss,rfl,hq,hks,h64,hsrt,q⟩:=h;obtain⟨u,rfl,rx⟩:=R6 r;cases rx;have hh:X.A.handled=none:=I.ok.hd hc;obtain⟨_,hsys,vs,kv,dd⟩:=(show J3 X.prog X.w H s.heap d (.dK _)from I.hok d _ hq)
 obtain⟨ep,hat⟩:=dd.dictAt;have hkv:vs.map (·.1)=ss.map .inr:=(GQ kv).trans hks
 have hvl:vs.length=ss.length:=by have:=Yy List.length hkv;simpa using this
 refine Calls.call_function_entry kind_sorted plain_sorted entry_sorted (args_sorted1 _) ?_
 unfold Builtin.«sorted»;refine Qz (m:=checkCount "sorted" 1 1 _) (Qx ?_);refine Qz (PySem.W.kdu_collect (A:=X.A.in1) (PySem.W.kdl_dict (knd:=F7 X.prog X.w) (kvs:=vs) (ep:=ep) hsys) hh hat (Af (by omega)) fun h1 tk acc hk hacc=>?_)
 have hlen:acc.toList.length=ss.length:=by rw[Jg,←hvl];exact hacc.1
 have hS:StrsAre acc.toList ss:=Ly hlen fun j v e=>by
  obtain⟨k,x,e1,e2⟩:=hacc.2 j v (by rw[←Array.getElem?_toList];exact e)
  have e3:(vs.map (·.1))[j]? =some k:=by rw[Zc,e1];rfl
  rw[hkv,Zc]at e3;cases e4:ss[j]? with
  |none=>rw[e4]at e3;cases e3
  |some y=>
   rw[e4]at e3;cases e3;obtain⟨t,rfl⟩:=VO e2;exact⟨y,t,rfl,rfl⟩
 refine Qz (wpAny_newList ?_ (by rw[hlen];exact Af (by omega)))
 have hoL:(h1.push (seqObj "list" acc.toList.toArray 0)).get? h1.objs.size=some (seqObj "list" acc.toList.toArray 0):=Qw _ rfl
 refine Qz (Yt (Yk slot_list_sort ⟨_,hoL,rfl⟩ entry_list_sort (list_sort_treeK strKind_oneLt hoL hS.keysOf (fun v₁ v₂ rest e=>keyKind_strs (by rw[←e];exact hS)) (by rw[hlen];exact h64) fun st' a1 a2=>⟨_,rfl,?_⟩) (args_list_sort _)))
 obtain⟨ss',b1,b2,b3⟩:=sorted_out_str hS a1 a2;have e:=VQ b2 b3 hsrt;subst e;obtain⟨c,hc'⟩:=sortedHeap_at (out:=(arrOf st').map (·.2)) hoL
 obtain⟨m,F⟩:=I.fr;have hm:s.heap.Ns X.env.locals m:=F.ns;have kp:∀b o,s.heap.get? b=some o->(sortedHeap (h1.push (seqObj "list" acc.toList.toArray 0)) h1.objs.size acc.toList ((arrOf st').map (·.2))).get? b=some o:=fun b o hb=>by
  have hb1:=hk b o hb
  have hlt:=Qk hb1
  rw[sortedHeap_old (Qh hlt) (by rw[size_push'];exact Jx hlt)]
  exact Qj _ hb1
 have hD:∀b o,s.heap.get? b=some o->b≠h1.objs.size:=fun b o hb z=>by
  have:=Qk (hk b o hb);rw[z]at this;exact Za _ this
 have hm':(sortedHeap (h1.push (seqObj "list" acc.toList.toArray 0)) h1.objs.size acc.toList ((arrOf st').map (·.2))).Ns X.env.locals m:=by
  obtain⟨o1,es1,ep1,g1,rest⟩:=hm;exact⟨o1,es1,ep1,kp _ _ g1,rest⟩
 have hl:(ss'.map V.str).length≤sizeLine:=by rw[Ql];exact Af (by omega)
 have J:=Rx (p:=h1.objs.size) (ys:=ss'.map V.str) (t':=tk) I hm hm' (fun b o _ e=>kp b o e) hD (its:=((arrOf st').map (·.2)).toList) (Lz b1) hl (by rw[Array.toArray_toList];exact hc')
 exact Qx ⟨_,rfl,⟨.ref h1.objs.size,_,J,rfl,q _ (KU I hD)⟩⟩
end
theorem MA{K:Qq}{G:Hp}:∀{ps:List (Key×V)}{qs:List (Str×OO)},O4 K G ps qs->ps.map (·.1)=(qs.map (·.1)).map .inr
 |[],[],_=>rfl
 |p::ps,q::qs,⟨h1,_,h4⟩=>by rw[Zu,Zu,Zu,MA h4,h1]
def DX(mo:Mo D):Mo (List D):=fun env=>(mo env).bind fun q=>(DU q.1).bind fun kvs=>if kvs.length<64/\sortedS (kvs.map (·.1))=true/\(kvs.all fun p=>decide (p.1.length≤100000))=true then some ((kvs.map (·.1)).map .str,q.2)else none
section
variable{X:Cx}{B:OE}{o:Expr}{mo:Mo D}{apos p pos:Pos}
theorem GR(hc:X.calm=true)(ho:ED X B o mo)(hg:Gl X "sorted")(hm:X.mg "sorted"=none)(hb:attributeBase o "by_name" X.env (eval o X.env)=eval o X.env:=by rfl)
  (he1:starEach [.Attribute o "by_name" apos] X.env=[(false,eval (.Attribute o "by_name" apos) X.env)]:=by rfl)(hpl:(backTo pos (starEach [] X.env)).any (·.1)=false:=by rfl):
  EL X B (.Call (.Name "sorted" p) [.Attribute o "by_name" apos] [] pos) (DX mo):=by
 refine d9 (Bx (VR hc) hg hm SF (M7 (Eb ho hb) Q3 he1) (by decide) (by decide) he1 hpl) ?_
 rintro σ H Q ⟨G,env,d,env',rl,e,k⟩;obtain⟨⟨d0,jA⟩,e1,e2⟩:=C8 e;obtain⟨kvs,e3,e4⟩:=C8 e2;split at e4
 case isFalse=>cases e4
 rename_i hn;cases e4;cases GJ e3;refine⟨G,env,_,_,rl,e1,fun v G1 H1 ev r1=>?_⟩
 simp only[a9,P1]at r1;obtain⟨a,C',dx,dd,qs,rfl,hC',K',g1,g2,g3,g4⟩:=r1;refine⟨a,C',dx,_,.ref dd,rfl,ev.rel.sub _ _ g1,K'.cl,K'.nb,rfl,dd,qs,kvs.map (·.1),rfl,ev.rel.sub _ _ g3,MA g4,by rw[Ql];exact hn.1,hn.2.1,fun l hl=>?_⟩
 exact AJ ev hl (DN fun y hy=>by
  obtain⟨z,hz,rfl⟩:=List.mem_map.mp hy;have:=Yv.mp hn.2.2 z hz;exact Qe (of_decide_eq_true this) (by decide)) k
end
inductive mD (P:Program) (w:World) (K:Qq):List DictEntry->List (Str×List Str)->Prop
 |nil:mD P w K [] []
 |cons {e:DictEntry}{p:Str×List Str}{es:List DictEntry}{kvs:List (Str×List Str)}:E3 (.str p.1) e.key->e.hash=(F7 P w).hash (.inr p.1)->GL K (some p.2) (some e.val)->mD P w K es kvs->mD P w K (e::es) (p::kvs)
theorem mD.keys{P:Program}{w:World}{K:Qq}{es:List DictEntry}{kvs:List (Str×List Str)}(h:mD P w K es kvs):∀e∈es,∃k,(F7 P w).is k e.key=true/\e.hash=(F7 P w).hash k:=by
 induction h with
 |nil=>intro e he;cases he
 |cons h1 h2 h3 _ ih=>
  intro e he
  rcases Qg.mp he with rfl|he
  ·exact⟨.inr _,M8 (k:=.inr _) h1,h2⟩
  ·exact ih e he
theorem mD.find{P:Program}{w:World}{K:Qq}{es:List DictEntry}{kvs:List (Str×List Str)}(h:mD P w K es kvs)(k:Key):GL K (n5 kvs k) ((es.find? fun e=>(F7 P w).is k e.key).map (·.val)):=by
 induction h with
 |nil=>exact trivial
 |@cons e p es kvs h1 h2 h3 _ ih=>
  by_cases hk:(.inr p.1:Key)=k
  ·have e1:n5 (p::kvs) k=some p.2:=Qt hk
   have e2:(F7 P w).is k e.key=true:=by rw[←hk];exact M8 (k:=.inr p.1) h1
   rw[e1,Yi,e2];exact h3
  ·have e1:n5 (p::kvs) k=n5 kvs k:=Qd hk
   have e2:(F7 P w).is k e.key=false:=by
    cases hq:(F7 P w).is k e.key with
    |false=>rfl
    |true=>exact absurd ((F7 P w).inj _ _ _ (M8 (k:=.inr p.1) h1) hq) hk
   rw[e1,Yi,e2];exact ih
theorem VS{P:Program}{w:World}{K:Qq}{mg:OI}{x:Str}{kvs:List (Str×List Str)}{a:Addr}{es:List DictEntry}{ep:Nat}(hm:mg x=some (.ref a))(hl:K.lookup a=some ⟨.type "dict",none,.dict ⟨es⟩ ep,⟨[]⟩⟩)(hz:(a==sysModules)=false)(he:mD P w K es kvs):pL P w K mg x kvs:=by
 refine⟨a,hm,hz,fun h hin=>⟨⟨_,hin a _ hl,rfl⟩,findBy (F7 P w).is ⟨es⟩,⟨_,⟨es⟩,ep,hin a _ hl,⟨rfl,rfl,rfl⟩,rfl,fun e he'=>he.keys e (by simpa using he'),fun _=>rfl⟩,fun k=>?_⟩⟩
 have:=he.find k;unfold findBy;rw[←Array.find?_toList];exact this
section
variable{X:Cx}{B:OE}{E:XK}{pos p:Pos}{e c a b:Expr}{es:List Expr}{x1:Mx}
theorem VT{x:Str}{T:String}{r:List V->Hp->VK->Prop}(hc:M3 X (.type T) r)(hg:Gl X x)(hm:X.mg x=none)(hv:bootBuiltins x=some (.type T))(ha:qG X B E (e::es) x1)(hn:x≠"__name__":=by decide)(hdb:(x==("__debug__":Str))=false:=by decide)
  (he:starEach (e::es) X.env=(false,eval e X.env)::starEach es X.env:=by rfl)(hpl:(backTo pos (starEach es X.env)).any (·.1)=false:=by rfl):mM X B E (.Call (.Name x p) (e::es) [] pos) x1:=fun pins s σ H Q I q=>
 BH hc hg hm hv ha hn hdb he hpl pins s σ H Q I q
theorem VU(h:mM X B E c x1)(he:∀whole,isTrue c X.env whole=(do let v←whole;standAt c.pos;holding [v] (truthy v)):=by intro _;rfl):mM X B E (.IfExp c a b pos) x1:=fun pins s σ H Q I q=>
 IC (ta:=fun _ _ _=>False) (tb:=fun _ _ _=>False) (IA h he) (fun _ _ _ _ _ _ z=>z.elim) (fun _ _ _ _ _ _ z=>z.elim) pins s σ H Q I q
def DY(i j:Nat)(d l:D)(m:Mo Fl):Mo Fl:=fun env=>m ((env.set i (.dat d)).set j (.dat l))
def MB(K:Qq)(B:OE)(i j:Nat)(d l:D)(t:TS):TS:=fun D σ H=>∃G env,Rel K B G σ env H/\∀σ' G' H',Ev K B G σ env H G' σ' ((env.set i (.dat d)).set j (.dat l)) H'->t D σ' H'
theorem VV{i j:Nat}{d l:D}{s0 s1:Stmt}{rest:List Stmt}{m:Mo Fl}(ho:∀(rest:List Stmt) (t:TS),j7 X rest t->j7 X (s0::s1::rest) (MB X.K B i j d l t))(h:nK X B rest m):nK X B (s0::s1::rest) (DY i j d l m):=by
 refine jL (ho rest _ h) ?_
 rintro D σ H ⟨G,env,fl,env',rl,e,k⟩;exact⟨G,env,rl,fun σ' G' H' ev=>⟨G',_,fl,env',ev.rel,e,Post.after _ _ k ev⟩⟩
end
theorem MC:∀{ps:List (Key×V)}{k:Key},lG ps k=none->∀p∈ps,p.1≠k
 |[],_,_,p,h=>by cases h
 |q::ps,k,h,p,hp=>by
  by_cases e:q.1=k
  ·rw[show lG (q::ps) k=some q.2 from Qt e]at h;cases h
  ·rw[show lG (q::ps) k=lG ps k from Qd e]at h
   rcases Qg.mp hp with rfl|hp
   ·exact e
   ·exact MC h p hp
theorem VW{ps:List (Key×V)}{vs:List (Key×Value)}{k:Key}{u:Value}(kv:KV ps vs)(h:lG ps k=none):stored vs k u=vs++[(k,u)]:=by
 unfold stored;rw[Qd];rw[List.any_eq_true];rintro⟨q,hq,e⟩;have e':q.1=k:=of_decide_eq_true e;have:q.1∈ps.map (·.1):=by rw[←GQ kv];exact List.mem_map_of_mem hq
 obtain⟨p,hp,e2⟩:=List.mem_map.mp this;exact MC h p hp (e2.trans e')
def MD(tv td ty:TE):TS:=fun D σ H=>tv σ H fun v H1=>td σ H1 fun x H2=>ty σ H2 fun y H3=>∃a ps k,x=.ref a/\y=kV k/\H3 a=some (.dK ps)/\ps.length<1000/\lG ps k=none/\D.nx σ (upd H3 a (.dK (ps++[(k,v)])))
section
variable{X:Cx}{B:OE}{o i value:Expr}{pos pos':Pos}{td ty tv:TE}
theorem VX(ho:PE X o td)(hi:PE X i ty)(hv:PE X value tv)(hs:swapsWith value (some (.Subscript o i pos')) pos.line X.env=pure false):
  L2.PS X (.Assign [.Subscript o i pos'] value pos) (MD tv td ty):=by
 intro pins s σ H D I h;refine wpAny_Assign_Subscript (eV (hv pins s σ H _ I h) fun r s1 ⟨v,H1,I1,rv,q1⟩=>eV (ho pins s1 σ H1 _ I1 q1) fun u s2 ⟨x,H2,I2,rx,q2⟩=>eV (hi pins s2 σ H2 _ I2 q2) fun iv s3 ⟨y,H3,I3,ry,a,ps,k,ex,ey,e,l,hn,q3⟩=>?_) hs
 subst ex ey;cases rx;obtain⟨_,hsys,vs,kv,dd⟩:=(show J3 X.prog X.w H3 s3.heap a (.dK _)from I3.hok a _ e)
 have hvl:vs.length=ps.length:=(Paired.length kv).symm
 refine wpAny_setItem_pairs (hsz:=by rw[hvl];exact Af (by omega)) (M8 ry) dd fun h' dd' hs=>?_
 rw[VW kv hn]at dd';have he:∃q,h'.get? a=some q:=let ⟨q,_,_,hq,_⟩:=dd';⟨q,hq⟩
 exact⟨σ,_,QN (ob:=.dK (ps++[(k,v)])) I3 (by rw[e];exact True.intro) hs he ⟨by rw[Zq];exact Af (by simp;omega),hsys,_,Paired.snoc kv ⟨rfl,rv⟩,dd'⟩,q3⟩
def DZ(K:Qq)(B:OE)(m:Mo Fl)(u:TS):TS:=fun D σ H=>∃G env env',Rel K B G σ env H/\m env=some (.nx,env')/\∀σ' G' H',Ev K B G σ env H G' σ' env' H'->u D σ' H'
theorem VY{rest:List Stmt}{u:TS}(h:j7 X rest u):j7 X rest (DZ X.K B i7 u):=jL h fun D σ H ⟨G,env,env',rl,e,k⟩=>by
 cases e;exact k σ G H (.refl rl)
theorem Ag{st:Stmt}{rest:List Stmt}{m1 m2:Mo Fl}{u:TS}(h1:ES X B st m1)(h2:j7 X rest (DZ X.K B m2 u)):j7 X (st::rest) (DZ X.K B (D1 m1 m2) u):=by
 refine jL (U1 h1 h2) ?_
 rintro D σ H ⟨G,env,env',rl,e,k⟩;obtain⟨⟨fl,a8⟩,e1,e2⟩:=C8 e;cases fl with
 |nx=>exact⟨G,env,.nx,a8,rl,e1,fun σ1 G1 H1 fR=>⟨G1,a8,env',fR.rel,e2,fun σ' G' H' d5=>k σ' G' H' (fR.trans d5)⟩⟩
 |_=>cases e2
end
theorem VZ{H:Hp}{a:Addr}{o:HO}(h:H a=some o):upd H a o=H:=by
 funext b
 by_cases e:b=a
 ·subst e;rw[D9,h]
 ·rw[C4 e]
section
variable{K:Qq}{B:OE}{G G':Hp}{σ σ':St}{env env':c7}{H H':Hp}
theorem Ev.layM{a:Addr}{o o0:HO}(v:Ev K B G σ env H G' σ' env' H')(ha:H a=none)(no:¬ d6 σ' env' a)(h':H' a=some o0)(ne:∀φ,o0≠.ext φ)(nt:NT o)(g':G' a=none):
  Ev K B G σ env H G' σ' env' (upd H' a o):=by
 have live':∀c,H' c≠none->(upd H' a o) c≠none:=fun c hc=>by
  by_cases hb:c=a
  ·subst hb;rw[D9];simp
  ·rw[C4 hb];exact hc
 refine⟨⟨fun b u e=>?_,v.rel.len,v.rel.dat,fun i w ds e1 e2=>?_,v.rel.inj,v.rel.fresh,fun c hc=>live' c (v.rel.old c hc),v.rel.tabs.upd nt (fun φ z=>by rw[h']at z;exact ne φ (Zs z)),v.rel.gnt⟩,v.same,fun c u n t e=>?_,fun c e=>live' c (v.live c e),v.stay,v.sub,v.par,v.slen⟩
 ·rw[C4 (fun z=>by rw[z,g']at e;cases e)];exact v.rel.sub b u e
 ·obtain⟨p,ys,e3,e4,e5,e6⟩:=v.rel.own i w ds e1 e2
  have hp:p≠a:=fun z=>no ⟨i,w,ds,e1,e2,by rw[←z];exact e3⟩
  exact⟨p,ys,e3,by rw[C4 hp];exact e4,e5,e6⟩
 ·rw[C4 (fun z=>by rw[z,ha]at e;cases e)];exact v.keep c u n t e
theorem Va{r:List Int}:∀{ys:List V},B9 K G ys (r.map D.int)->ys=r.map V.int:=by
 induction r with
 |nil=>intro ys h;simpa only[Ua,B9]using h
 |cons n r ih=>
  intro ys h;simp only[Zu,B9,a9]at h;obtain⟨x,t,rfl,rfl,h2⟩:=h;rw[ih h2];rfl
theorem Vc{t:OO}:∀{xs:List V},B9 K G xs (t.map fun r=>.tup (r.map .int))->X6 K G xs t:=by
 induction t with
 |nil=>intro xs h;simp only[Ua,B9]at h;subst h;trivial
 |cons r t ih=>
  intro xs h;simp only[Zu,B9,a9]at h;obtain⟨x,l,rfl,⟨a,ys,rfl,h1,h2⟩,h3⟩:=h;rw[Va h2]at h1;exact⟨⟨a,rfl,h1⟩,ih h3⟩
theorem O4.snoc{nm:Str}{t:OO}{v:V}(r:a9 K G v (O8 t)):∀{ps:List (Key×V)}{qs:List (Str×OO)},O4 K G ps qs->O4 K G (ps++[(.inr nm,v)]) (qs++[(nm,t)])
 |[],[],_=>by
  simp only[O8,a9]at r;obtain⟨a,xs,rfl,h1,h2⟩:=r;exact⟨rfl,⟨a,xs,rfl,h1,Vc h2⟩,trivial⟩
 |_::_,_::_,⟨h1,h2,h4⟩=>⟨h1,h2,O4.snoc r h4⟩
end
theorem Vd{X:Cx}{pos:Pos}:PE X (.Dict [] [] pos) (fun _ H Q=>∀p,H p=none->Q (.ref p) (upd H p (.dK []))):=fun pins s σ H Q I h=>
 wpAny_Dict_empty ⟨.ref s.heap.objs.size,_,I.laid (a:=s.heap.objs.size) (o:=.dK []) (t':=s.toks) (fun _ _ q=>Qj _ q) (Qv _) ⟨Yb _,Jb.mpr (Qa (Qh I.big)),[],.nil,Heap.DictOf.new s.heap⟩,rfl,h _ (I.hok.fresh (Qv _))⟩
def GS(C:Addr):Sp:=fun vs H Q _=>∃x dx,vs=[.ref x]/\H x=some (.ins C dx [])/\∀d,H d=none->Q .non (upd (upd H d (.dK [])) x (.ins C dx [("by_name",.ref d)]))
def Bi(n:Nat)(mw:Mo Fl)(mv mi:Mo D)(line nm:Str)(t:OO):Prop:=∀x d:Addr,∃e1 e2 e3,mw ([.dat (.obj (.pin x d)),.dat (.str line)]++List.replicate (n-2) .nil)=some (.nx,e1)/\e1[0]? =some (.dat (.obj (.pin x d)))/\mv e1=some (O8 t,e2)/\mi e2=some (.str nm,e3)
def qK(K:Qq)(C:Addr)(n:Nat)(mw:Mo Fl)(mv mi:Mo D):Sp:=fun vs H Q _=>∃x dx d ps line G nm t,vs=[.ref x,.str line]/\line.length≤sizeLine/\Rel K M6 G [] [] H/\PySem.W.nsIn K mainGlobals "Desk"=some (some (.ref C))/\nF K C/\
 G x=some (.ins C dx [("by_name",.ref d)])/\G dx=some (.own x)/\G d=none/\H d=some (.dK ps)/\ps.length<1000/\lG ps (.inr nm)=none/\Bi n mw mv mi line nm t/\
 ∀v G' H1,Ev K M6 G [] [] H G' [] [] H1->a9 K G' v (O8 t)->Q (.str "ok") (upd H1 d (.dK (ps++[(.inr nm,v)])))
theorem Bj{ps:List (Key×V)}:NT (.dK ps):=fun _ z=>by cases z
theorem Ve{P:Program}{w:World}{K:Qq}{mg:OI}{base:Heap}{x qual:Str}{st:Stmt}{f C:Addr}{fd:FuncData}{N ps:List Str}{k:Nat}{mw:Mo Fl}{mv mi:Mo D}(F:fT K x qual st f fd)(S:b0 N ps (D5 st))(hps:ps.length=2)
  (hb:∀(cdv:Value) (A:Around) (outer:List Env) (s:Shared) (H:Hp) (E:XK),fA k (A.deeper (envOfC qual (D5 st) s.heap.objs.size f cdv))->
   j7 (K8 gA P w K mg base N qual (D5 st) f cdv A outer s H E).nox (P0 st) (DZ K (fun b=>H b≠none) mw (ID (MD (TD K (fun b=>H b≠none) mv) (Ib K (O9 0) "by_name") (TD K (fun b=>H b≠none) mi)) (IF (tC (.str "ok")))))):
  c8 P w K mg base gA (k+1) f fd ps (qK K C N.length mw mv mi):=by
 have hpl:ps.length≤N.length:=by have:=Yy List.length S.pre;rw[Yh]at this;omega
 refine F.ok S (fun vs H Q E h=>?_) (fun cdv A outer s H vs Q E hr h=>?_)
 ·obtain⟨x,dx,d,qs,line,G,nm,t,rfl,_⟩:=h
  exact hps.symm
 ·obtain⟨x,dx,d,qs,line,G,nm,t,rfl,hll,rl,hC,dk,gx,gdx,gd,hd,hql,hnew,sto,kk⟩:=h
  obtain⟨e1,e2,e3,m1,m0,m2,m3⟩:=sto x d;refine⟨_,hb cdv A outer s H E hr,?_⟩;have r1:a9 K G (.ref x) (.obj (.pin x d)):=by simp only[a9,P1];exact⟨trivial,C,dx,hC,dk,gx,gdx⟩
  have r2:a9 K G (.str line) (.str line):=by simp only[a9];exact⟨trivial,hll⟩
  have ra:gP K G [] [.ref x,.str line] [.d (.obj (.pin x d)),.d (.str line)]:=⟨_,_,rfl,r1,_,_,rfl,r2,rfl⟩
  have rl2:=AQ (c:=.l []) (i:=0) (w:=.nil) rl ra (fun k j e=>absurd e (O5 (as:=[.d (.obj (.pin x d)),.d (.str line)]) rfl k j)) (fun k k' j j' e=>absurd e (O5 (as:=[.d (.obj (.pin x d)),.d (.str line)]) rfl k j))
  have rl':=Cs (N:=N) rl2 (AO (as:=[.d (.obj (.pin x d)),.d (.str line)]) (c:=.l [])) (by simp;omega)
  have no:∀a,¬ d6 (start N [.ref x,.str line]) ([.dat (.obj (.pin x d)),.dat (.str line)]++List.replicate (N.length-2) .nil) a:=fun a ⟨i,w',m,q1,q2,_⟩=>by
   have:w'∈([.dat (.obj (.pin x d)),.dat (.str line)]++List.replicate (N.length-2) .nil:List W):=Ys q1;simp only[Vg,Qg,Zx,Yu,List.mem_replicate]at this
   rcases this with(rfl|rfl)|⟨_,rfl⟩<;>cases q2
  refine⟨G,_,e1,rl',m1,fun σ' G1 H1 fR=>?_⟩
  obtain⟨v0,s0,q0⟩:=fR.rel.dat 0 _ m0;simp only[a9,P1]at q0;obtain⟨rfl,_⟩:=q0;refine⟨G1,e1,_,e2,fR.rel,m2,fun v G2 H2 d5 r3=>⟨.ref x,s0,x,C,dx,_,.ref d,rfl,d5.rel.sub _ _ (d5.same _ _ (fR.same _ _ gx)),dk.cl,dk.nb,rfl,G2,e2,_,e3,d5.rel,m3,fun y G3 H3 iS r4=>?_⟩⟩
  simp only[a9]at r4;obtain⟨rfl,_⟩:=r4;have evT:=(fR.trans d5).trans iS;refine⟨d,qs,.inr nm,rfl,rfl,evT.keep d _ (no d) Bj hd,hql,hnew,?_⟩;exact kk v G3 H3 ⟨DH (σ':=[]) evT.rel (fun b h=>h.elim),evT.same,fun b o _ t e=>evT.keep b o (no b) t e,evT.live,fun b e _ g=>evT.stay b e (no b) g,fun a z=>absurd z (by rintro⟨i,w',m,q,_⟩;simp at q),fun i w' e=>by simp at e,rfl⟩ (a9.mono iS.same _ r3)
theorem Vf{σ:St}{i:Nat}{v:Option V}(h:σ[i]? =some v):σ.set i v=σ:=by
 apply List.ext_getElem?
 intro k;rw[List.getElem?_set];split
 ·rename_i e;subst e
  have:i<σ.length:=(Qy.mp h).1;rw[Qt this,h]
 ·rfl
section
variable{X:Cx}{B:OE}
theorem Vh{C:Addr}{n i j:Nat}{nD nL:Str}{p0 p1 p2 q0 q1 q2 q3 q4 q5:Pos}{e0 iter:Expr}{mi:Mo (List D)}{mw:Mo Fl}{mv mx:Mo D}{L:List Str}{kvs:List (Str×OO)}{last:Str}{E1 E2:XK}
  (hN:X.N.Nodup)(hi:X.N[i]? =some nD)(hxi:Loc X.env.scope nD)(rG:PE X e0 (Ie C (GS C) [] E1 Bw))(hs0:swapsWith e0 (some (.Name nD p0)) p1.line X.env=pure false)(hf0:X.fn nD=true\/X.env.scope.names.lookup nD=some .local)
  (hp:PassesOwn (model X.prog X.w) X.A X.env X.xe)(hc:X.calm=true)(hit:EI X B (.Name nL q0) iter mi)(hmi:∀env,mi env=some (L.map D.str,env))(hg:EG X B 0 (.Name nL q0) (gN j))(hs1:∀x,foldedSetIterable iter X.env x=pure x)
  (hsay:PE X (.Call (.Attribute (.Name nD q1) "say" q2) [.Name nL q3] [] q4) (Ee C "say" (qK X.K C n mw mv mx) [] E2 (O9 i) (Ec (O9 j) Bw)))(hsw:swapsWith (.Call (.Attribute (.Name nD q1) "say" q2) [.Name nL q3] [] q4) none q5.line X.env=pure false)
  (hj:X.N[j]? =some nL)(hij:i≠j)(hC:PySem.W.nsIn X.K mainGlobals "Desk"=some (some (.ref C)))(dk:nF X.K C)(hl:L.length=kvs.length)(hl3:L.length≤100)(hll:∀x∈L,x.length≤1000)(hlast:L.getLast? =some last)
  (hst:∀(k:Nat) (line nm:Str) (t:OO),L[k]? =some line->kvs[k]? =some (nm,t)->Bi n mw mv mx line nm t/\nM (kvs.take k) (.inr nm)=none):
  ∀(rest:List Stmt) (t:TS),j7 X rest t->j7 X (.Assign [.Name nD p0] e0 p1::.For (.Name nL q0) iter [.Expr (.Call (.Attribute (.Name nD q1) "say" q2) [.Name nL q3] [] q4) q5] [] p2::rest) (MB X.K B i j (.obj (.dsk kvs)) (.str last) t):=by
 intro rest t hrest;intro pins s σ H Dd I ⟨G,env,rl,kk⟩;refine U1 (BG (i:=i) hN hi hxi rG hs0 hf0) (U1 (IL hp hc hit hg (Bs (CU hsay hsw)) hs1) hrest) pins s σ H Dd I ?_
 intro x dx hx hdx hne;refine⟨x,dx,rfl,D9,fun d hd=>⟨rfl,?_⟩⟩
 have hdxx:d≠x:=fun z=>by rw[z,D9]at hd;cases hd
 have hddx:d≠dx:=fun z=>by rw[z,C4 hne,D9]at hd;cases hd
 have hdn:H d=none:=by rw[C4 hdxx,C4 hddx]at hd;exact hd
 have eH:upd (upd (upd (upd H dx (.own x)) x (.ins C dx [])) d (.dK [])) x (.ins C dx [("by_name",.ref d)])=upd (upd (upd H dx (.own x)) x (.ins C dx [("by_name",.ref d)])) d (.dK []):=by
  funext b
  by_cases h1:b=x
  ·subst h1;rw[D9,C4 (Qa hdxx),D9]
  ·rw[C4 h1]
   by_cases h2:b=d
   ·subst h2;rw[D9,D9]
   ·rw[C4 h2,C4 h2,C4 h1,C4 h1]
 have fR:=rl.alloc (p:=dx) (o:=.own x) hdx
 have d5:=fR.trans (fR.rel.alloc (p:=x) (o:=.ins C dx [("by_name",.ref d)]) (by rw[C4 (Qa hne)];exact hx))
 have iS:=d5.trans (d5.rel.allocM (p:=d) (o:=.dK []) (by rw[C4 hdxx,C4 hddx];exact hdn))
 have r3:a9 X.K (upd (upd G dx (.own x)) x (.ins C dx [("by_name",.ref d)])) (.ref x) (.obj (.pin x d)):=by
  simp only[a9,P1];exact⟨trivial,C,dx,hC,dk,D9,by rw[C4 hne,D9]⟩
 have kI:=iS.setDat (i:=i) r3
 have g4:(upd (upd G dx (.own x)) x (.ins C dx [("by_name",.ref d)])) d=none:=by rw[C4 hdxx,C4 hddx];exact rl.gnone hdn
 have no4:¬ d6 (σ.set i (some (.ref x))) (env.set i (.dat (.obj (.pin x d)))) d:=by
  rintro⟨k,w',m,z1,z2,z3⟩;rw[List.getElem?_set]at z1 z3
  by_cases hk:i=k
  ·rw[Qt hk]at z1
   split at z1
   ·cases z1;cases z2
   ·cases z1
  ·rw[Qd hk]at z1 z3
   exact rl.unowned hdn ⟨k,w',m,z1,z2,z3⟩
 show IK (pN X.K B mi) (oU X.K B 0 (gN j)) (IE (Ee C "say" (qK X.K C n mw mv mx) [] E2 (O9 i) (Ec (O9 j) Bw))) {Dd with nx:=t Dd} (σ.set i (some (.ref x))) _
 rw[eH];generalize hE1:env.set i (.dat (.obj (.pin x d)))=a8 at kI no4;generalize hG1:upd (upd G dx (.own x)) x (.ins C dx [("by_name",.ref d)])=G1 at kI g4;generalize hH1:upd (upd (upd H dx (.own x)) x (.ins C dx [("by_name",.ref d)])) d (.dK [])=H1 at kI;have gx1:G1 x=some (.ins C dx [("by_name",.ref d)]):=by rw[←hG1,D9]
 have gdx1:G1 dx=some (.own x):=by rw[←hG1,C4 hne,D9]
 have hd1:H1 d=some (.dK []):=by rw[←hH1,D9]
 have hli:i<env.length:=by rw[rl.len,I.len];exact(Qy.mp hi).1
 have hlj:j<a8.length:=by rw[←hE1,Zp,rl.len,I.len];exact(Qy.mp hj).1
 have e1i:a8[i]? =some (.dat (.obj (.pin x d))):=by rw[←hE1,Zw hli]
 refine⟨G1,a8,_,a8,kI.rel,hmi a8,fun J G2 H2 lC it=>?_⟩
 refine⟨fun k m σ2 H3=>m=L.length-k/\k≤L.length/\∃G3 iT ps,Ev X.K B G σ env H G3 σ2 iT H3/\Le G2 G3/\Le G1 G3/\(iT=a8/\k=0\/ ∃y,k≠0/\L[k-1]? =some y/\iT=a8.set j (.dat (.str y)))/\ ¬ d6 σ2 iT d/\G3 d=none/\H3 d=some (.dK ps)/\O4 X.K G3 ps (kvs.take k)/\ps.length=k,
  ⟨_,rfl,Yb _,G2,a8,[],kI.trans lC,Le.refl,lC.same,.inl ⟨rfl,rfl⟩,fun z=>(lC.sub d z).elim no4 (fun q=>by rw[hd1]at q;cases q),lC.stay d (by rw[hd1];simp) no4 g4,lC.keep d _ no4 Bj hd1,trivial,rfl⟩,?_⟩
 rintro k m σ2 H3 ⟨rfl,hk,G3,iT,ps,j0,l23,l13,qP,no3,g3,hd3,dv,hpl⟩;have lH:Le G2 H3:=l23.trans j0.rel.sub
 by_cases hlt:k<L.length
 ·refine .inr ⟨it.go k H3 lH (by simpa using hlt),fun σ2 H3=>∃G3 iT ps,Ev X.K B G σ env H G3 σ2 iT H3/\Le G2 G3/\Le G1 G3/\(iT=a8/\k+1=0\/ ∃y,k+1≠0/\L[k+1-1]? =some y/\iT=a8.set j (.dat (.str y)))/\ ¬ d6 σ2 iT d/\G3 d=none/\H3 d=some (.dK ps)/\O4 X.K G3 ps (kvs.take (k+1))/\ps.length=k+1,?_,fun v H4 y=>?_⟩
  ·rintro σ' H' h
   exact⟨L.length-(k+1),by omega,rfl,hlt,h⟩
  ·have hget:(L.map D.str)[k]? =some (.str L[k]):=by simp[hlt]
   have stp:∃G4,Ev X.K B G σ env H G4 σ2 iT H4/\Le G3 G4/\a9 X.K G4 v (.str L[k])/\G4 d=none/\H4 d=some (.dK ps):=by
    rcases it.yld k H3 v H4 _ lH y hget with⟨rfl,r⟩|⟨p,o,hno,hp2,rfl,r⟩
    ·exact⟨G3,j0,Le.refl,a9.mono l23 _ r,g3,hd3⟩
    ·have gp:=j0.rel.gnone hp2
     have hpd:d≠p:=fun z=>by rw[z,hp2]at hd3;cases hd3
     refine⟨upd G3 p o,j0.trans (j0.rel.alloc hp2 hno),Le.upd gp,a9.mono (fun b u q=>?_) _ r,by rw[C4 hpd];exact g3,by rw[C4 hpd];exact hd3⟩
     by_cases hb2:b=p
     ·subst hb2;rw[D9]at q ⊢;exact q
     ·rw[C4 hb2]at q ⊢;exact l23 b u q
   obtain⟨G4,nV,l34,r4,g4',hd4⟩:=stp;have hE:iT.set j (.dat (.str L[k]))=a8.set j (.dat (.str L[k])):=by
    rcases qP with⟨rfl,_⟩|⟨y,_,_,rfl⟩
    ·rfl
    ·rw[List.set_set]
   refine⟨G4,iT,_,_,nV.rel,r4,rfl,fun σ5 G5 H5 lD _=>?_⟩
   rw[hE]at lD;have no5:¬ d6 σ5 (a8.set j (.dat (.str L[k]))) d:=fun z=>(lD.sub d z).elim no3 fun q=>by rw[hd4]at q;cases q
   have g5:G5 d=none:=lD.stay d (by rw[hd4];simp) no3 g4'
   have hd5:H5 d=some (.dK ps):=lD.keep d _ no3 Bj hd4
   have l15:Le G1 G5:=(l13.trans l34).trans lD.same
   obtain⟨v1,s1,q1⟩:=lD.rel.dat i (.obj (.pin x d)) (by rw[Qp (Qa hij)];exact e1i)
   simp only[a9,P1]at q1;obtain⟨rfl,_⟩:=q1;obtain⟨v2,s2,q2⟩:=lD.rel.dat j (.str L[k]) (by rw[Zw hlj])
   simp only[a9]at q2;obtain⟨rfl,_⟩:=q2;have hkk:k<kvs.length:=by omega
   obtain⟨st1,st2⟩:=hst k L[k] kvs[k].1 kvs[k].2 (by simp[hlt]) (by simp[hkk])
   have hnew:lG ps (.inr kvs[k].1)=none:=by
    have:=DT (.inr kvs[k].1) dv;rw[st2]at this;exact this
   refine⟨.ref x,s1,x,dx,_,rfl,lD.rel.sub _ _ (l15 _ _ gx1),rfl,.str L[k],s2,?_⟩;refine⟨x,dx,d,ps,L[k],G5,kvs[k].1,kvs[k].2,rfl,Qe (hll _ (List.getElem_mem hlt)) (Af (by decide)),DH (σ':=[]) lD.rel (fun b h=>h.elim),hC,dk,l15 _ _ gx1,l15 _ _ gdx1,g5,hd5,by omega,hnew,st1,fun v G6 H6 uM r6=>?_⟩
   have nI:=AR (c:=.l []) (as:=[]) (vs:=[]) lD.rel rfl rfl uM
   have g6:G6 d=none:=nI.stay d (by rw[hd5];simp) no5 g5
   have hd6:H6 d=some (.dK ps):=nI.keep d _ no5 Bj hd5
   refine⟨G6,_,ps++[(.inr kvs[k].1,v)],((nV.trans lD).trans nI).layM hdn no5 hd6 (fun _ z=>by cases z) Bj g6,((l23.trans l34).trans lD.same).trans nI.same,l15.trans nI.same,.inr ⟨L[k],by omega,by simp[hlt],rfl⟩,no5,g6,D9,?_,by simp[hpl]⟩
   have:=O4.snoc (nm:=kvs[k].1) r6 (dv.mono ((l34.trans lD.same).trans nI.same));rw[List.take_succ,Ux hkk];exact this
 ·have ek:k=L.length:=by omega
  subst ek;refine .inl ⟨it.stop _ H3 lH (by simp),?_⟩
  obtain⟨y,_,hy,rfl⟩:∃y,L.length≠0/\L[L.length-1]? =some y/\iT=a8.set j (.dat (.str y)):=by
   rcases qP with⟨_,h0⟩|h
   ·rw[Uv.mp h0]at hlast;cases hlast
   ·exact h
  have hyl:y=last:=by rw[List.getLast?_eq_getElem?]at hlast;rw[hlast]at hy;exact(Zs hy).symm
  subst hyl;have qL:=j0.layO (o:=.dK ps) hdn no3 hd3 (fun _ z=>by cases z) Bj g3
  rw[VZ hd3]at qL;obtain⟨v1,s1,q1⟩:=j0.rel.dat i (.obj (.pin x d)) (by rw[Qp (Qa hij)];exact e1i)
  simp only[a9,P1]at q1;obtain⟨rfl,_⟩:=q1;have lf:Le G3 (upd G3 d (.dK ps)):=Le.upd g3;rw[hl,List.take_length]at dv;have rD:a9 X.K (upd G3 d (.dK ps)) (.ref x) (.obj (.dsk kvs)):=by
   simp only[a9,P1];exact⟨x,C,dx,d,ps,rfl,hC,dk,lf _ _ (l13 _ _ gx1),lf _ _ (l13 _ _ gdx1),D9,dv.mono lf⟩
  have qM:=qL.setDat (i:=i) rD
  rw[Vf s1,←hE1,List.set_comm _ _ (Qa hij),List.set_set]at qM;exact kk σ2 _ H3 qM
end
end L2.Mir
namespace L2.Mir
open PySem PySem.W PySem.Spec PyProof.Rows
structure mU(K:Frag)(C:Addr)(m q:Str)(st:Stmt)(f:Addr)(pm:Value)(cd:Addr):Prop where
 a:PySem.W.findIn K (.ref C) m=some (some (.ref f))
 i:PySem.W.isFn K (.ref f)=true
 l:K.lookup f=some ⟨.type "function",none,.func (fnOf m q (V8 st) (P0 st) (D5 st) .none .none .none pm none (.ref cd) .none),⟨[]⟩⟩
 c:PySem.W.codeIn K (.ref cd) q=true
 k:PySem.W.keepIn K (.ref f)=true
theorem mU.f{K:Frag}{C:Addr}{m q:Str}{st:Stmt}{f:Addr}{pm:Value}{cd:Addr}(A:mU K C m q st f pm cd):fT K m q st f (fnOf m q (V8 st) (P0 st) (D5 st) .none .none .none pm none (.ref cd) .none):=JC A.l A.c A.k
theorem mU.m{K:Frag}{C:Addr}{m q:Str}{st:Stmt}{f:Addr}{pm:Value}{cd:Addr}(A:mU K C m q st f pm cd):mI K C m f:=⟨A.a,A.i,A.k⟩
theorem Vi{K:Frag}{t:Value}(h1:kitOne K t (.type "tuple")=some false)(h2:kitOne K t (.type "list")=some false)(h3:kitOne K t (.type "int")=some false)(h4:kitOne K t (.type "bool")=some false)(h5:kitOne K t (.type "str")=some false):Cd K t:=fun T hT=>by
 simp only[Qg,Zx,Yu]at hT
 rcases hT with rfl|rfl|rfl|rfl|rfl
 ·exact h1
 ·exact h2
 ·exact h3
 ·exact h4
 ·exact h5
theorem S8{K:Frag}{b:Addr}{its:List Value}{n:Nat}{ts:List Str}(h:K.lookup b=some ⟨.type "tuple",none,.seq ⟨its⟩ n,⟨[]⟩⟩)(hz:its.length≤1000)(hv:D6 (ts.map V.str) its):lJ K (fun _=>none) b (ts.map V.str):=
 .inr ⟨_,⟨its⟩,n,h,rfl,rfl,rfl,Af (by simpa using hz),hv⟩
theorem Da{P:Program}{w:World}{K:Qq}{mg:OI}{base:Heap}{k n:Nat}{f:Addr}{fd:FuncData}{ps:List Str}:c8 P w K mg base (iA P w) k f fd ps (j2 K n fun _=>none):=
 ⟨fun _ _ _ _ h=>(by obtain⟨_,_,_,_,_,_,_,e,_⟩:=h;cases e),fun _ _ _ _ _ _ _ _ _ _ _ _ _ h=>(by obtain⟨_,_,_,_,_,_,_,e,_⟩:=h;cases e)⟩
end L2.Mir
namespace K94
open PySem L2 L2.Mir
def top(i:Nat):Stmt:=PySem.Challenge.pw_turnsigns_k94_desk_refuses.main.body.getD i (.Pass ⟨0,0,0,0⟩)
def sD(i j:Nat):Stmt:=match top i with|.ClassDef _ _ _ b ..=>b.getD j (.Pass ⟨0,0,0,0⟩)|s=>s
abbrev GU:Stmt:=top 16
abbrev GV:Stmt:=top 17
abbrev GW:Stmt:=top 18
abbrev GX:Stmt:=top 19
abbrev GY:Stmt:=top 20
abbrev GZ:Stmt:=top 21
abbrev Ga:Stmt:=top 23
abbrev Gb:Stmt:=top 24
abbrev Gd:Stmt:=top 29
abbrev Ge:Stmt:=top 30
abbrev Dc:Stmt:=top 31
abbrev Gf:Stmt:=top 32
abbrev ME:Stmt:=top 33
abbrev De:Stmt:=top 43
abbrev Gg:Stmt:=top 44
abbrev Gh:Stmt:=top 45
abbrev Dg:Stmt:=top 46
abbrev Dh:Stmt:=top 48
abbrev Gi:Stmt:=top 49
abbrev Di:Stmt:=top 50
abbrev Dj:Stmt:=top 51
abbrev Dk:Stmt:=top 52
abbrev Gj:Stmt:=top 53
abbrev Gk:Stmt:=top 54
abbrev MF:Stmt:=top 55
abbrev Dl:Stmt:=top 56
abbrev Gm:Stmt:=top 57
abbrev Dm:Stmt:=top 58
abbrev Gn:Stmt:=top 69
abbrev Go:Stmt:=top 81
abbrev Gp:Stmt:=top 82
abbrev Gq:Stmt:=top 83
abbrev Gr:Stmt:=top 84
abbrev Dn:Stmt:=top 85
abbrev Gs:Stmt:=top 86
abbrev Dp:Stmt:=top 87
abbrev Gu:Stmt:=top 88
abbrev Dq:Stmt:=top 89
abbrev Dr:Stmt:=top 90
abbrev Ds:Stmt:=top 91
abbrev Dt:Stmt:=top 92
abbrev Gv:Stmt:=top 93
abbrev Gw:Stmt:=top 94
abbrev Gx:Stmt:=top 95
abbrev Du:Stmt:=top 96
abbrev Dv:Stmt:=top 97
abbrev Dw:Stmt:=sD 100 2
abbrev CK:Stmt:=sD 100 1
abbrev Gy:Stmt:=top 105
abbrev Gz:Stmt:=top 106
abbrev HA:Stmt:=top 107
abbrev Bk:Stmt:=top 108
abbrev xN:List Str:=["NoTable","NoHeights","NoNet","NoPlace","NoTriangle","NoRow","NoNumber","NoTurn","NotAlike","NoStep","NoRows","TooMany","BadNote"]
structure Txt(K:Qq)(mg:OI):Prop where
 ex:V0 K "SignError" xN=true
 g_isinstance:mg "isinstance"=none
 g_int:mg "int"=none
 g_bool:mg "bool"=none
 g_all:mg "all"=none
 g_tuple:mg "tuple"=none
 g_len:mg "len"=none
 g_range:mg "range"=none
 g_str:mg "str"=none
 g_zip:mg "zip"=none
 g_list:mg "list"=none
 g_max:mg "max"=none
 g_min:mg "min"=none
 g_sum:mg "sum"=none
 g_sorted:mg "sorted"=none
 g_ValueError:mg "ValueError"=none
 fZ:k9 K mg "meet_tables"
 f6:k9 K mg "join_tables"
 gB:k9 K mg "step_table"
 gC:k9 K mg "turn_table"
 gD:k9 K mg "read_table"
 fU:k9 K mg "tell_below"
 fV:k9 K mg "tell_steps"
 fW:k9 K mg "tell_pairs"
 fX:k9 K mg "tell_minus"
 fS:k9 K mg "tell_number"
 f9:k9 K mg "tell_text"
 c_GREATEST_SIDE:∃t,mg "GREATEST_SIDE"=some (.int 6 t)
 c_LONGEST_NAME:∃t,mg "LONGEST_NAME"=some (.int 8 t)
 c_LETTERS:∃t,mg "LETTERS"=some (.str "abcdefghijklmnopqrstuvwxyz" t)
 c_FIGURES:∃t,mg "FIGURES"=some (.str "0123456789" t)
section
variable{P:Program}{w:World}{K:Qq}{mg:OI}{base:Heap}
set_option hygiene false
local macro_rules
 | `(tactic| k_units)=>`(tactic| first | fail_if_success (show (_:Prop)) | ((with_reducible show PE _ _ (O9 _));exact pv _) | with_reducible (first | show PE _ _ _ | show PA _ _ _ | show PS _ _ _ | show j7 _ _ _ | show PT _ _ _ | show PG _ _ _ | show PI _ _ _ _ | show N9 _ _ _ | show PW _ _ _ | show PO _ _ _ | show oQ _ _ _ | show M3 _ _ _ | show i5 _ _ _ | show pR _ _ _ _ _ _ _ _ _ _ | show PJ _ _ _ _ | show Aa _ _ _ | show Ab _ _ _ | show mM _ _ _ _ _ | show uF _ _ _ _ _ | show qG _ _ _ _ _ | show nZ _ _ _ _ _ | show Z3 _ _ _ _ _ | assumption | exact PassesOwn.never | exact PySem.boot_len | exact FW | exact SA | exact FT | exact SE | exact FU | exact SL | exact SD | exact EZ | exact M5 | exact X5 | exact FK | exact RZ | exact Ex | exact RY | exact SK | exact QX | exact i8 | exact kD | exact lT | exact RW | exact RV | exact RX | exact RU | exact KL | exact JH | exact gO | exact QS | exact Rc | exact Sg | exact Ep | exact Eo | exact QR | exact R4) | exact B7 rfl | exact D3 rfl | assumption | exact pE rfl | exact r9 rfl rfl | exact Or.inl rfl | exact Or.inr rfl | exact hr.mono (by decide) | exact hr.mono (Nat.le_refl _) | rfl | exact (Y7 rfl) | exact (IV rfl) | exact (CF rfl) | exact (W2 rfl rfl) | exact (Fk (by assumption) (by rfl')) | exact (Rz Ry) | exact (gK _) | exact fA.mono (by assumption) (by decide) | exact fA.mono (by assumption) (by omega) | exact fun _ _=>rfl | exact fun _=>rfl | exact fun _ _ _ _=>rfl | (intro _;rfl) | decide | with_unfolding_all rfl | rfl')
local macro_rules
 | `(tactic| k_types)=>`(tactic| ((with_reducible show i5 _ _ _);first | exact (gY hr.units) | exact (gY (fA.units (by assumption))) | exact (kJ hr.units) | exact (kJ (fA.units (by assumption))) | exact PL | exact KJ | exact PN | exact PQ | exact EV | exact EU | exact QK | exact PK))
local macro_rules
 | `(tactic| exists $t)=>`(tactic| (((intros;refine' $t) <;> try k_units) <;> try k_types))
local macro_rules
 | `(tactic| injections $xs*)=>do
  let mut r ← `(tactic| skip)
  let w:=("A B5 B8 B C3 B3 C D4 E7 D B3 C6 E D2 C6 F B D0 G B5 F4 H E6 F I B5 E J L9 K9 K B5 D L E9 K6 M F6 B3 N E5 L6 O J2 M5 P O1 PA.nox Q O0 B3 R A A S K3 B3 T D8 P6 U G A V B5 E5 W B5 Q8 X U I Y D8 G8 Z D8 G9 a U6 B3 b M9 B3 c D4 P5 d W4 PT.nox e Z5 PA.nox f O K g Q N h G0 C i E6 C3 j F4 B5 k A C6 l PS.nox U9 m W3 PS.nox n R R o U3 X5 p K2 E9 q D2 D0 r W B3 s C Q5 t R8 B3 u J6 N2 v Z E5 w c G0 x C3 M y T g z Y0 X9 Aa S L Ab D8 U9 Ac K0 Ba Ad J6 W5 Ae X X Af Ae Ae".splitOn " ").map String.toName
  let m:=(List.range 58).foldl (fun m i=>m.insert w[3*i]! [w[3*i+1]!,w[3*i+2]!]) ({}:Lean.NameMap (List Lean.Name))
  let mut ns:List Lean.Name:=(xs.map fun x=>x.raw.getId).toList
  for _ in [0:5] do ns:=ns.flatMap fun n=>(m.find? n).getD [n]
  for n in ns do
   let t:Lean.TSyntax `term:=⟨(Lean.mkIdent n).raw⟩
   let h ← `(?_)
   let hs:Array (Lean.TSyntax `term):=Array.replicate (if [`EZ,`M5,`X5,`D0,`Q5,`D2,`Cg,`C6,`R0,`K6,`P5,`G0,`W3,`N2].contains n then 0 else if [`PA.nox,`PS.nox,`PT.nox,`B3,`Eu,`JK,`E5,`Y1,`B8,`F4,`K3,`DQ,`FJ,`L6,`D4,`E7,`Cm,`J6,`W5,`L9,`Y0,`X8].contains n then 1 else if [`Bd,`Y2,`JJ,`O0,`D8,`U9,`Ba,`K9,`X9].contains n then 2 else if [`C3,`FR,`F6,`B5,`K2,`G8,`K0,`W4].contains n then 3 else if [`M9,`JO,`R1,`JV].contains n then 4 else if [`R8,`Fy,`LX,`LQ,`E9,`DD,`BP,`L4].contains n then 5 else if [`Cq,`G9,`P6].contains n then 6 else if [`DK,`E6,`Ks,`Kj,`Bg,`R3,`N6,`CH,`Kf,`DO,`JR].contains n then 7 else if [`Q8,`O1,`Ke,`LB,`Co,`Z5,`JM].contains n then 8 else 10) h
   r ← if hs.isEmpty then `(tactic| ($r:tactic;(intros;exact $t))) else `(tactic| ($r:tactic;((intros;refine' $t $hs*) <;> try k_units) <;> try k_types))
  return r
set_option hygiene true
theorem Vl:b0 ["thing"] ["thing"] (D5 GU):=F1
def Vm:Mo Fl:=(E4 (T1 (nW "int" (A0 0)) (Et (nW "bool" (A0 0)))))
def HB:Fn:=iO 1 Vm
theorem Vn{f:Addr}{fd:FuncData}(F:fT K "is_whole" "is_whole" GU f fd)(T:Txt K mg):c8 P w K mg base gA 1 f fd ["thing"] (gU K 1 HB):=
 F9 F Vl fun cdv A outer s H E hr=>(by cases T;injections C Y2 a Y1 JK a)
theorem Vo:b0 ["thing","width"] ["thing","width"] (D5 GV):=F1
theorem uN:(["-0","-1","number"]:List Str).Nodup:=by rfl'
def Vr:Mo Fl:=(D1 (F5 (T0 (L5 (mT (nW "tuple" (A0 0)))) (mT (C7 (jM true) (iP N0 (B4 (A0 0) C5)) (A0 1)))) (E4 (mC (.bl false))) i7) (E4 (iP V9 (B4 (mF (K4 (J8 (A0 0)) [false,false] 1 (gN 2) K5 (gJ 1 HB (C1 (A0 2) C9)))) C5))))
def Ah:Fn:=iO 2 Vr
theorem Vs{f:Addr}{fd:FuncData}(F:fT K "is_row" "is_row" GV f fd)(T:Txt K mg)(lA:Def P w K mg base "is_whole" 1 1 HB):c8 P w K mg base gA 2 f fd ["thing","width"] (gU K 2 Ah):=
 F9 F Vo fun cdv A outer s H E hr=>(by have n0:=uN;cases T;injections Y z J a X8 L4 f B3 s h J2;exists (Y7 rfl);injections V;exists (N6 (N':=["-0","-1","number"]) (keep:=[false,false]) (more:=1) ?_ ?_ ?_ ?_ ?_ ?_ ?_);injections Aa H C6)
theorem Vt:b0 ["thing","many","width"] ["thing","many","width"] (D5 GW):=F1
theorem uO:(["-0","-1","width","row"]:List Str).Nodup:=by rfl'
def WA:Mo Fl:=(D1 (F5 (T0 (L5 (mT (nW "tuple" (A0 0)))) (mT (C7 (jM true) (iP N0 (B4 (A0 0) C5)) (A0 1)))) (E4 (mC (.bl false))) i7) (E4 (iP V9 (B4 (mF (K4 (J8 (A0 0)) [false,false,true] 1 (gN 3) K5 (gJ 2 Ah (C1 (A0 3) (C1 (A0 2) C9))))) C5))))
def HC:Fn:=iO 3 WA
theorem WB{f:Addr}{fd:FuncData}(F:fT K "is_grid" "is_grid" GW f fd)(T:Txt K mg)(hW:Def P w K mg base "is_row" 2 2 Ah):c8 P w K mg base gA 3 f fd ["thing","many","width"] (gU K 3 HC):=
 F9 F Vt fun cdv A outer s H E hr=>(by have n0:=uO;cases T;injections Y z J a X8 L4 f B3 s h J2;exists (Y7 rfl);injections V;exists (N6 (N':=["-0","-1","width","row"]) (keep:=[false,false,true]) (more:=1) ?_ ?_ ?_ ?_ ?_ ?_ ?_);injections Aa E6 B F C6)
theorem WC:b0 ["thing","least","greatest"] ["thing","least","greatest"] (D5 GX):=F1
def WD:Mo Fl:=(D1 (F5 (T0 (L5 (mT (nW "tuple" (A0 0)))) (L5 (mT (BN qE qE (A0 1) (iP N0 (B4 (A0 0) C5)) (A0 2))))) (E4 (mC (.bl false))) i7) (E4 (gJ 3 HC (C1 (A0 0) (C1 (iP N0 (B4 (A0 0) C5)) (C1 (iP N0 (B4 (A0 0) C5)) C9))))))
def HD:Fn:=iO 3 WD
theorem WE{f:Addr}{fd:FuncData}(F:fT K "is_square" "is_square" GX f fd)(T:Txt K mg)(lI:Def P w K mg base "is_grid" 3 3 HC):c8 P w K mg base gA 4 f fd ["thing","least","greatest"] (gU K 3 HD):=
 F9 F WC fun cdv A outer s H E hr=>(by cases T;injections Y z J a X8 L9 JM B3 f B3 s h E6 B C3 f C3 f D0)
theorem WG:b0 ["grid"] ["grid"] (D5 GY):=F1
theorem uP:(["grid","at"]:List Str).Nodup:=by rfl'
theorem uQ:(["-0","at","row"]:List Str).Nodup:=by rfl'
def WH:Mo Fl:=(E4 (iP AK (B4 (mF (K4 (Cp (B4 (iP N0 (B4 (C7 iR (A0 0) (mC (.int 0))) C5)) C5)) [true] 1 (gN 1) K5 (iP AK (B4 (mF (K4 (J8 (A0 0)) [false,true] 1 (gN 2) K5 (C7 iR (A0 2) (A0 1)))) C5)))) C5)))
def Bl:Fn:=iO 1 WH
theorem WI{f:Addr}{fd:FuncData}(F:fT K "flipped" "flipped" GY f fd)(T:Txt K mg):c8 P w K mg base gA 1 f fd ["grid"] (gU K 1 Bl):=
 F9 F WG fun cdv A outer s H E hr=>(by have n0:=uP;have n1:=uQ;cases T;injections C o V;exists (N6 (N':=["grid","at"]) (keep:=[true]) (more:=1) ?_ ?_ ?_ ?_ ?_ ?_ ?_);injections JV B5 O B5 M E C6 L o V;exists (N6 (N':=["-0","at","row"]) (keep:=[false,true]) (more:=1) ?_ ?_ ?_ ?_ ?_ ?_ ?_);injections Aa M D C6)
theorem MG:b0 ["row","sums","number"] ["row"] (D5 GZ):=F1
def WJ:Mo Fl:=(D1 (M4 1 (J7 (B4 (mC (.int 0)) C5))) (D1 (AM (J8 (A0 0)) (gN 2) (Cn 1 (C7 AY (JN 1 (Bz (mC (.int 1)))) (A0 2)))) (E4 (iP AK (B4 (A0 1) C5)))))
def HE:Fn:=iO 3 WJ
theorem WK{f:Addr}{fd:FuncData}(F:fT K "running_sums" "running_sums" GZ f fd)(T:Txt K mg):c8 P w K mg base gA 1 f fd ["row"] (gU K 1 HE):=
 F9 F MG fun cdv A outer s H E hr=>(by have n0:=MG.nd;cases T;injections T L6 I D8 Cq S E9 D4 Co B5 M9 JO Eu D2 D C o K)
theorem WL:b0 ["grid"] ["grid"] (D5 Ga):=F1
theorem uR:(["-0","row"]:List Str).Nodup:=by rfl'
def WM:Mo Fl:=(E4 (iP AK (B4 (mF (K4 (J8 (A0 0)) [false] 1 (gN 1) K5 (gJ 1 HE (C1 (A0 1) C9)))) C5)))
def CL:Fn:=iO 1 WM
theorem WN{f:Addr}{fd:FuncData}(F:fT K "sums_across" "sums_across" Ga f fd)(T:Txt K mg)(jH:Def P w K mg base "running_sums" 1 1 HE):c8 P w K mg base gA 2 f fd ["grid"] (gU K 1 CL):=
 F9 F WL fun cdv A outer s H E hr=>(by have n0:=uR;cases T;injections C o V;exists (N6 (N':=["-0","row"]) (keep:=[false]) (more:=1) ?_ ?_ ?_ ?_ ?_ ?_ ?_);injections Aa H C6)
theorem WO:b0 ["grid"] ["grid"] (D5 Gb):=F1
def WQ:Mo Fl:=(E4 (gJ 1 Bl (C1 (gJ 1 CL (C1 (gJ 1 Bl (C1 (A0 0) C9)) C9)) C9)))
def HF:Fn:=iO 1 WQ
theorem WR{f:Addr}{fd:FuncData}(F:fT K "sums_down" "sums_down" Gb f fd)(T:Txt K mg)(jN:Def P w K mg base "flipped" 1 1 Bl)(hG:Def P w K mg base "sums_across" 2 1 CL):c8 P w K mg base gA 3 f fd ["grid"] (gU K 1 HF):=
 F9 F WO fun cdv A outer s H E hr=>(by cases T;injections C i i H D0 D0)
theorem MH:b0 ["line","total","number"] ["line"] (D5 Gd):=F1
def WS:Mo Fl:=(D1 (F2 1 (mC (.int 0))) (D1 (AM (J8 (A0 0)) (gN 2) (D1 (Ey 1 En (A0 2)) (F5 (mT (C7 (sT true) (A0 1) (F3 (B4 (mC (.int 0)) (B4 (mC (.int 1)) C5))))) (E4 (mC (.bl false))) i7))) (E4 (C7 (jM false) (A0 1) (mC (.int 1))))))
def HH:Fn:=iO 3 WS
theorem WT{f:Addr}{fd:FuncData}(F:fT K "takes_turns" "takes_turns" Gd f fd)(T:Txt K mg):c8 P w K mg base gA 1 f fd ["line"] (gU K 1 HH):=
 F9 F MH fun cdv A outer s H E hr=>(by have n0:=MH.nd;cases T;injections Z D2 D8 Cq S E9 D8 JR B3 D4 G8 L4 B3 j D2 I s h t D2)
theorem WU:b0 ["thing"] ["thing"] (D5 Ge):=F1
theorem uS:(["-0","line"]:List Str).Nodup:=by rfl'
def WV:Mo Fl:=(D1 (F5 (L5 (mT (gJ 3 HD (C1 (A0 0) (C1 (mC (.int 1)) (C1 (mC (.int 6)) C9)))))) (E4 (mC (.bl false))) i7) (E4 (iP V9 (B4 (mF (K4 (J8 (C7 AY (A0 0) (gJ 1 Bl (C1 (A0 0) C9)))) [false] 1 (gN 1) K5 (gJ 1 HH (C1 (A0 1) C9)))) C5))))
def Ai:Fn:=iO 1 WV
theorem WW{f:Addr}{fd:FuncData}(F:fT K "is_table" "is_table" Ge f fd)(T:Txt K mg)(kP:Def P w K mg base "is_square" 4 3 HD)(jT:Def P w K mg base "takes_turns" 1 1 HH)(jN:Def P w K mg base "flipped" 1 1 Bl):c8 P w K mg base gA 5 f fd ["thing"] (gU K 1 Ai):=
 F9 F WU fun cdv A outer s H E hr=>(by have n0:=uS;cases T;injections Y J E6 B C3 D2 C3 FR D0 s h J2;exists (Y7 rfl);injections V;exists (N6 (N':=["-0","line"]) (keep:=[false]) (more:=1) ?_ ?_ ?_ ?_ ?_ ?_ ?_);injections K3 b H L H C6)
theorem MI:b0 ["thing"] ["thing"] (D5 Dc):=F1
def WX:Mo Fl:=(F5 (L5 (mT (gJ 1 Ai (C1 (A0 0) C9)))) P4 i7)
def N7:Fn:=iO 1 WX
theorem WY{f:Addr}{fd:FuncData}(F:fT K "must_be_table" "must_be_table" Dc f fd)(T:Txt K mg)(gZ:Def P w K mg base "is_table" 5 1 Ai):c8 P w K mg base gA 6 f fd ["thing"] (gU K 1 N7):=
 F9 F MI fun cdv A outer s H E hr=>(by cases T;injections D4 G8 J H w)
def WZ:Mx:=(oJ (L5 (mT (gJ 1 Ai (C1 (A0 0) C9)))) (Z4 "NoTable" (B4 (mC (.str "this is no table")) C5)) j8)
def V2:List W->Option Str:=lF 1 WZ
theorem Wa{f:Addr}{fd:FuncData}(F:fT K "must_be_table" "must_be_table" Dc f fd)(T:Txt K mg)(gZ:Def P w K mg base "is_table" 5 1 Ai):c8 P w K mg base (iA P w) 6 f fd ["thing"] (j2 K 1 V2):=
 N3 F MI fun cdv A outer s H E hr=>(by cases T;injections J6 d J H J6 e k W3)
theorem Wb:b0 ["table"] ["table"] (D5 Gf):=F1
def Wc:Mo Fl:=(E4 (gJ 1 CL (C1 (gJ 1 HF (C1 (A0 0) C9)) C9)))
def T8:Fn:=iO 1 Wc
theorem Wd{f:Addr}{fd:FuncData}(F:fT K "summed" "summed" Gf f fd)(T:Txt K mg)(hG:Def P w K mg base "sums_across" 2 1 CL)(kQ:Def P w K mg base "sums_down" 3 1 HF):c8 P w K mg base gA 4 f fd ["table"] (gU K 1 T8):=
 F9 F Wb fun cdv A outer s H E hr=>(by cases T;injections C i H D0)
def Aj:Fn:=fun _=>none
theorem We{f:Addr}{fd:FuncData}(F:fT K "unsummed" "unsummed" ME f fd)(T:Txt K mg):c8 P w K mg base gA 1 f fd ["heights"] (gU K 1 Aj):=S2
theorem MJ:b0 ["table"] ["table"] (D5 De):=F1
theorem uT:(["-0","row"]:List Str).Nodup:=by rfl'
theorem uU:(["-0","-1","number"]:List Str).Nodup:=by rfl'
def Wf:Mo Fl:=(D1 (U8 (gJ 1 N7 (C1 (A0 0) C9))) (E4 (C7 Ac (mC (.str "/")) (mF (K4 (J8 (A0 0)) [false] 1 (gN 1) K5 (C7 Ac (mC (.str "")) (mF (K4 (J8 (A0 1)) [false,false] 1 (gN 2) K5 (Fw [(.inl 1,.inr "+"),(.inl (-1),.inr "-"),(.inl 0,.inr "0")] (A0 2))))))))))
def Dx:Fn:=iO 1 Wf
theorem Wg{f:Addr}{fd:FuncData}(F:fT K "table_text" "table_text" De f fd)(T:Txt K mg)(c6:Def P w K mg base "must_be_table" 6 1 N7)(kD:oA P w K mg "SIGNS" [(.inl 1,.inr "+"),(.inl (-1),.inr "-"),(.inl 0,.inr "0")]):c8 P w K mg base gA 7 f fd ["table"] (gU K 1 Dx):=
 F9 F MJ fun cdv A outer s H E hr=>(by have n0:=uT;have n1:=uU;cases T;injections Ab H C Bg B8 E5;exists (N6 (N':=["-0","row"]) (keep:=[false]) (more:=1) ?_ ?_ ?_ ?_ ?_ ?_ ?_);injections Aa Bg B8 E5;exists (N6 (N':=["-0","-1","number"]) (keep:=[false,false]) (more:=1) ?_ ?_ ?_ ?_ ?_ ?_ ?_);injections Aa Fy B3)
def Wh:Mx:=(J9 (N5 1 V2 (C1 (A0 0) C9)) (U8 (gJ 1 N7 (C1 (A0 0) C9))) j8)
def HI:List W->Option Str:=lF 1 Wh
theorem Wi{f:Addr}{fd:FuncData}(F:fT K "table_text" "table_text" De f fd)(T:Txt K mg)(c6:Def P w K mg base "must_be_table" 6 1 N7)(kD:oA P w K mg "SIGNS" [(.inl 1,.inr "+"),(.inl (-1),.inr "-"),(.inl 0,.inr "0")])(d8:gQ P w K mg base "must_be_table" 6 1 V2):c8 P w K mg base (iA P w) 7 f fd ["table"] (j2 K 1 HI):=
 N3 F MJ fun cdv A outer s H E hr=>(by cases T;injections Ac P F l H u)
theorem Wj:b0 ["text"] ["text"] (D5 Gg):=F1
theorem uV:(["-0","row"]:List Str).Nodup:=by rfl'
theorem Wk:(["-0","-1","sign"]:List Str).Nodup:=by rfl'
def Wl:Mo Fl:=(E4 (iP AK (B4 (mF (K4 (J8 (mF (DM (A0 0) (mC (.str "/"))))) [false] 1 (gN 1) K5 (iP AK (B4 (mF (K4 (DP (A0 1)) [false,false] 1 (gN 2) K5 (Fw [(.inr "+",.inl 1),(.inr "-",.inl (-1)),(.inr "0",.inl 0)] (A0 2)))) C5)))) C5)))
def Bm:Fn:=iO 1 Wl
theorem Wm{f:Addr}{fd:FuncData}(F:fT K "unwritten" "unwritten" Gg f fd)(T:Txt K mg)(i8:oA P w K mg "NUMBERS" [(.inr "+",.inl 1),(.inr "-",.inl (-1)),(.inr "0",.inl 0)]):c8 P w K mg base gA 1 f fd ["text"] (gU K 1 Bm):=
 F9 F Wj fun cdv A outer s H E hr=>(by have n0:=Wk;have n1:=uV;cases T;injections C o V;exists (N6 (N':=["-0","row"]) (keep:=[false]) (more:=1) ?_ ?_ ?_ ?_ ?_ ?_ ?_);injections K3 E5 DO B3 B8 L o V;exists (N6 (N':=["-0","-1","sign"]) (keep:=[false,false]) (more:=1) ?_ ?_ ?_ ?_ ?_ ?_ ?_);injections DQ B3 L Fy D C6)
theorem Wn:b0 ["thing"] ["thing"] (D5 Gh):=F1
theorem Wo:(["-0","sign"]:List Str).Nodup:=by rfl'
def Wq:Mo Fl:=(D1 (F5 (L5 (mT (nW "str" (A0 0)))) (E4 (mC (.bl false))) i7) (D1 (F5 (L5 (mT (iP V9 (B4 (mF (K4 (DP (A0 0)) [false] 1 (gN 1) K5 (Es (C7 (jM false) (A0 1) (mC (.str "/"))) (Fx [(.inr "+",.inl 1),(.inr "-",.inl (-1)),(.inr "0",.inl 0)] (A0 1))))) C5)))) (E4 (mC (.bl false))) i7) (E4 (gJ 1 Ai (C1 (gJ 1 Bm (C1 (A0 0) C9)) C9)))))
def AB:Fn:=iO 1 Wq
theorem Wr{f:Addr}{fd:FuncData}(F:fT K "is_note" "is_note" Gh f fd)(T:Txt K mg)(gZ:Def P w K mg base "is_table" 5 1 Ai)(gR:Def P w K mg base "unwritten" 1 1 Bm)(i8:oA P w K mg "NUMBERS" [(.inr "+",.inl 1),(.inr "-",.inl (-1)),(.inr "0",.inl 0)]):c8 P w K mg base gA 6 f fd ["thing"] (gU K 1 AB):=
 F9 F Wn fun cdv A outer s H E hr=>(by have n0:=Wo;cases T;injections Y J a s G0 Y J J2;exists (Y7 rfl);injections V;exists (N6 (N':=["-0","sign"]) (keep:=[false]) (more:=1) ?_ ?_ ?_ ?_ ?_ ?_ ?_);injections DQ B3 L JJ t B8 Y1 LQ D s h i H D0)
theorem MK:b0 ["text"] ["text"] (D5 Dg):=F1
def Ws:Mo Fl:=(D1 (F5 (L5 (mT (gJ 1 AB (C1 (A0 0) C9)))) P4 i7) (E4 (gJ 1 Bm (C1 (A0 0) C9))))
def Dy:Fn:=iO 1 Ws
theorem Wt{f:Addr}{fd:FuncData}(F:fT K "table_read" "table_read" Dg f fd)(T:Txt K mg)(gR:Def P w K mg base "unwritten" 1 1 Bm)(g0:Def P w K mg base "is_note" 6 1 AB):c8 P w K mg base gA 7 f fd ["text"] (gU K 1 Dy):=
 F9 F MK fun cdv A outer s H E hr=>(by cases T;injections Y J H c h H)
def Wu:Mx:=(J9 (oJ (L5 (mT (gJ 1 AB (C1 (A0 0) C9)))) (Z4 "BadNote" (B4 (mC (.str "this is no text of a table")) C5)) j8) (F5 (L5 (mT (gJ 1 AB (C1 (A0 0) C9)))) P4 i7) j8)
def HJ:List W->Option Str:=lF 1 Wu
theorem Wv{f:Addr}{fd:FuncData}(F:fT K "table_read" "table_read" Dg f fd)(T:Txt K mg)(gR:Def P w K mg base "unwritten" 1 1 Bm)(g0:Def P w K mg base "is_note" 6 1 AB):c8 P w K mg base (iA P w) 7 f fd ["text"] (j2 K 1 HJ):=
 N3 F MK fun cdv A outer s H E hr=>(by cases T;injections K0 d J H J6 e k m G8 J H w u)
theorem ML:b0 ["one","other"] ["one","other"] (D5 Dh):=F1
def Ww:Mo Fl:=(D1 (U8 (gJ 1 N7 (C1 (A0 0) C9))) (D1 (U8 (gJ 1 N7 (C1 (A0 1) C9))) (D1 (F5 (mT (C7 (jM true) (iP N0 (B4 (A0 0) C5)) (iP N0 (B4 (A0 1) C5)))) P4 i7) (E4 (F3 (B4 (gJ 1 T8 (C1 (A0 0) C9)) (B4 (gJ 1 T8 (C1 (A0 1) C9)) C5)))))))
def T9:Fn:=iO 2 Ww
theorem Wx{f:Addr}{fd:FuncData}(F:fT K "heights_of_both" "heights_of_both" Dh f fd)(T:Txt K mg)(c6:Def P w K mg base "must_be_table" 6 1 N7)(f7:Def P w K mg base "summed" 4 1 T8):c8 P w K mg base gA 7 f fd ["one","other"] (gU K 2 T9):=
 F9 F ML fun cdv A outer s H E hr=>(by cases T;injections Ab H Ab H Y L4 f f c h j H B5 H C6)
def Wy:Mx:=(J9 (N5 1 V2 (C1 (A0 0) C9)) (U8 (gJ 1 N7 (C1 (A0 0) C9))) (J9 (N5 1 V2 (C1 (A0 1) C9)) (U8 (gJ 1 N7 (C1 (A0 1) C9))) (J9 (oJ (mT (C7 (jM true) (iP N0 (B4 (A0 0) C5)) (iP N0 (B4 (A0 1) C5)))) (Z4 "NotAlike" (B4 (mC (.str "the tables have unlike sides")) C5)) j8) (F5 (mT (C7 (jM true) (iP N0 (B4 (A0 0) C5)) (iP N0 (B4 (A0 1) C5)))) P4 i7) j8)))
def Ak:List W->Option Str:=lF 2 Wy
theorem Wz{f:Addr}{fd:FuncData}(F:fT K "heights_of_both" "heights_of_both" Dh f fd)(T:Txt K mg)(c6:Def P w K mg base "must_be_table" 6 1 N7)(f7:Def P w K mg base "summed" 4 1 T8)(d8:gQ P w K mg base "must_be_table" 6 1 V2):c8 P w K mg base (iA P w) 7 f fd ["one","other"] (j2 K 2 Ak):=
 N3 F ML fun cdv A outer s H E hr=>(by cases T;injections Ac P F l H Ac P F l H K0 d L4 f f J6 e k m G8 L4 f f w u)
theorem XA:b0 ["one","other"] ["one","other"] (D5 Gi):=F1
theorem XB:(["-0","-1","row","line"]:List Str).Nodup:=by rfl'
def XC:Mo Fl:=(Ck (K4 (BY (B4 (A0 0) (B4 (A0 1) C5))) [false,false] 2 (gT 2 (kO (gN 2) (kO (gN 3) m7))) K5 (mF (BY (B4 (A0 2) (B4 (A0 3) C5))))))
def AD:Fn:=iO 2 XC
theorem XD{f:Addr}{fd:FuncData}(F:fT K "pairs_of" "pairs_of" Gi f fd)(T:Txt K mg):c8 P w K mg base gA 1 f fd ["one","other"] (gU K 2 AD):=
 F9 F XA fun cdv A outer s H E hr=>(by have n0:=XB;cases T;injections D4 Cm;exists (N6 (N':=["-0","-1","row","line"]) (keep:=[false,false]) (more:=2) ?_ ?_ ?_ ?_ ?_ ?_ ?_);injections DD B5 B3 K R1 p p R0 K6 E5 LB B5 B3 K)
theorem Al:b0 ["one","other","heights","others"] ["one","other"] (D5 Di):=F1
theorem XE:(["-0","-1","-2","-3","row","height","beside"]:List Str).Nodup:=by rfl'
def XF:Mo Fl:=(D1 (U4 (gJ 2 T9 (C1 (A0 0) (C1 (A0 1) C9))) (gT 2 (kO (gN 2) (kO (gN 3) m7)))) (E4 (iP V9 (B4 (mF (W8 (J8 (mF (Q6 2 AD (C1 (A0 2) (C1 (A0 3) C9))))) [false,false,false,false] 3 (gN 4) K5 (qI (J8 (A0 4)) (gT 2 (kO (gN 5) (kO (gN 6) m7))) K5 (Q1 (C7 sS (A0 5) (A0 6)))))) C5))))
def Dz:Fn:=iO 4 XF
theorem XG{f:Addr}{fd:FuncData}(F:fT K "is_below" "is_below" Di f fd)(T:Txt K mg)(c5:Def P w K mg base "heights_of_both" 7 2 T9)(fH:Def P w K mg base "pairs_of" 1 2 AD):c8 P w K mg base gA 8 f fd ["one","other"] (gU K 2 Dz):=
 F9 F Al fun cdv A outer s H E hr=>(by have n0:=XE;have n1:=Al.nd;cases T;injections D8 BP E6 B F R1 p p R0 C J2;exists (Y7 rfl);injections V;exists (CH (N':=["-0","-1","-2","-3","row","height","beside"]) (keep:=[false,false,false,false]) (more:=3) ?_ ?_ ?_ ?_ ?_ ?_ ?_);injections K3 E5 R3 B F L DK S R1 p p R0 K6 Bd t D)
def XH:Mx:=(J9 (N5 2 Ak (C1 (A0 0) (C1 (A0 1) C9))) (U4 (gJ 2 T9 (C1 (A0 0) (C1 (A0 1) C9))) (gT 2 (kO (gN 2) (kO (gN 3) m7)))) j8)
def HK:List W->Option Str:=lF 4 XH
theorem XI{f:Addr}{fd:FuncData}(F:fT K "is_below" "is_below" Di f fd)(T:Txt K mg)(c5:Def P w K mg base "heights_of_both" 7 2 T9)(fH:Def P w K mg base "pairs_of" 1 2 AD)(c9:gQ P w K mg base "heights_of_both" 7 2 Ak):c8 P w K mg base (iA P w) 8 f fd ["one","other"] (j2 K 2 HK):=
 N3 F Al fun cdv A outer s H E hr=>(@K0 _ _ _ _ _ _ _ _ (@Fu _ _ _ _ _ _ _ _ _ (@O1 _ _ _ _ _ _ _ _ _ _ _ _ (by exact R4) (by exact c9) (by exact(hr.mono (show 7≤7 by decide))) (by exact rfl) (by exact(PA.nox (@C3 _ _ _ _ _ _ (@B3 _ _ _ _ _ (pv 0)) (@C3 _ _ _ _ _ _ (@B3 _ _ _ _ _ (pv 1)) (@D0 _ _) (by exact B7 rfl)) (by exact B7 rfl)))) (by decide) (by exact B7 rfl) (by exact D3 rfl)) (@R1 _ _ _ _ _ _ _ _ (by exact rfl) (@K2 _ _ _ _ _ _ _ (@E9 _ _ _ _ 2 _ (by exact(show 0≤2 by decide)) (by exact Al.nd) (by exact rfl) (by first|exact Or.inl rfl|exact Or.inr rfl) (by first|exact .inl rfl|exact .inr rfl|assumption)) (@K2 _ _ _ _ _ _ _ (@E9 _ _ _ _ 3 _ (by exact(show 0≤3 by decide)) (by exact Al.nd) (by exact rfl) (by first|exact Or.inl rfl|exact Or.inr rfl) (by first|exact .inl rfl|exact .inr rfl|assumption)) (@R0 _ _ _) (by rfl)) (by rfl)) (by rfl) (by rfl)) (by rfl) (by rfl) (by rfl)) (by exact(PS.nox (@BP _ _ _ _ _ _ _ (@E6 _ _ _ _ _ _ _ _ _ _ _ (by exact c5) (by exact(hr.mono (show 7≤7 by decide))) (by exact rfl) (@C3 _ _ _ _ _ _ (@B3 _ _ _ _ _ (pv 0)) (@C3 _ _ _ _ _ _ (@B3 _ _ _ _ _ (pv 1)) (@D0 _ _) (by exact B7 rfl)) (by exact B7 rfl)) (by decide) (by exact B7 rfl) (by exact D3 rfl)) (@R1 _ _ _ _ _ _ _ _ (by exact rfl) (@K2 _ _ _ _ _ _ _ (@E9 _ _ _ _ 2 _ (by exact(show 0≤2 by decide)) (by exact Al.nd) (by exact rfl) (by first|exact Or.inl rfl|exact Or.inr rfl) (by first|exact .inl rfl|exact .inr rfl|assumption)) (@K2 _ _ _ _ _ _ _ (@E9 _ _ _ _ 3 _ (by exact(show 0≤3 by decide)) (by exact Al.nd) (by exact rfl) (by first|exact Or.inl rfl|exact Or.inr rfl) (by first|exact .inl rfl|exact .inr rfl|assumption)) (@R0 _ _ _) (by rfl)) (by rfl)) (by rfl) (by rfl)) (by rfl) (by rfl) (by rfl)))) (@J6 _ _ _ _ _ (@N2 _ _ _ _)))
theorem CM:b0 ["one","other","heights","others"] ["one","other"] (D5 Dj):=F1
def HL:Fn:=fun _=>none
theorem XJ{f:Addr}{fd:FuncData}(F:fT K "both_below" "both_below" Dj f fd)(T:Txt K mg)(c5:Def P w K mg base "heights_of_both" 7 2 T9)(fJ:Def P w K mg base "unsummed" 1 1 Aj)(fH:Def P w K mg base "pairs_of" 1 2 AD):c8 P w K mg base gA 8 f fd ["one","other"] (gU K 2 HL):=S2
def XM:Mx:=(J9 (N5 2 Ak (C1 (A0 0) (C1 (A0 1) C9))) (U4 (gJ 2 T9 (C1 (A0 0) (C1 (A0 1) C9))) (gT 2 (kO (gN 2) (kO (gN 3) m7)))) j8)
def HM:List W->Option Str:=lF 4 XM
theorem XN{f:Addr}{fd:FuncData}(F:fT K "both_below" "both_below" Dj f fd)(T:Txt K mg)(c5:Def P w K mg base "heights_of_both" 7 2 T9)(fJ:Def P w K mg base "unsummed" 1 1 Aj)(fH:Def P w K mg base "pairs_of" 1 2 AD)(c9:gQ P w K mg base "heights_of_both" 7 2 Ak):c8 P w K mg base (iA P w) 8 f fd ["one","other"] (j2 K 2 HM):=
 N3 F CM fun cdv A outer s H E hr=>(@K0 _ _ _ _ _ _ _ _ (@Fu _ _ _ _ _ _ _ _ _ (@O1 _ _ _ _ _ _ _ _ _ _ _ _ (by exact R4) (by exact c9) (by exact(hr.mono (show 7≤7 by decide))) (by exact rfl) (by exact(PA.nox (@C3 _ _ _ _ _ _ (@B3 _ _ _ _ _ (pv 0)) (@C3 _ _ _ _ _ _ (@B3 _ _ _ _ _ (pv 1)) (@D0 _ _) (by exact B7 rfl)) (by exact B7 rfl)))) (by decide) (by exact B7 rfl) (by exact D3 rfl)) (@R1 _ _ _ _ _ _ _ _ (by exact rfl) (@K2 _ _ _ _ _ _ _ (@E9 _ _ _ _ 2 _ (by exact(show 0≤2 by decide)) (by exact CM.nd) (by exact rfl) (by first|exact Or.inl rfl|exact Or.inr rfl) (by first|exact .inl rfl|exact .inr rfl|assumption)) (@K2 _ _ _ _ _ _ _ (@E9 _ _ _ _ 3 _ (by exact(show 0≤3 by decide)) (by exact CM.nd) (by exact rfl) (by first|exact Or.inl rfl|exact Or.inr rfl) (by first|exact .inl rfl|exact .inr rfl|assumption)) (@R0 _ _ _) (by rfl)) (by rfl)) (by rfl) (by rfl)) (by rfl) (by rfl) (by rfl)) (by exact(PS.nox (@BP _ _ _ _ _ _ _ (@E6 _ _ _ _ _ _ _ _ _ _ _ (by exact c5) (by exact(hr.mono (show 7≤7 by decide))) (by exact rfl) (@C3 _ _ _ _ _ _ (@B3 _ _ _ _ _ (pv 0)) (@C3 _ _ _ _ _ _ (@B3 _ _ _ _ _ (pv 1)) (@D0 _ _) (by exact B7 rfl)) (by exact B7 rfl)) (by decide) (by exact B7 rfl) (by exact D3 rfl)) (@R1 _ _ _ _ _ _ _ _ (by exact rfl) (@K2 _ _ _ _ _ _ _ (@E9 _ _ _ _ 2 _ (by exact(show 0≤2 by decide)) (by exact CM.nd) (by exact rfl) (by first|exact Or.inl rfl|exact Or.inr rfl) (by first|exact .inl rfl|exact .inr rfl|assumption)) (@K2 _ _ _ _ _ _ _ (@E9 _ _ _ _ 3 _ (by exact(show 0≤3 by decide)) (by exact CM.nd) (by exact rfl) (by first|exact Or.inl rfl|exact Or.inr rfl) (by first|exact .inl rfl|exact .inr rfl|assumption)) (@R0 _ _ _) (by rfl)) (by rfl)) (by rfl) (by rfl)) (by rfl) (by rfl) (by rfl)))) (@J6 _ _ _ _ _ (@N2 _ _ _ _)))
theorem CN:b0 ["one","other","heights","others"] ["one","other"] (D5 Dk):=F1
def HN:Fn:=fun _=>none
theorem XO{f:Addr}{fd:FuncData}(F:fT K "both_above" "both_above" Dk f fd)(T:Txt K mg)(c5:Def P w K mg base "heights_of_both" 7 2 T9)(fJ:Def P w K mg base "unsummed" 1 1 Aj)(fH:Def P w K mg base "pairs_of" 1 2 AD):c8 P w K mg base gA 8 f fd ["one","other"] (gU K 2 HN):=S2
def XQ:Mx:=(J9 (N5 2 Ak (C1 (A0 0) (C1 (A0 1) C9))) (U4 (gJ 2 T9 (C1 (A0 0) (C1 (A0 1) C9))) (gT 2 (kO (gN 2) (kO (gN 3) m7)))) j8)
def HQ:List W->Option Str:=lF 4 XQ
theorem XR{f:Addr}{fd:FuncData}(F:fT K "both_above" "both_above" Dk f fd)(T:Txt K mg)(c5:Def P w K mg base "heights_of_both" 7 2 T9)(fJ:Def P w K mg base "unsummed" 1 1 Aj)(fH:Def P w K mg base "pairs_of" 1 2 AD)(c9:gQ P w K mg base "heights_of_both" 7 2 Ak):c8 P w K mg base (iA P w) 8 f fd ["one","other"] (j2 K 2 HQ):=
 N3 F CN fun cdv A outer s H E hr=>(@K0 _ _ _ _ _ _ _ _ (@Fu _ _ _ _ _ _ _ _ _ (@O1 _ _ _ _ _ _ _ _ _ _ _ _ (by exact R4) (by exact c9) (by exact(hr.mono (show 7≤7 by decide))) (by exact rfl) (by exact(PA.nox (@C3 _ _ _ _ _ _ (@B3 _ _ _ _ _ (pv 0)) (@C3 _ _ _ _ _ _ (@B3 _ _ _ _ _ (pv 1)) (@D0 _ _) (by exact B7 rfl)) (by exact B7 rfl)))) (by decide) (by exact B7 rfl) (by exact D3 rfl)) (@R1 _ _ _ _ _ _ _ _ (by exact rfl) (@K2 _ _ _ _ _ _ _ (@E9 _ _ _ _ 2 _ (by exact(show 0≤2 by decide)) (by exact CN.nd) (by exact rfl) (by first|exact Or.inl rfl|exact Or.inr rfl) (by first|exact .inl rfl|exact .inr rfl|assumption)) (@K2 _ _ _ _ _ _ _ (@E9 _ _ _ _ 3 _ (by exact(show 0≤3 by decide)) (by exact CN.nd) (by exact rfl) (by first|exact Or.inl rfl|exact Or.inr rfl) (by first|exact .inl rfl|exact .inr rfl|assumption)) (@R0 _ _ _) (by rfl)) (by rfl)) (by rfl) (by rfl)) (by rfl) (by rfl) (by rfl)) (by exact(PS.nox (@BP _ _ _ _ _ _ _ (@E6 _ _ _ _ _ _ _ _ _ _ _ (by exact c5) (by exact(hr.mono (show 7≤7 by decide))) (by exact rfl) (@C3 _ _ _ _ _ _ (@B3 _ _ _ _ _ (pv 0)) (@C3 _ _ _ _ _ _ (@B3 _ _ _ _ _ (pv 1)) (@D0 _ _) (by exact B7 rfl)) (by exact B7 rfl)) (by decide) (by exact B7 rfl) (by exact D3 rfl)) (@R1 _ _ _ _ _ _ _ _ (by exact rfl) (@K2 _ _ _ _ _ _ _ (@E9 _ _ _ _ 2 _ (by exact(show 0≤2 by decide)) (by exact CN.nd) (by exact rfl) (by first|exact Or.inl rfl|exact Or.inr rfl) (by first|exact .inl rfl|exact .inr rfl|assumption)) (@K2 _ _ _ _ _ _ _ (@E9 _ _ _ _ 3 _ (by exact(show 0≤3 by decide)) (by exact CN.nd) (by exact rfl) (by first|exact Or.inl rfl|exact Or.inr rfl) (by first|exact .inl rfl|exact .inr rfl|assumption)) (@R0 _ _ _) (by rfl)) (by rfl)) (by rfl) (by rfl)) (by rfl) (by rfl) (by rfl)))) (@J6 _ _ _ _ _ (@N2 _ _ _ _)))
theorem MM:b0 ["heights","row","column","height","ahead","behind"] ["heights","row","column"] (D5 Gj):=F1
def XS:Mo Fl:=(D1 (F2 3 (C7 iR (C7 iR (A0 0) (A0 1)) (A0 2))) (D1 (F2 4 (F3 (B4 (C7 iR (C7 iR (A0 0) (C7 AI (A0 1) (mC (.int 1)))) (A0 2)) (B4 (C7 iR (C7 iR (A0 0) (A0 1)) (C7 AI (A0 2) (mC (.int 1)))) C5)))) (D1 (F2 5 (F3 (B4 (C7 iR (C7 iR (A0 0) (C7 AY (A0 1) (mC (.int 1)))) (A0 2)) (B4 (C7 iR (C7 iR (A0 0) (A0 1)) (C7 AY (A0 2) (mC (.int 1)))) C5)))) (E4 (T1 (C7 (jM false) (A0 4) (F3 (B4 (C7 AI (A0 3) (mC (.int 1))) (B4 (C7 AI (A0 3) (mC (.int 1))) C5)))) (C7 (jM false) (A0 5) (F3 (B4 (A0 3) (B4 (A0 3) C5)))))))))
def HR:Fn:=iO 6 XS
theorem XT{f:Addr}{fd:FuncData}(F:fT K "can_fall" "can_fall" Gj f fd)(T:Txt K mg):c8 P w K mg base gA 1 f fd ["heights","row","column"] (gU K 3 HR):=
 F9 F MM fun cdv A outer s H E hr=>(by have n0:=MM.nd;cases T;injections Z F6 M B3 B3 Z j F6 M b D2 B3 B5 F6 M B3 b E Z j F6 M b D2 B3 B5 F6 M B3 b E C Y2 t j b D2 B5 b E Y1 t j B3 K)
theorem MN:b0 ["heights","inner"] ["heights"] (D5 Gk):=F1
theorem XU:(["heights","inner","row","column"]:List Str).Nodup:=by rfl'
def XV:Mo Fl:=(D1 (F2 1 (mF (JU (B4 (mC (.int 1)) (B4 (C7 AI (iP N0 (B4 (A0 0) C5)) (mC (.int 1))) C5))))) (Ck (W8 (J8 (A0 1)) [true,true] 2 (gN 2) K5 (qI (J8 (A0 1)) (gN 3) (mT (gJ 3 HR (C1 (A0 0) (C1 (A0 2) (C1 (A0 3) C9))))) (Q1 (F3 (B4 (A0 2) (B4 (A0 3) C5))))))))
def CO:Fn:=iO 2 XV
theorem XX{f:Addr}{fd:FuncData}(F:fT K "steps_in" "steps_in" Gk f fd)(T:Txt K mg)(lB:Def P w K mg base "can_fall" 1 3 HR):c8 P w K mg base gA 2 f fd ["heights"] (gU K 1 CO):=
 F9 F MN fun cdv A outer s H E hr=>(by have n0:=XU;have n1:=MN.nd;cases T;injections v Ke B5 D2 B5 M9 f E D4 Cm;exists (CH (N':=["heights","inner","row","column"]) (keep:=[true,true]) (more:=2) ?_ ?_ ?_ ?_ ?_ ?_ ?_);injections Aa DK S E9 FJ K9 E6 B B F Bd j B3 K)
def HS:Fn:=fun _=>none
theorem XY{f:Addr}{fd:FuncData}(F:fT K "fallen" "fallen" MF f fd)(T:Txt K mg):c8 P w K mg base gA 1 f fd ["heights","place"] (gU K 2 HS):=S2
theorem MO:b0 ["table","place","heights"] ["table","place"] (D5 Dl):=F1
def HU:Fn:=fun _=>none
theorem XZ{f:Addr}{fd:FuncData}(F:fT K "stepped" "stepped" Dl f fd)(T:Txt K mg)(c6:Def P w K mg base "must_be_table" 6 1 N7)(f7:Def P w K mg base "summed" 4 1 T8)(fJ:Def P w K mg base "unsummed" 1 1 Aj)(kE:Def P w K mg base "fallen" 1 2 HS)(hW:Def P w K mg base "is_row" 2 2 Ah)(g9:Def P w K mg base "steps_in" 2 1 CO):c8 P w K mg base gA 7 f fd ["table","place"] (gU K 2 HU):=S2
def Xa:Mx:=(J9 (N5 1 V2 (C1 (A0 0) C9)) (U8 (gJ 1 N7 (C1 (A0 0) C9))) (J9 j8 (F2 2 (gJ 1 T8 (C1 (A0 0) C9))) (J9 (oJ (T0 (L5 (mT (gJ 2 Ah (C1 (A0 1) (C1 (mC (.int 2)) C9))))) (mT (C7 (DL true) (A0 1) (mF (Q6 1 CO (C1 (A0 2) C9)))))) (Z4 "NoStep" (B4 (mC (.str "no step of the table goes up there")) C5)) j8) (F5 (T0 (L5 (mT (gJ 2 Ah (C1 (A0 1) (C1 (mC (.int 2)) C9))))) (mT (C7 (DL true) (A0 1) (mF (Q6 1 CO (C1 (A0 2) C9)))))) P4 i7) j8)))
def HV:List W->Option Str:=lF 3 Xa
theorem Xb{f:Addr}{fd:FuncData}(F:fT K "stepped" "stepped" Dl f fd)(T:Txt K mg)(c6:Def P w K mg base "must_be_table" 6 1 N7)(f7:Def P w K mg base "summed" 4 1 T8)(fJ:Def P w K mg base "unsummed" 1 1 Aj)(kE:Def P w K mg base "fallen" 1 2 HS)(hW:Def P w K mg base "is_row" 2 2 Ah)(g9:Def P w K mg base "steps_in" 2 1 CO)(d8:gQ P w K mg base "must_be_table" 6 1 V2):c8 P w K mg base (iA P w) 7 f fd ["table","place"] (j2 K 2 HV):=
 N3 F MO fun cdv A outer s H E hr=>(@K0 _ _ _ _ _ _ _ _ (@Ba _ _ _ _ _ _ (@O1 _ _ _ _ _ _ _ _ _ _ _ _ (by exact R4) (by exact d8) (by exact(hr.mono (show 6≤6 by decide))) (by exact rfl) (by exact(PA.nox (@C3 _ _ _ _ _ _ (@B3 _ _ _ _ _ (pv 0)) (@D0 _ _) (by exact B7 rfl)))) (by decide) (by exact B7 rfl) (by exact D3 rfl)) (by rfl)) (by exact(PS.nox (@U9 _ _ _ _ _ (@E6 _ _ _ _ _ _ _ _ _ _ _ (by exact c6) (by exact(hr.mono (show 6≤6 by decide))) (by exact rfl) (@C3 _ _ _ _ _ _ (@B3 _ _ _ _ _ (pv 0)) (@D0 _ _) (by exact B7 rfl)) (by decide) (by exact B7 rfl) (by exact D3 rfl)) (by rfl)))) (@K0 _ _ _ _ _ _ _ _ (@N2 _ _ _ _) (by exact(PS.nox (@G9 _ _ _ _ _ 2 _ _ (by exact MO.nd) (by exact rfl) (by first|exact Or.inl rfl|exact Or.inr rfl) (@E6 _ _ _ _ _ _ _ _ _ _ _ (by exact f7) (by exact(hr.mono (show 4≤6 by decide))) (by exact rfl) (@C3 _ _ _ _ _ _ (@B3 _ _ _ _ _ (pv 0)) (@D0 _ _) (by exact B7 rfl)) (by decide) (by exact B7 rfl) (by exact D3 rfl)) (by rfl) (by first|exact .inl rfl|exact .inr rfl|assumption)))) (@K0 _ _ _ _ _ _ _ _ (@W4 _ _ _ _ _ _ _ _ _ _ (by exact(PT.nox (@Y0 _ _ _ _ (@X9 _ _ _ _ _ _ _ _ (@L9 _ _ _ _ _ (@K9 _ _ _ _ (@E6 _ _ _ _ _ _ _ _ _ _ _ (by exact hW) (by exact(hr.mono (show 2≤6 by decide))) (by exact rfl) (@C3 _ _ _ _ _ _ (@B3 _ _ _ _ _ (pv 1)) (@C3 _ _ _ _ _ _ (@D2 _ _ _ _ _) (@D0 _ _) (by exact B7 rfl)) (by exact B7 rfl)) (by decide) (by exact B7 rfl) (by exact D3 rfl)) (by intro _;rfl))) (@X8 _ _ _ _ _ (@L4 _ _ _ _ _ _ _ _ _ _ (by exact(LC hr.units)) (by exact Fq) (@B3 _ _ _ _ _ (pv 1)) (@E5 _ _ _ _ (@R3 _ _ _ _ _ _ _ _ _ _ _ (by exact g9) (by exact(hr.mono (show 2≤6 by decide))) (by exact rfl) (@C3 _ _ _ _ _ _ (@B3 _ _ _ _ _ (pv 2)) (@D0 _ _) (by exact B7 rfl)) (by decide) (by exact B7 rfl) (by exact D3 rfl))) (by with_unfolding_all rfl))))))) (@J6 _ _ _ _ _ (@Z5 _ _ _ _ _ _ _ _ _ _ (by exact R4) (by exact rfl) (by exact(Fk T.ex (by rfl'))) (by exact rfl) (by exact(PA.nox (@B5 _ _ _ _ _ _ (@B8 _ _ _ _ _ (by decide)) (@C6 _ _) (by exact B7 rfl)))) (by exact B7 rfl) (by exact D3 rfl) (by decide))) (@W3 _ _ _)) (by exact(PS.nox (@G8 _ _ _ _ _ _ _ _ _ (@Y0 _ _ _ _ (@X9 _ _ _ _ _ _ _ _ (@L9 _ _ _ _ _ (@K9 _ _ _ _ (@E6 _ _ _ _ _ _ _ _ _ _ _ (by exact hW) (by exact(hr.mono (show 2≤6 by decide))) (by exact rfl) (@C3 _ _ _ _ _ _ (@B3 _ _ _ _ _ (pv 1)) (@C3 _ _ _ _ _ _ (@D2 _ _ _ _ _) (@D0 _ _) (by exact B7 rfl)) (by exact B7 rfl)) (by decide) (by exact B7 rfl) (by exact D3 rfl)) (by intro _;rfl))) (@X8 _ _ _ _ _ (@L4 _ _ _ _ _ _ _ _ _ _ (by exact(LC hr.units)) (by exact Fq) (@B3 _ _ _ _ _ (pv 1)) (@E5 _ _ _ _ (@R3 _ _ _ _ _ _ _ _ _ _ _ (by exact g9) (by exact(hr.mono (show 2≤6 by decide))) (by exact rfl) (@C3 _ _ _ _ _ _ (@B3 _ _ _ _ _ (pv 2)) (@D0 _ _) (by exact B7 rfl)) (by decide) (by exact B7 rfl) (by exact D3 rfl))) (by with_unfolding_all rfl))))) (@D4 _ _ _ _ (@P5 _ _ _)) (@G0 _ _)))) (@J6 _ _ _ _ _ (@N2 _ _ _ _)))))
theorem MP:b0 ["side","places"] ["side"] (D5 Gm):=F1
theorem Xc:(["-0","places","row","column"]:List Str).Nodup:=by rfl'
def Xd:Mo Fl:=(D1 (F2 1 (mF (Cp (B4 (C7 AY (A0 0) (mC (.int 1))) C5)))) (E4 (iP BZ (B4 (mF (W8 (J8 (A0 1)) [false,true] 2 (gN 2) K5 (qI (J8 (A0 1)) (gN 3) K5 (Q1 (iP FL (B4 (A0 2) (B4 (A0 3) C5))))))) C5))))
def EA:Fn:=iO 2 Xd
theorem Xe{f:Addr}{fd:FuncData}(F:fT K "lowest_total" "lowest_total" Gm f fd)(T:Txt K mg):c8 P w K mg base gA 1 f fd ["side"] (gU K 1 EA):=
 F9 F MP fun cdv A outer s H E hr=>(by have n0:=Xc;have n1:=MP.nd;cases T;injections v Kf B5 b E C J2;exists (CF rfl);injections V;exists (CH (N':=["-0","places","row","column"]) (keep:=[false,true]) (more:=2) ?_ ?_ ?_ ?_ ?_ ?_ ?_);injections Aa DK Aa Bd J2;exists (IV rfl);injections B5 B3 K C6)
theorem MQ:b0 ["table"] ["table"] (D5 Dm):=F1
theorem Xf:(["-0","row"]:List Str).Nodup:=by rfl'
def Xg:Mo Fl:=(D1 (U8 (gJ 1 N7 (C1 (A0 0) C9))) (E4 (C7 AI (gJ 1 EA (C1 (iP N0 (B4 (A0 0) C5)) C9)) (iP BZ (B4 (mF (K4 (J8 (gJ 1 T8 (C1 (A0 0) C9))) [false] 1 (gN 1) K5 (iP BZ (B4 (A0 1) C5)))) C5)))))
def CP:Fn:=iO 1 Xg
theorem Xh{f:Addr}{fd:FuncData}(F:fT K "steps_from_lowest" "steps_from_lowest" Dm f fd)(T:Txt K mg)(c6:Def P w K mg base "must_be_table" 6 1 N7)(gW:Def P w K mg base "lowest_total" 1 1 EA)(f7:Def P w K mg base "summed" 4 1 T8):c8 P w K mg base gA 7 f fd ["table"] (gU K 1 CP):=
 F9 F MQ fun cdv A outer s H E hr=>(by have n0:=Xf;cases T;injections Ab H C M9 i f D0 J2;exists (CF rfl);injections V;exists (N6 (N':=["-0","row"]) (keep:=[false]) (more:=1) ?_ ?_ ?_ ?_ ?_ ?_ ?_);injections K3 H L J2;exists (CF rfl);injections K C6)
def Xi:Mx:=(J9 (N5 1 V2 (C1 (A0 0) C9)) (U8 (gJ 1 N7 (C1 (A0 0) C9))) j8)
def HW:List W->Option Str:=lF 1 Xi
theorem Xj{f:Addr}{fd:FuncData}(F:fT K "steps_from_lowest" "steps_from_lowest" Dm f fd)(T:Txt K mg)(c6:Def P w K mg base "must_be_table" 6 1 N7)(gW:Def P w K mg base "lowest_total" 1 1 EA)(f7:Def P w K mg base "summed" 4 1 T8)(d8:gQ P w K mg base "must_be_table" 6 1 V2):c8 P w K mg base (iA P w) 7 f fd ["table"] (j2 K 1 HW):=
 N3 F MQ fun cdv A outer s H E hr=>(by cases T;injections Ac P F l H u)
theorem Xk:b0 ["thing"] ["thing"] (D5 Gn):=F1
def Xl:Mo Fl:=(E4 (T1 (nW "str" (A0 0)) (AA [("stay","stayed"),("left","turned_left"),("half","turned_half"),("right","turned_right"),("upright","told_upright"),("flat","told_flat"),("slant","told_slant"),("other","told_other")] (A0 0))))
def HX:Fn:=iO 1 Xl
theorem Xm{f:Addr}{fd:FuncData}(F:fT K "is_turn" "is_turn" Gn f fd)(T:Txt K mg)(lT:mO P w K mg "TURNS" [("stay","stayed"),("left","turned_left"),("half","turned_half"),("right","turned_right"),("upright","told_upright"),("flat","told_flat"),("slant","told_slant"),("other","told_other")]):c8 P w K mg base gA 1 f fd ["thing"] (gU K 1 HX):=
 F9 F Xk fun cdv A outer s H E hr=>(by cases T;injections C Y2 a Y1 LX B3)
theorem Xn:b0 ["word"] ["word"] (D5 Go):=F1
theorem Xo:(["-0","sign"]:List Str).Nodup:=by rfl'
def Xp:Mo Fl:=(E4 (T1 (BN qE qE (mC (.int 1)) (iP Fz (B4 (A0 0) C5)) (mC (.int 8))) (iP V9 (B4 (mF (K4 (DP (A0 0)) [false] 1 (gN 1) K5 (C7 DV (A0 1) (mC (.str "abcdefghijklmnopqrstuvwxyz"))))) C5))))
def HY:Fn:=iO 1 Xp
theorem Xq{f:Addr}{fd:FuncData}(F:fT K "is_name" "is_name" Go f fd)(T:Txt K mg):c8 P w K mg base gA 1 f fd ["word"] (gU K 1 HY):=
 F9 F Xn fun cdv A outer s H E hr=>(@D4 _ _ _ _ (@E7 _ _ _ _ _ (@Y2 _ _ _ _ _ _ _ _ (@QV _ _ _ _ _ _ _ _ _ _ _ _ _ _ _ (by exact EV) (by exact EV) (by exact Ep) (by exact Ep) (@D2 _ _ _ _ _) (@J2 _ _ _ _ _ _ _ _ _ _ _ (by exact Iz) (by exact LS) (by exact rfl) (by exact T.g_len) (by exact Vj) (@B5 _ _ _ _ _ _ (@B3 _ _ _ _ _ (pv 0)) (@C6 _ _) (by exact B7 rfl)) (by decide) (by decide) (by exact B7 rfl) (by exact D3 rfl)) (@FR _ _ _ _ _ (by exact rfl) (by exact T.c_LONGEST_NAME) (by decide)) (by with_unfolding_all rfl)) (@Y1 _ _ _ _ _ _ (@J2 _ _ _ _ _ _ _ _ _ _ _ (by exact(Y7 rfl)) (by exact FK) (by exact rfl) (by exact T.g_all) (by exact FW) (@B5 _ _ _ _ _ _ (@E5 _ _ _ _ (@N6 _ _ ["-0","sign"] _ [false] 1 _ _ _ _ _ _ _ _ _ (by exact(W2 rfl rfl)) (by exact rfl) (@DQ _ _ _ _ _ (@B3 _ _ _ _ _ (pv 0))) (fun s H fp=>(@E9 _ _ _ _ 1 _ (by exact(show 1≤1 by decide)) (by exact Xo) (by exact rfl) (by first|exact Or.inl rfl|exact Or.inr rfl) (by first|exact .inl rfl|exact .inr rfl|assumption))) (fun s H fp=>(@K6 _ _)) (fun s H fp=>(@R8 _ _ _ _ _ _ _ _ _ _ (by exact IT) (by exact Ls) (@B3 _ _ _ _ _ (pv 1)) (by exact(Lr rfl T.c_LETTERS (by decide))) (by with_unfolding_all rfl))) (by intro _;rfl))) (@C6 _ _) (by exact B7 rfl)) (by decide) (by decide) (by exact B7 rfl) (by exact D3 rfl))))))
theorem Xr:b0 ["word"] ["word"] (D5 Gp):=F1
def Xs:Mo Fl:=(E4 (T1 (C7 (jM false) (iP Fz (B4 (A0 0) C5)) (mC (.int 1))) (C7 DV (A0 0) (mC (.str "0123456789")))))
def HZ:Fn:=iO 1 Xs
theorem Xu{f:Addr}{fd:FuncData}(F:fT K "is_figure" "is_figure" Gp f fd)(T:Txt K mg):c8 P w K mg base gA 1 f fd ["word"] (gU K 1 HZ):=
 F9 F Xr fun cdv A outer s H E hr=>(@D4 _ _ _ _ (@E7 _ _ _ _ _ (@Y2 _ _ _ _ _ _ _ _ (@R8 _ _ _ _ _ _ _ _ _ _ (by exact(gY hr.units)) (by exact gO) (@J2 _ _ _ _ _ _ _ _ _ _ _ (by exact Iz) (by exact LS) (by exact rfl) (by exact T.g_len) (by exact Vj) (@B5 _ _ _ _ _ _ (@B3 _ _ _ _ _ (pv 0)) (@C6 _ _) (by exact B7 rfl)) (by decide) (by decide) (by exact B7 rfl) (by exact D3 rfl)) (@D2 _ _ _ _ _) (by exact(gK _))) (@Y1 _ _ _ _ _ _ (@R8 _ _ _ _ _ _ _ _ _ _ (by exact IT) (by exact Ls) (@B3 _ _ _ _ _ (pv 0)) (by exact(Lr rfl T.c_FIGURES (by decide))) (by with_unfolding_all rfl))))))
theorem Xv:b0 ["word","part"] ["word","part"] (D5 Gq):=F1
def Xw:Mo Fl:=(D1 (F5 (mT (C7 (jM false) (A0 1) (mC (.str "text")))) (E4 (gJ 1 AB (C1 (A0 0) C9))) i7) (D1 (F5 (mT (C7 (jM false) (A0 1) (mC (.str "turn")))) (E4 (gJ 1 HX (C1 (A0 0) C9))) i7) (D1 (F5 (mT (C7 (jM false) (A0 1) (mC (.str "figure")))) (E4 (gJ 1 HZ (C1 (A0 0) C9))) i7) (E4 (gJ 1 HY (C1 (A0 0) C9))))))
def Ha:Fn:=iO 2 Xw
theorem Xx{f:Addr}{fd:FuncData}(F:fT K "is_part" "is_part" Gq f fd)(T:Txt K mg)(kK:Def P w K mg base "is_name" 1 1 HY)(g0:Def P w K mg base "is_note" 6 1 AB)(kL:Def P w K mg base "is_turn" 1 1 HX)(jI:Def P w K mg base "is_figure" 1 1 HZ):c8 P w K mg base gA 7 f fd ["word","part"] (gU K 2 Ha):=
 F9 F Xv fun cdv A outer s H E hr=>(@D8 _ _ _ _ _ _ (@G8 _ _ _ _ _ _ _ _ _ (@L4 _ _ _ _ _ _ _ _ _ _ (by exact(gY hr.units)) (by exact gO) (@B3 _ _ _ _ _ (pv 1)) (@B8 _ _ _ _ _ (by decide)) (by exact(gK _))) (@D4 _ _ _ _ (@E7 _ _ _ _ _ (@E6 _ _ _ _ _ _ _ _ _ _ _ (by exact g0) (by exact(hr.mono (show 6≤6 by decide))) (by exact rfl) (@C3 _ _ _ _ _ _ (@B3 _ _ _ _ _ (pv 0)) (@D0 _ _) (by exact B7 rfl)) (by decide) (by exact B7 rfl) (by exact D3 rfl)))) (@G0 _ _)) (@D8 _ _ _ _ _ _ (@G8 _ _ _ _ _ _ _ _ _ (@L4 _ _ _ _ _ _ _ _ _ _ (by exact(gY hr.units)) (by exact gO) (@B3 _ _ _ _ _ (pv 1)) (@B8 _ _ _ _ _ (by decide)) (by exact(gK _))) (@D4 _ _ _ _ (@E7 _ _ _ _ _ (@E6 _ _ _ _ _ _ _ _ _ _ _ (by exact kL) (by exact(hr.mono (show 1≤6 by decide))) (by exact rfl) (@C3 _ _ _ _ _ _ (@B3 _ _ _ _ _ (pv 0)) (@D0 _ _) (by exact B7 rfl)) (by decide) (by exact B7 rfl) (by exact D3 rfl)))) (@G0 _ _)) (@D8 _ _ _ _ _ _ (@G8 _ _ _ _ _ _ _ _ _ (@L4 _ _ _ _ _ _ _ _ _ _ (by exact(gY hr.units)) (by exact gO) (@B3 _ _ _ _ _ (pv 1)) (@B8 _ _ _ _ _ (by decide)) (by exact(gK _))) (@D4 _ _ _ _ (@E7 _ _ _ _ _ (@E6 _ _ _ _ _ _ _ _ _ _ _ (by exact jI) (by exact(hr.mono (show 1≤6 by decide))) (by exact rfl) (@C3 _ _ _ _ _ _ (@B3 _ _ _ _ _ (pv 0)) (@D0 _ _) (by exact B7 rfl)) (by decide) (by exact B7 rfl) (by exact D3 rfl)))) (@G0 _ _)) (@D4 _ _ _ _ (@E7 _ _ _ _ _ (@E6 _ _ _ _ _ _ _ _ _ _ _ (by exact kK) (by exact(hr.mono (show 1≤6 by decide))) (by exact rfl) (@C3 _ _ _ _ _ _ (@B3 _ _ _ _ _ (pv 0)) (@D0 _ _) (by exact B7 rfl)) (by decide) (by exact B7 rfl) (by exact D3 rfl)))))))
theorem MR:b0 ["words","parts"] ["words"] (D5 Gr):=F1
theorem MS:(["-0","-1","word","part"]:List Str).Nodup:=by rfl'
def Xy:Mo Fl:=(D1 (F5 (mT (GO [("table",["new","text"]),("turn",["old","turn","new"]),("up",["old","figure","figure","new"]),("join",["old","old","new"]),("meet",["old","old","new"]),("kept",[]),("show",["old"]),("number",["old"]),("minus",["old"]),("pairs",["old"]),("steps",["old"]),("below",["old","old"])] (C7 iR (A0 0) (mC (.int 0))))) (E4 (mC (.bl false))) i7) (D1 (F2 1 (GN [("table",["new","text"]),("turn",["old","turn","new"]),("up",["old","figure","figure","new"]),("join",["old","old","new"]),("meet",["old","old","new"]),("kept",[]),("show",["old"]),("number",["old"]),("minus",["old"]),("pairs",["old"]),("steps",["old"]),("below",["old","old"])] (C7 iR (A0 0) (mC (.int 0))))) (D1 (F5 (mT (C7 (jM true) (iP N0 (B4 (A0 0) C5)) (C7 AY (iP N0 (B4 (A0 1) C5)) (mC (.int 1))))) (E4 (mC (.bl false))) i7) (E4 (iP V9 (B4 (mF (K4 (BY (B4 (Z7 (A0 0) (Y9 (mC (.int 1))) Y8) (B4 (A0 1) C5))) [false,false] 2 (gT 2 (kO (gN 2) (kO (gN 3) m7))) K5 (gJ 2 Ha (C1 (A0 2) (C1 (A0 3) C9))))) C5))))))
def Bn:Fn:=iO 2 Xy
theorem Xz{f:Addr}{fd:FuncData}(F:fT K "is_line" "is_line" Gr f fd)(T:Txt K mg)(kM:Def P w K mg base "is_part" 7 2 Ha)(jD:pL P w K mg "LINES" [("table",["new","text"]),("turn",["old","turn","new"]),("up",["old","figure","figure","new"]),("join",["old","old","new"]),("meet",["old","old","new"]),("kept",[]),("show",["old"]),("number",["old"]),("minus",["old"]),("pairs",["old"]),("steps",["old"]),("below",["old","old"])]):c8 P w K mg base gA 8 f fd ["words"] (gU K 1 Bn):=
 F9 F MR fun cdv A outer s H E hr=>(@D8 _ _ _ _ _ _ (@G8 _ _ _ _ _ _ _ _ _ (by exact(VM jD rfl (@F6 _ _ _ _ _ _ _ (@B3 _ _ _ _ _ (pv 0)) (@D2 _ _ _ _ _) (fun _ _=>rfl)) (by with_unfolding_all rfl))) (@D4 _ _ _ _ (@E7 _ _ _ _ _ (@Q5 _ _ _ _ _))) (@G0 _ _)) (@D8 _ _ _ _ _ _ (@G9 _ _ _ _ _ 1 _ _ (by exact MR.nd) (by exact rfl) (by first|exact Or.inl rfl|exact Or.inr rfl) (by exact(Lq jD rfl (@F6 _ _ _ _ _ _ _ (@B3 _ _ _ _ _ (pv 0)) (@D2 _ _ _ _ _) (fun _ _=>rfl)) (fun _ _=>rfl))) (by rfl) (by first|exact .inl rfl|exact .inr rfl|assumption)) (@D8 _ _ _ _ _ _ (@G8 _ _ _ _ _ _ _ _ _ (@L4 _ _ _ _ _ _ _ _ _ _ (by exact(kJ hr.units)) (by exact gO) (@J2 _ _ _ _ _ _ _ _ _ _ _ (by exact M5) (by exact Ex) (by exact rfl) (by exact T.g_len) (by exact Vj) (@B5 _ _ _ _ _ _ (@B3 _ _ _ _ _ (pv 0)) (@C6 _ _) (by exact B7 rfl)) (by decide) (by decide) (by exact B7 rfl) (by exact D3 rfl)) (@M9 _ _ _ _ _ _ _ _ _ _ (by exact KJ) (by exact KL) (@J2 _ _ _ _ _ _ _ _ _ _ _ (by exact M5) (by exact Ex) (by exact rfl) (by exact T.g_len) (by exact Vj) (@B5 _ _ _ _ _ _ (@B3 _ _ _ _ _ (pv 1)) (@C6 _ _) (by exact B7 rfl)) (by decide) (by decide) (by exact B7 rfl) (by exact D3 rfl)) (@D2 _ _ _ _ _)) (by exact(gK _))) (@D4 _ _ _ _ (@E7 _ _ _ _ _ (@Q5 _ _ _ _ _))) (@G0 _ _)) (@D4 _ _ _ _ (@E7 _ _ _ _ _ (@J2 _ _ _ _ _ _ _ _ _ _ _ (by exact(Y7 rfl)) (by exact FK) (by exact rfl) (by exact T.g_all) (by exact FW) (@B5 _ _ _ _ _ _ (@E5 _ _ _ _ (@N6 _ _ ["-0","-1","word","part"] _ [false,false] 2 _ _ _ _ _ _ _ _ _ (by exact(W2 rfl rfl)) (by exact rfl) (@DD _ _ _ _ _ _ _ _ _ _ (by exact rfl) (by exact T.g_zip) (@B5 _ _ _ _ _ _ (@Ft _ _ _ _ _ _ _ _ _ _ (@B3 _ _ _ _ _ (pv 0)) (@FP _ _ _ _ (@D2 _ _ _ _ _)) (@FO _ _)) (@B5 _ _ _ _ _ _ (@B3 _ _ _ _ _ (pv 1)) (@C6 _ _) (by exact B7 rfl)) (by exact B7 rfl)) (by exact r9 rfl rfl) (by exact pE rfl)) (fun s H fp=>(@R1 _ _ _ _ _ _ _ _ (by exact rfl) (@K2 _ _ _ _ _ _ _ (@E9 _ _ _ _ 2 _ (by exact(show 2≤2 by decide)) (by exact MS) (by exact rfl) (by first|exact Or.inl rfl|exact Or.inr rfl) (by first|exact .inl rfl|exact .inr rfl|assumption)) (@K2 _ _ _ _ _ _ _ (@E9 _ _ _ _ 3 _ (by exact(show 2≤3 by decide)) (by exact MS) (by exact rfl) (by first|exact Or.inl rfl|exact Or.inr rfl) (by first|exact .inl rfl|exact .inr rfl|assumption)) (@R0 _ _ _) (by rfl)) (by rfl)) (by rfl) (by rfl))) (fun s H fp=>(@K6 _ _)) (fun s H fp=>(@E6 _ _ _ _ _ _ _ _ _ _ _ (by exact kM) (by exact(hr.mono (show 7≤7 by decide))) (by exact rfl) (@C3 _ _ _ _ _ _ (@B3 _ _ _ _ _ (pv 2)) (@C3 _ _ _ _ _ _ (@B3 _ _ _ _ _ (pv 3)) (@D0 _ _) (by exact B7 rfl)) (by exact B7 rfl)) (by decide) (by exact B7 rfl) (by exact D3 rfl))) (by intro _;rfl))) (@C6 _ _) (by exact B7 rfl)) (by decide) (by decide) (by exact B7 rfl) (by exact D3 rfl)))))))
theorem EB:b0 ["line","words"] ["line"] (D5 Dn):=F1
def YA:Mo Fl:=(D1 (F5 (L5 (mT (nW "str" (A0 0)))) P4 i7) (D1 (F2 1 (mF (DM (A0 0) (mC (.str " "))))) (D1 (F5 (L5 (mT (gJ 1 Bn (C1 (A0 1) C9)))) P4 i7) (E4 (A0 1)))))
def Am:Fn:=iO 2 YA
theorem YB{f:Addr}{fd:FuncData}(F:fT K "words_of" "words_of" Dn f fd)(T:Txt K mg)(jO:Def P w K mg base "is_line" 8 1 Bn):c8 P w K mg base gA 9 f fd ["line"] (gU K 1 Am):=
 F9 F EB fun cdv A outer s H E hr=>(by have n0:=EB.nd;cases T;injections Y J a w v DO B3 B8 Y J H c h B3)
def YC:Mx:=(J9 (oJ (L5 (mT (nW "str" (A0 0)))) (Z4 "BadNote" (B4 (mC (.str "a line is a text")) C5)) j8) (F5 (L5 (mT (nW "str" (A0 0)))) P4 i7) (J9 j8 (F2 1 (mF (DM (A0 0) (mC (.str " "))))) (J9 (oJ (L5 (mT (gJ 1 Bn (C1 (A0 1) C9)))) (Z4 "BadNote" (B4 (mC (.str "this is no line that a desk takes")) C5)) j8) (F5 (L5 (mT (gJ 1 Bn (C1 (A0 1) C9)))) P4 i7) j8)))
def Hb:List W->Option Str:=lF 2 YC
theorem YD{f:Addr}{fd:FuncData}(F:fT K "words_of" "words_of" Dn f fd)(T:Txt K mg)(jO:Def P w K mg base "is_line" 8 1 Bn):c8 P w K mg base (iA P w) 9 f fd ["line"] (j2 K 1 Hb):=
 N3 F EB fun cdv A outer s H E hr=>(by have n0:=EB.nd;cases T;injections K0 d J a J6 e k m G8 J a w K0 N2 PS.nox G9 E5 DO B3 B8 K0 d J H J6 e k m G8 J H w u)
theorem YE:b0 ["words","parts"] ["words","parts"] (D5 Gs):=F1
theorem MT:(["-0","parts","word","part"]:List Str).Nodup:=by rfl'
def YF:Mo Fl:=(Ck (K4 (BY (B4 (Z7 (A0 0) (Y9 (mC (.int 1))) Y8) (B4 (GN [("table",["new","text"]),("turn",["old","turn","new"]),("up",["old","figure","figure","new"]),("join",["old","old","new"]),("meet",["old","old","new"]),("kept",[]),("show",["old"]),("number",["old"]),("minus",["old"]),("pairs",["old"]),("steps",["old"]),("below",["old","old"])] (C7 iR (A0 0) (mC (.int 0)))) C5))) [false,true] 2 (gT 2 (kO (gN 2) (kO (gN 3) m7))) (mT (C7 (DL false) (A0 3) (A0 1))) (A0 2)))
def R5:Fn:=iO 2 YF
theorem YG{f:Addr}{fd:FuncData}(F:fT K "words_as" "words_as" Gs f fd)(T:Txt K mg)(jD:pL P w K mg "LINES" [("table",["new","text"]),("turn",["old","turn","new"]),("up",["old","figure","figure","new"]),("join",["old","old","new"]),("meet",["old","old","new"]),("kept",[]),("show",["old"]),("number",["old"]),("minus",["old"]),("pairs",["old"]),("steps",["old"]),("below",["old","old"])]):c8 P w K mg base gA 1 f fd ["words","parts"] (gU K 2 R5):=
 F9 F YE fun cdv A outer s H E hr=>(@D4 _ _ _ _ (@Cm _ _ _ _ _ (@N6 _ _ ["-0","parts","word","part"] _ [false,true] 2 _ _ _ _ _ _ _ _ _ (by exact(W2 rfl rfl)) (by exact rfl) (@DD _ _ _ _ _ _ _ _ _ _ (by exact rfl) (by exact T.g_zip) (@B5 _ _ _ _ _ _ (@Ft _ _ _ _ _ _ _ _ _ _ (@B3 _ _ _ _ _ (pv 0)) (@FP _ _ _ _ (@D2 _ _ _ _ _)) (@FO _ _)) (@B5 _ _ _ _ _ _ (by exact(Lq jD rfl (@F6 _ _ _ _ _ _ _ (@B3 _ _ _ _ _ (pv 0)) (@D2 _ _ _ _ _) (fun _ _=>rfl)) (fun _ _=>rfl))) (@C6 _ _) (by exact B7 rfl)) (by exact B7 rfl)) (by exact r9 rfl rfl) (by exact pE rfl)) (fun s H fp=>(@R1 _ _ _ _ _ _ _ _ (by exact rfl) (@K2 _ _ _ _ _ _ _ (@E9 _ _ _ _ 2 _ (by exact(show 2≤2 by decide)) (by exact MT) (by exact rfl) (by first|exact Or.inl rfl|exact Or.inr rfl) (by first|exact .inl rfl|exact .inr rfl|assumption)) (@K2 _ _ _ _ _ _ _ (@E9 _ _ _ _ 3 _ (by exact(show 2≤3 by decide)) (by exact MT) (by exact rfl) (by first|exact Or.inl rfl|exact Or.inr rfl) (by first|exact .inl rfl|exact .inr rfl|assumption)) (@R0 _ _ _) (by rfl)) (by rfl)) (by rfl) (by rfl))) (fun s H fp=>(@FJ _ _ _ _ (@L4 _ _ _ _ _ _ _ _ _ _ (by exact(UC hr.units)) (by exact Fq) (@B3 _ _ _ _ _ (pv 3)) (@B3 _ _ _ _ _ (pv 1)) (by with_unfolding_all rfl)))) (fun s H fp=>(@B3 _ _ _ _ _ (pv 2))) (by intro _;rfl))))
theorem MU:b0 ["tables","words"] ["tables","words"] (D5 Dp):=F1
def YH:Mo Fl:=(E4 (gJ 1 Dy (C1 (C7 iR (A0 1) (mC (.int 0))) C9)))
def Ao:Fn:=iO 2 YH
theorem YI{f:Addr}{fd:FuncData}(F:fT K "read_table" "read_table" Dp f fd)(T:Txt K mg)(iD:Def P w K mg base "table_read" 7 1 Dy):c8 P w K mg base gA 8 f fd ["tables","words"] (gU K 2 Ao):=
 F9 F MU fun cdv A outer s H E hr=>(by cases T;injections C i M q)
def YJ:Mx:=(N5 1 HJ (C1 (C7 iR (A0 1) (mC (.int 0))) C9))
def Hd:List W->Option Str:=lF 2 YJ
theorem YK{f:Addr}{fd:FuncData}(F:fT K "read_table" "read_table" Dp f fd)(T:Txt K mg)(iD:Def P w K mg base "table_read" 7 1 Dy)(jU:gQ P w K mg base "table_read" 7 1 HJ):c8 P w K mg base (iA P w) 8 f fd ["tables","words"] (j2 K 2 Hd):=
 N3 F MU fun cdv A outer s H E hr=>(by cases T;injections Ad P x q)
def Ap:Fn:=fun _=>none
theorem YL{f:Addr}{fd:FuncData}(F:fT K "turn_table" "turn_table" Gu f fd)(T:Txt K mg):c8 P w K mg base gA 1 f fd ["tables","words"] (gU K 2 Ap):=S2
def He:List W->Option Str:=fun _=>none
theorem YM{f:Addr}{fd:FuncData}(F:fT K "turn_table" "turn_table" Gu f fd)(T:Txt K mg):c8 P w K mg base (iA P w) 1 f fd ["tables","words"] (j2 K 2 He):=Da
theorem YN:b0 ["tables","words"] ["tables","words"] (D5 Dq):=F1
def Aq:Fn:=fun _=>none
theorem YO{f:Addr}{fd:FuncData}(F:fT K "step_table" "step_table" Dq f fd)(T:Txt K mg)(jP:Def P w K mg base "stepped" 7 2 HU):c8 P w K mg base gA 8 f fd ["tables","words"] (gU K 2 Aq):=S2
def YQ:Mx:=(N5 2 HV (C1 (C7 iR (A0 0) (mC (.int 0))) (C1 (F3 (B4 (iP DW (B4 (C7 iR (A0 1) (mC (.int 0))) C5)) (B4 (iP DW (B4 (C7 iR (A0 1) (mC (.int 1))) C5)) C5))) C9)))
def Hf:List W->Option Str:=lF 2 YQ
theorem YR{f:Addr}{fd:FuncData}(F:fT K "step_table" "step_table" Dq f fd)(T:Txt K mg)(jP:Def P w K mg base "stepped" 7 2 HU)(j3:gQ P w K mg base "stepped" 7 2 HV):c8 P w K mg base (iA P w) 8 f fd ["tables","words"] (j2 K 2 Hf):=
 N3 F YN fun cdv A outer s H E hr=>(@J6 _ _ _ _ _ (@W5 _ _ _ _ _ _ (@O1 _ _ _ _ _ _ _ _ _ _ _ _ (by exact R4) (by exact j3) (by exact(hr.mono (show 7≤7 by decide))) (by exact rfl) (by exact(PA.nox (@C3 _ _ _ _ _ _ (@F6 _ _ _ _ _ _ _ (@B3 _ _ _ _ _ (pv 0)) (@D2 _ _ _ _ _) (fun _ _=>rfl)) (@C3 _ _ _ _ _ _ (@F4 _ _ _ _ _ _ (@B5 _ _ _ _ _ _ (@U3 _ _ _ _ _ _ _ _ _ _ _ (by exact Lu) (by exact Lv) (by exact rfl) (by exact T.g_int) (by exact FT) (@B5 _ _ _ _ _ _ (@F6 _ _ _ _ _ _ _ (@B3 _ _ _ _ _ (pv 1)) (@D2 _ _ _ _ _) (fun _ _=>rfl)) (@C6 _ _) (by exact B7 rfl)) (by decide) (by decide) (by exact B7 rfl) (by exact D3 rfl)) (@B5 _ _ _ _ _ _ (@U3 _ _ _ _ _ _ _ _ _ _ _ (by exact Lu) (by exact Lv) (by exact rfl) (by exact T.g_int) (by exact FT) (@B5 _ _ _ _ _ _ (@F6 _ _ _ _ _ _ _ (@B3 _ _ _ _ _ (pv 1)) (@D2 _ _ _ _ _) (fun _ _=>rfl)) (@C6 _ _) (by exact B7 rfl)) (by decide) (by decide) (by exact B7 rfl) (by exact D3 rfl)) (@C6 _ _) (by exact B7 rfl)) (by exact B7 rfl))) (@D0 _ _) (by exact B7 rfl)) (by exact B7 rfl)))) (by decide) (by exact B7 rfl) (by exact D3 rfl))))
theorem YS:b0 ["tables","words"] ["tables","words"] (D5 Dr):=F1
def As:Fn:=fun _=>none
theorem YT{f:Addr}{fd:FuncData}(F:fT K "join_tables" "join_tables" Dr f fd)(T:Txt K mg)(iE:Def P w K mg base "both_above" 8 2 HN):c8 P w K mg base gA 9 f fd ["tables","words"] (gU K 2 As):=S2
def YU:Mx:=(N5 2 HQ (C1 (C7 iR (A0 0) (mC (.int 0))) (C1 (C7 iR (A0 0) (mC (.int 1))) C9)))
def Hg:List W->Option Str:=lF 2 YU
theorem YV{f:Addr}{fd:FuncData}(F:fT K "join_tables" "join_tables" Dr f fd)(T:Txt K mg)(iE:Def P w K mg base "both_above" 8 2 HN)(jV:gQ P w K mg base "both_above" 8 2 HQ):c8 P w K mg base (iA P w) 9 f fd ["tables","words"] (j2 K 2 Hg):=
 N3 F YS fun cdv A outer s H E hr=>(by cases T;injections Ad P x D2 x q)
theorem YW:b0 ["tables","words"] ["tables","words"] (D5 Ds):=F1
def Au:Fn:=fun _=>none
theorem YX{f:Addr}{fd:FuncData}(F:fT K "meet_tables" "meet_tables" Ds f fd)(T:Txt K mg)(iF:Def P w K mg base "both_below" 8 2 HL):c8 P w K mg base gA 9 f fd ["tables","words"] (gU K 2 Au):=S2
def YY:Mx:=(N5 2 HM (C1 (C7 iR (A0 0) (mC (.int 0))) (C1 (C7 iR (A0 0) (mC (.int 1))) C9)))
def Hh:List W->Option Str:=lF 2 YY
theorem YZ{f:Addr}{fd:FuncData}(F:fT K "meet_tables" "meet_tables" Ds f fd)(T:Txt K mg)(iF:Def P w K mg base "both_below" 8 2 HL)(jW:gQ P w K mg base "both_below" 8 2 HM):c8 P w K mg base (iA P w) 9 f fd ["tables","words"] (j2 K 2 Hh):=
 N3 F YW fun cdv A outer s H E hr=>(by cases T;injections Ad P x D2 x q)
theorem MV:b0 ["tables"] ["tables"] (D5 Dt):=F1
def ZA:Mo Fl:=(E4 (gJ 1 Dx (C1 (C7 iR (A0 0) (mC (.int 0))) C9)))
def Av:Fn:=iO 1 ZA
theorem ZB{f:Addr}{fd:FuncData}(F:fT K "tell_text" "tell_text" Dt f fd)(T:Txt K mg)(iG:Def P w K mg base "table_text" 7 1 Dx):c8 P w K mg base gA 8 f fd ["tables"] (gU K 1 Av):=
 F9 F MV fun cdv A outer s H E hr=>(by cases T;injections C i M q)
def ZC:Mx:=(N5 1 HI (C1 (C7 iR (A0 0) (mC (.int 0))) C9))
def Hi:List W->Option Str:=lF 1 ZC
theorem ZD{f:Addr}{fd:FuncData}(F:fT K "tell_text" "tell_text" Dt f fd)(T:Txt K mg)(iG:Def P w K mg base "table_text" 7 1 Dx)(jX:gQ P w K mg base "table_text" 7 1 HI):c8 P w K mg base (iA P w) 8 f fd ["tables"] (j2 K 1 Hi):=
 N3 F MV fun cdv A outer s H E hr=>(by cases T;injections Ad P x q)
def Aw:Fn:=fun _=>none
theorem ZE{f:Addr}{fd:FuncData}(F:fT K "tell_number" "tell_number" Gv f fd)(T:Txt K mg):c8 P w K mg base gA 1 f fd ["tables"] (gU K 1 Aw):=S2
def Hj:List W->Option Str:=fun _=>none
theorem ZF{f:Addr}{fd:FuncData}(F:fT K "tell_number" "tell_number" Gv f fd)(T:Txt K mg):c8 P w K mg base (iA P w) 1 f fd ["tables"] (j2 K 1 Hj):=Da
def Ax:Fn:=fun _=>none
theorem ZG{f:Addr}{fd:FuncData}(F:fT K "tell_minus" "tell_minus" Gw f fd)(T:Txt K mg):c8 P w K mg base gA 1 f fd ["tables"] (gU K 1 Ax):=S2
def Hk:List W->Option Str:=fun _=>none
theorem ZH{f:Addr}{fd:FuncData}(F:fT K "tell_minus" "tell_minus" Gw f fd)(T:Txt K mg):c8 P w K mg base (iA P w) 1 f fd ["tables"] (j2 K 1 Hk):=Da
def Ay:Fn:=fun _=>none
theorem ZI{f:Addr}{fd:FuncData}(F:fT K "tell_pairs" "tell_pairs" Gx f fd)(T:Txt K mg):c8 P w K mg base gA 1 f fd ["tables"] (gU K 1 Ay):=S2
def Hl:List W->Option Str:=fun _=>none
theorem ZJ{f:Addr}{fd:FuncData}(F:fT K "tell_pairs" "tell_pairs" Gx f fd)(T:Txt K mg):c8 P w K mg base (iA P w) 1 f fd ["tables"] (j2 K 1 Hl):=Da
theorem MW:b0 ["tables"] ["tables"] (D5 Du):=F1
def ZK:Mo Fl:=(E4 (iP GP (B4 (gJ 1 CP (C1 (C7 iR (A0 0) (mC (.int 0))) C9)) C5)))
def Az:Fn:=iO 1 ZK
theorem ZL{f:Addr}{fd:FuncData}(F:fT K "tell_steps" "tell_steps" Du f fd)(T:Txt K mg)(eX:Def P w K mg base "steps_from_lowest" 7 1 CP):c8 P w K mg base gA 8 f fd ["tables"] (gU K 1 Az):=
 F9 F MW fun cdv A outer s H E hr=>(@D4 _ _ _ _ (@E7 _ _ _ _ _ (@U3 _ _ _ _ _ _ _ _ _ _ _ (by exact IW) (by exact VN) (by exact rfl) (by exact T.g_str) (by exact FU) (@B5 _ _ _ _ _ _ (@E6 _ _ _ _ _ _ _ _ _ _ _ (by exact eX) (by exact(hr.mono (show 7≤7 by decide))) (by exact rfl) (@C3 _ _ _ _ _ _ (@F6 _ _ _ _ _ _ _ (@B3 _ _ _ _ _ (pv 0)) (@D2 _ _ _ _ _) (fun _ _=>rfl)) (@D0 _ _) (by exact B7 rfl)) (by decide) (by exact B7 rfl) (by exact D3 rfl)) (@C6 _ _) (by exact B7 rfl)) (by decide) (by decide) (by exact B7 rfl) (by exact D3 rfl))))
def ZM:Mx:=(Fb (N5 1 HW (C1 (C7 iR (A0 0) (mC (.int 0))) C9)) (gJ 1 CP (C1 (C7 iR (A0 0) (mC (.int 0))) C9)) j8)
def Hm:List W->Option Str:=lF 1 ZM
theorem ZN{f:Addr}{fd:FuncData}(F:fT K "tell_steps" "tell_steps" Du f fd)(T:Txt K mg)(eX:Def P w K mg base "steps_from_lowest" 7 1 CP)(gH:gQ P w K mg base "steps_from_lowest" 7 1 HW):c8 P w K mg base (iA P w) 8 f fd ["tables"] (j2 K 1 Hm):=
 N3 F MW fun cdv A outer s H E hr=>(@J6 _ _ _ _ _ (@W5 _ _ _ _ _ _ (by exact(VT IW rfl T.g_str FU (@SR _ _ _ _ _ _ _ _ (@O1 _ _ _ _ _ _ _ _ _ _ _ _ (by exact R4) (by exact gH) (by exact(hr.mono (show 7≤7 by decide))) (by exact rfl) (by exact(PA.nox (@C3 _ _ _ _ _ _ (@F6 _ _ _ _ _ _ _ (@B3 _ _ _ _ _ (pv 0)) (@D2 _ _ _ _ _) (fun _ _=>rfl)) (@D0 _ _) (by exact B7 rfl)))) (by decide) (by exact B7 rfl) (by exact D3 rfl)) (by exact(PE.nox (@E6 _ _ _ _ _ _ _ _ _ _ _ (by exact eX) (by exact(hr.mono (show 7≤7 by decide))) (by exact rfl) (@C3 _ _ _ _ _ _ (@F6 _ _ _ _ _ _ _ (@B3 _ _ _ _ _ (pv 0)) (@D2 _ _ _ _ _) (fun _ _=>rfl)) (@D0 _ _) (by exact B7 rfl)) (by decide) (by exact B7 rfl) (by exact D3 rfl)))) (@SQ _ _ _ _) (by exact B7 rfl)) (he:=B7 rfl) (hpl:=D3 rfl)))))
theorem MX:b0 ["tables"] ["tables"] (D5 Dv):=F1
def ZO:Mo Fl:=(E4 (rW (mT (gJ 2 Dz (C1 (C7 iR (A0 0) (mC (.int 0))) (C1 (C7 iR (A0 0) (mC (.int 1))) C9)))) (mC (.str "yes")) (mC (.str "no"))))
def BA:Fn:=iO 1 ZO
theorem ZP{f:Addr}{fd:FuncData}(F:fT K "tell_below" "tell_below" Dv f fd)(T:Txt K mg)(iI:Def P w K mg base "is_below" 8 2 Dz):c8 P w K mg base gA 9 f fd ["tables"] (gU K 1 BA):=
 F9 F MX fun cdv A outer s H E hr=>(@D4 _ _ _ _ (@E7 _ _ _ _ _ (@QU _ _ _ _ _ _ _ _ _ (@K9 _ _ _ _ (@E6 _ _ _ _ _ _ _ _ _ _ _ (by exact iI) (by exact(hr.mono (show 8≤8 by decide))) (by exact rfl) (@C3 _ _ _ _ _ _ (@F6 _ _ _ _ _ _ _ (@B3 _ _ _ _ _ (pv 0)) (@D2 _ _ _ _ _) (fun _ _=>rfl)) (@C3 _ _ _ _ _ _ (@F6 _ _ _ _ _ _ _ (@B3 _ _ _ _ _ (pv 0)) (@D2 _ _ _ _ _) (fun _ _=>rfl)) (@D0 _ _) (by exact B7 rfl)) (by exact B7 rfl)) (by decide) (by exact B7 rfl) (by exact D3 rfl)) (by intro _;rfl)) (@B8 _ _ _ _ _ (by decide)) (@B8 _ _ _ _ _ (by decide)))))
def ZQ:Mx:=(N5 2 HK (C1 (C7 iR (A0 0) (mC (.int 0))) (C1 (C7 iR (A0 0) (mC (.int 1))) C9)))
def Hn:List W->Option Str:=lF 1 ZQ
theorem ZR{f:Addr}{fd:FuncData}(F:fT K "tell_below" "tell_below" Dv f fd)(T:Txt K mg)(iI:Def P w K mg base "is_below" 8 2 Dz)(jJ:gQ P w K mg base "is_below" 8 2 HK):c8 P w K mg base (iA P w) 9 f fd ["tables"] (j2 K 1 Hn):=
 N3 F MX fun cdv A outer s H E hr=>(@J6 _ _ _ _ _ (@W5 _ _ _ _ _ _ (by exact(VU (@O1 _ _ _ _ _ _ _ _ _ _ _ _ (by exact R4) (by exact jJ) (by exact(hr.mono (show 8≤8 by decide))) (by exact rfl) (by exact(PA.nox (@C3 _ _ _ _ _ _ (@F6 _ _ _ _ _ _ _ (@B3 _ _ _ _ _ (pv 0)) (@D2 _ _ _ _ _) (fun _ _=>rfl)) (@C3 _ _ _ _ _ _ (@F6 _ _ _ _ _ _ _ (@B3 _ _ _ _ _ (pv 0)) (@D2 _ _ _ _ _) (fun _ _=>rfl)) (@D0 _ _) (by exact B7 rfl)) (by exact B7 rfl)))) (by decide) (by exact B7 rfl) (by exact D3 rfl))))))
theorem MY:b0 ["self","name"] ["self","name"] (D5 Dw):=F1
def ZS:Mo Fl:=(D1 (F5 (mT (CI (A0 1) (A0 0))) P4 i7) (E4 (Lo (A0 0) (A0 1))))
def X0:Fn:=iO 2 ZS
theorem ZT{f:Addr}{fd:FuncData}(F:fT K "table_kept" "Desk.table_kept" Dw f fd)(T:Txt K mg):c8 P w K mg base gA 1 f fd ["self","name"] (gU K 2 X0):=
 F9 F MY fun cdv A outer s H E hr=>(@D8 _ _ _ _ _ _ (@G8 _ _ _ _ _ _ _ _ _ (by exact(GK (@B3 _ _ _ _ _ (pv 1)) (@B3 _ _ _ _ _ (pv 0)) (by with_unfolding_all rfl))) (@D4 _ _ _ _ (@P5 _ _ _)) (@G0 _ _)) (@D4 _ _ _ _ (@E7 _ _ _ _ _ (by exact(VJ (@B3 _ _ _ _ _ (pv 0)) (@B3 _ _ _ _ _ (pv 1)) (fun _ _=>rfl))))))
def ZU:Mx:=(J9 (oJ (mT (CI (A0 1) (A0 0))) (Z4 "NoTable" (B4 (mC (.str "no table is kept by that name")) C5)) j8) (F5 (mT (CI (A0 1) (A0 0))) P4 i7) j8)
def EC:List W->Option Str:=lF 2 ZU
theorem ZV{f:Addr}{fd:FuncData}(F:fT K "table_kept" "Desk.table_kept" Dw f fd)(T:Txt K mg):c8 P w K mg base (iA P w) 1 f fd ["self","name"] (j2 K 2 EC):=
 N3 F MY fun cdv A outer s H E hr=>(@K0 _ _ _ _ _ _ _ _ (@W4 _ _ _ _ _ _ _ _ _ _ (by exact(PT.nox (GK (@B3 _ _ _ _ _ (pv 1)) (@B3 _ _ _ _ _ (pv 0)) (by with_unfolding_all rfl)))) (@J6 _ _ _ _ _ (@Z5 _ _ _ _ _ _ _ _ _ _ (by exact R4) (by exact rfl) (by exact(Fk T.ex (by rfl'))) (by exact rfl) (by exact(PA.nox (@B5 _ _ _ _ _ _ (@B8 _ _ _ _ _ (by decide)) (@C6 _ _) (by exact B7 rfl)))) (by exact B7 rfl) (by exact D3 rfl) (by decide))) (@W3 _ _ _)) (by exact(PS.nox (@G8 _ _ _ _ _ _ _ _ _ (by exact(GK (@B3 _ _ _ _ _ (pv 1)) (@B3 _ _ _ _ _ (pv 0)) (by with_unfolding_all rfl))) (@D4 _ _ _ _ (@P5 _ _ _)) (@G0 _ _)))) (@J6 _ _ _ _ _ (@N2 _ _ _ _)))
theorem K7:b0 ["self","line","words","word","tables","make","made","tell"] ["self","line"] (D5 CK):=F1
theorem ZW:(["self","-1","-2","-3","-4","-5","-6","-7","name"]:List Str).Nodup:=by rfl'
def ZX:Mo Fl:=(D1 (F2 2 (gJ 1 Am (C1 (A0 1) C9))) (D1 (F2 3 (C7 iR (A0 2) (mC (.int 0)))) (D1 (F5 (mT (C7 (jM false) (A0 3) (mC (.str "kept")))) (E4 (C7 Ac (mC (.str " ")) (mF (DX (A0 0))))) i7) (D1 (M4 4 (K4 (J8 (mF (Q6 2 R5 (C1 (A0 2) (C1 (F3 (B4 (mC (.str "old")) C5)) C9))))) [true,false,false,false,false,false,false,false] 1 (gN 8) K5 (O2 X0 (A0 0) (A0 8)))) (D1 (F5 (mT (AA [("show","tell_text"),("number","tell_number"),("minus","tell_minus"),("pairs","tell_pairs"),("steps","tell_steps"),("below","tell_below")] (A0 3))) (D1 (F2 7 (Z9 [("show","tell_text"),("number","tell_number"),("minus","tell_minus"),("pairs","tell_pairs"),("steps","tell_steps"),("below","tell_below")] (A0 3))) (E4 (oX 1 7 [("tell_text",Av),("tell_number",Aw),("tell_minus",Ax),("tell_pairs",Ay),("tell_steps",Az),("tell_below",BA)] (C1 (A0 4) C9)))) i7) (D1 (F2 5 (Z9 [("table","read_table"),("turn","turn_table"),("up","step_table"),("join","join_tables"),("meet","meet_tables")] (A0 3))) (D1 (F2 6 (oX 2 5 [("read_table",Ao),("turn_table",Ap),("step_table",Aq),("join_tables",As),("meet_tables",Au)] (C1 (A0 4) (C1 (mF (Q6 2 R5 (C1 (A0 2) (C1 (F3 (B4 (mC (.str "text")) (B4 (mC (.str "turn")) (B4 (mC (.str "figure")) C5)))) C9)))) C9)))) (D1 P4 (E4 (mC (.str "ok")))))))))))
def Q2:Fn:=iO 8 ZX
theorem ZY{f:Addr}{fd:FuncData}(F:fT K "say" "Desk.say" CK f fd)(T:Txt K mg)(gE:Def P w K mg base "words_of" 9 1 Am)(eU:Def P w K mg base "words_as" 1 2 R5)(fC:mS P w K mg base "table_kept" 1 X0)(fK:Def P w K mg base "read_table" 8 2 Ao)(fL:Def P w K mg base "turn_table" 1 2 Ap)(fM:Def P w K mg base "step_table" 8 2 Aq)(fD:Def P w K mg base "join_tables" 9 2 As)(fE:Def P w K mg base "meet_tables" 9 2 Au)(fY:Def P w K mg base "tell_text" 8 1 Av)(fF:Def P w K mg base "tell_number" 1 1 Aw)(fN:Def P w K mg base "tell_minus" 1 1 Ax)(fO:Def P w K mg base "tell_pairs" 1 1 Ay)(fP:Def P w K mg base "tell_steps" 8 1 Az)(fQ:Def P w K mg base "tell_below" 9 1 BA)(gX:mO P w K mg "MAKING" [("table","read_table"),("turn","turn_table"),("up","step_table"),("join","join_tables"),("meet","meet_tables")])(fG:mO P w K mg "TELLING" [("show","tell_text"),("number","tell_number"),("minus","tell_minus"),("pairs","tell_pairs"),("steps","tell_steps"),("below","tell_below")]):c8 P w K mg base gA 10 f fd ["self","line"] (gU K 2 Q2):=
 F9 F K7 fun cdv A outer s H E hr=>(@D8 _ _ _ _ _ _ (@G9 _ _ _ _ _ 2 _ _ (by exact K7.nd) (by exact rfl) (by first|exact Or.inl rfl|exact Or.inr rfl) (@E6 _ _ _ _ _ _ _ _ _ _ _ (by exact gE) (by exact(hr.mono (show 9≤9 by decide))) (by exact rfl) (@C3 _ _ _ _ _ _ (@B3 _ _ _ _ _ (pv 1)) (@D0 _ _) (by exact B7 rfl)) (by decide) (by exact B7 rfl) (by exact D3 rfl)) (by rfl) (by first|exact .inl rfl|exact .inr rfl|assumption)) (@D8 _ _ _ _ _ _ (@G9 _ _ _ _ _ 3 _ _ (by exact K7.nd) (by exact rfl) (by first|exact Or.inl rfl|exact Or.inr rfl) (@F6 _ _ _ _ _ _ _ (@B3 _ _ _ _ _ (pv 2)) (@D2 _ _ _ _ _) (fun _ _=>rfl)) (by rfl) (by first|exact .inl rfl|exact .inr rfl|assumption)) (@D8 _ _ _ _ _ _ (@G8 _ _ _ _ _ _ _ _ _ (@L4 _ _ _ _ _ _ _ _ _ _ (by exact(gY hr.units)) (by exact gO) (@B3 _ _ _ _ _ (pv 3)) (@B8 _ _ _ _ _ (by decide)) (by exact(gK _))) (@D4 _ _ _ _ (@E7 _ _ _ _ _ (@Bg _ _ _ _ _ _ _ _ (@B8 _ _ _ _ _ (by decide)) (@E5 _ _ _ _ (by exact(GR rfl (@B3 _ _ _ _ _ (pv 0)) rfl T.g_sorted (he1:=pE rfl) (hpl:=D3 rfl)))) (by rfl) (by rfl) (by rfl) (by exact B7 rfl) (by exact D3 rfl)))) (@G0 _ _)) (@D8 _ _ _ _ _ _ (@LZ _ _ ["self","-1","-2","-3","-4","-5","-6","-7","name"] _ [true,false,false,false,false,false,false,false] 1 _ _ _ _ _ _ _ _ _ 4 _ _ _ (by exact(W2 rfl rfl)) (by exact rfl) (by exact K7.nd) (by exact rfl) (by exact rfl) (by exact rfl) (@K3 _ _ _ _ _ (@E5 _ _ _ _ (@R3 _ _ _ _ _ _ _ _ _ _ _ (by exact eU) (by exact(hr.mono (show 1≤9 by decide))) (by exact rfl) (@C3 _ _ _ _ _ _ (@B3 _ _ _ _ _ (pv 2)) (@C3 _ _ _ _ _ _ (@F4 _ _ _ _ _ _ (@B5 _ _ _ _ _ _ (@B8 _ _ _ _ _ (by decide)) (@C6 _ _) (by exact B7 rfl))) (@D0 _ _) (by exact B7 rfl)) (by exact B7 rfl)) (by decide) (by exact B7 rfl) (by exact D3 rfl)))) (fun s H fp=>(@E9 _ _ _ _ 8 _ (by exact(show 8≤8 by decide)) (by exact ZW) (by exact rfl) (by first|exact Or.inl rfl|exact Or.inr rfl) (by first|exact .inl rfl|exact .inr rfl|assumption))) (fun s H fp=>(@K6 _ _)) (fun s H fp=>(V1 fC (hr.mono (show 1≤9 by decide)) (@B3 _ _ _ _ _ (pv 0)) (@B3 _ _ _ _ _ (pv 8)) (hst:=B7 rfl) (hpl:=D3 rfl))) (by intro _;rfl)) (@D8 _ _ _ _ _ _ (@G8 _ _ _ _ _ _ _ _ _ (@DR _ _ _ _ _ _ _ _ (by exact fG) (by exact rfl) (@B3 _ _ _ _ _ (pv 3)) (by with_unfolding_all rfl) (by decide)) (@D8 _ _ _ _ _ _ (@G9 _ _ _ _ _ 7 _ _ (by exact K7.nd) (by exact rfl) (by first|exact Or.inl rfl|exact Or.inr rfl) (@Ae _ _ _ _ _ _ _ _ (by exact fG) (by exact(F8 T.f9 (F8 T.fS (F8 T.fX (F8 T.fW (F8 T.fV (F8 T.fU Ad))))))) (by exact rfl) (@B3 _ _ _ _ _ (pv 3)) (fun _ _=>rfl) (by decide)) (by rfl) (by first|exact .inl rfl|exact .inr rfl|assumption)) (@D4 _ _ _ _ (@E7 _ _ _ _ _ (@Bf _ _ _ _ _ _ _ _ _ _ _ (@J1 _ _ _ _ _ _ (by exact fY) (by exact T.f9) (by exact(hr.mono (show 8≤9 by decide))) (@J1 _ _ _ _ _ _ (by exact fF) (by exact T.fS) (by exact(hr.mono (show 1≤9 by decide))) (@J1 _ _ _ _ _ _ (by exact fN) (by exact T.fX) (by exact(hr.mono (show 1≤9 by decide))) (@J1 _ _ _ _ _ _ (by exact fO) (by exact T.fW) (by exact(hr.mono (show 1≤9 by decide))) (@J1 _ _ _ _ _ _ (by exact fP) (by exact T.fV) (by exact(hr.mono (show 8≤9 by decide))) (@J1 _ _ _ _ _ _ (by exact fQ) (by exact T.fU) (by exact(hr.mono (show 9≤9 by decide))) (@Be _ _))))))) (pv 7) (@C3 _ _ _ _ _ _ (@B3 _ _ _ _ _ (pv 4)) (@D0 _ _) (by exact B7 rfl)) (by exact B7 rfl) (by exact D3 rfl))))) (@G0 _ _)) (@D8 _ _ _ _ _ _ (@G9 _ _ _ _ _ 5 _ _ (by exact K7.nd) (by exact rfl) (by first|exact Or.inl rfl|exact Or.inr rfl) (@Ae _ _ _ _ _ _ _ _ (by exact gX) (by exact(F8 T.gD (F8 T.gC (F8 T.gB (F8 T.f6 (F8 T.fZ Ad)))))) (by exact rfl) (@B3 _ _ _ _ _ (pv 3)) (fun _ _=>rfl) (by decide)) (by rfl) (by first|exact .inl rfl|exact .inr rfl|assumption)) (@D8 _ _ _ _ _ _ (@G9 _ _ _ _ _ 6 _ _ (by exact K7.nd) (by exact rfl) (by first|exact Or.inl rfl|exact Or.inr rfl) (@Bf _ _ _ _ _ _ _ _ _ _ _ (@J1 _ _ _ _ _ _ (by exact fK) (by exact T.gD) (by exact(hr.mono (show 8≤9 by decide))) (@J1 _ _ _ _ _ _ (by exact fL) (by exact T.gC) (by exact(hr.mono (show 1≤9 by decide))) (@J1 _ _ _ _ _ _ (by exact fM) (by exact T.gB) (by exact(hr.mono (show 8≤9 by decide))) (@J1 _ _ _ _ _ _ (by exact fD) (by exact T.f6) (by exact(hr.mono (show 9≤9 by decide))) (@J1 _ _ _ _ _ _ (by exact fE) (by exact T.fZ) (by exact(hr.mono (show 9≤9 by decide))) (@Be _ _)))))) (pv 5) (@C3 _ _ _ _ _ _ (@B3 _ _ _ _ _ (pv 4)) (@C3 _ _ _ _ _ _ (@E5 _ _ _ _ (@R3 _ _ _ _ _ _ _ _ _ _ _ (by exact eU) (by exact(hr.mono (show 1≤9 by decide))) (by exact rfl) (@C3 _ _ _ _ _ _ (@B3 _ _ _ _ _ (pv 2)) (@C3 _ _ _ _ _ _ (@F4 _ _ _ _ _ _ (@B5 _ _ _ _ _ _ (@B8 _ _ _ _ _ (by decide)) (@B5 _ _ _ _ _ _ (@B8 _ _ _ _ _ (by decide)) (@B5 _ _ _ _ _ _ (@B8 _ _ _ _ _ (by decide)) (@C6 _ _) (by exact B7 rfl)) (by exact B7 rfl)) (by exact B7 rfl))) (@D0 _ _) (by exact B7 rfl)) (by exact B7 rfl)) (by decide) (by exact B7 rfl) (by exact D3 rfl))) (@D0 _ _) (by exact B7 rfl)) (by exact B7 rfl)) (by exact B7 rfl) (by exact D3 rfl)) (by rfl) (by first|exact .inl rfl|exact .inr rfl|assumption)) (@D8 _ _ _ _ _ _ (@P5 _ _ _) (@D4 _ _ _ _ (@E7 _ _ _ _ _ (@B8 _ _ _ _ _ (by decide))))))))))))
theorem ZZ:(["self","-1","-2","-3","-4","-5","-6","-7","name"]:List Str).Nodup:=by rfl'
def BB:Mo Fl:=(D1 (F2 2 (gJ 1 Am (C1 (A0 1) C9))) (D1 (F2 3 (C7 iR (A0 2) (mC (.int 0)))) (D1 (F5 (mT (C7 (jM false) (A0 3) (mC (.str "kept")))) (E4 (C7 Ac (mC (.str " ")) (mF (DX (A0 0))))) i7) (D1 (M4 4 (K4 (J8 (mF (Q6 2 R5 (C1 (A0 2) (C1 (F3 (B4 (mC (.str "old")) C5)) C9))))) [true,false,false,false,false,false,false,false] 1 (gN 8) K5 (O2 X0 (A0 0) (A0 8)))) (D1 (F5 (mT (AA [("show","tell_text"),("number","tell_number"),("minus","tell_minus"),("pairs","tell_pairs"),("steps","tell_steps"),("below","tell_below")] (A0 3))) (D1 (F2 7 (Z9 [("show","tell_text"),("number","tell_number"),("minus","tell_minus"),("pairs","tell_pairs"),("steps","tell_steps"),("below","tell_below")] (A0 3))) (E4 (oX 1 7 [("tell_text",Av),("tell_number",Aw),("tell_minus",Ax),("tell_pairs",Ay),("tell_steps",Az),("tell_below",BA)] (C1 (A0 4) C9)))) i7) (D1 (F2 5 (Z9 [("table","read_table"),("turn","turn_table"),("up","step_table"),("join","join_tables"),("meet","meet_tables")] (A0 3))) (D1 (F2 6 (oX 2 5 [("read_table",Ao),("turn_table",Ap),("step_table",Aq),("join_tables",As),("meet_tables",Au)] (C1 (A0 4) (C1 (mF (Q6 2 R5 (C1 (A0 2) (C1 (F3 (B4 (mC (.str "text")) (B4 (mC (.str "turn")) (B4 (mC (.str "figure")) C5)))) C9)))) C9)))) i7)))))))
def BC:Mo D:=(C7 iR (mF (Q6 2 R5 (C1 (A0 2) (C1 (F3 (B4 (mC (.str "new")) C5)) C9)))) (mC (.int 0)))
def BD:Mo D:=(A0 6)
theorem aA{f C:Addr}{fd:FuncData}(F:fT K "say" "Desk.say" CK f fd)(T:Txt K mg)(gE:Def P w K mg base "words_of" 9 1 Am)(eU:Def P w K mg base "words_as" 1 2 R5)(fC:mS P w K mg base "table_kept" 1 X0)(fK:Def P w K mg base "read_table" 8 2 Ao)(fL:Def P w K mg base "turn_table" 1 2 Ap)(fM:Def P w K mg base "step_table" 8 2 Aq)(fD:Def P w K mg base "join_tables" 9 2 As)(fE:Def P w K mg base "meet_tables" 9 2 Au)(fY:Def P w K mg base "tell_text" 8 1 Av)(fF:Def P w K mg base "tell_number" 1 1 Aw)(fN:Def P w K mg base "tell_minus" 1 1 Ax)(fO:Def P w K mg base "tell_pairs" 1 1 Ay)(fP:Def P w K mg base "tell_steps" 8 1 Az)(fQ:Def P w K mg base "tell_below" 9 1 BA)(gX:mO P w K mg "MAKING" [("table","read_table"),("turn","turn_table"),("up","step_table"),("join","join_tables"),("meet","meet_tables")])(fG:mO P w K mg "TELLING" [("show","tell_text"),("number","tell_number"),("minus","tell_minus"),("pairs","tell_pairs"),("steps","tell_steps"),("below","tell_below")]):c8 P w K mg base gA 10 f fd ["self","line"] (qK K C 8 BB BD BC):=
 Ve F K7 rfl fun cdv A outer s H E hr=>(Ag (G9 (i:=2) K7.nd rfl (by first|exact Or.inl rfl|exact Or.inr rfl) (E6 gE (hr.mono (show 9≤9 by decide)) rfl (C3 (B3 (pv 1)) D0 (hs:=B7 rfl)) (he:=B7 rfl) (hpl:=D3 rfl))) (Ag (G9 (i:=3) K7.nd rfl (by first|exact Or.inl rfl|exact Or.inr rfl) (F6 (B3 (pv 2)) D2 (fun _ _=>rfl))) (Ag (G8 (L4 (gY hr.units) gO (B3 (pv 3)) (B8 (by decide)) (gK _)) (D4 (E7 (Bg (B8 (by decide)) (E5 (GR rfl (B3 (pv 0)) rfl T.g_sorted (he1:=pE rfl) (hpl:=D3 rfl))) (hs:=B7 rfl) (hplain:=D3 rfl)))) G0) (Ag (RQ (i:=4) (N':=["self","-1","-2","-3","-4","-5","-6","-7","name"]) (keep:=[true,false,false,false,false,false,false,false]) (more:=1) (W2 rfl rfl) rfl K7.nd rfl rfl rfl (K3 (E5 (R3 eU (hr.mono (show 1≤9 by decide)) rfl (C3 (B3 (pv 2)) (C3 (F4 (B5 (B8 (by decide)) C6 (hs:=B7 rfl))) D0 (hs:=B7 rfl)) (hs:=B7 rfl)) (he:=B7 rfl) (hpl:=D3 rfl)))) (fun s H fp=>(E9 (i:=8) (show 8≤8 by decide) ZZ rfl (by first|exact Or.inl rfl|exact Or.inr rfl))) (fun s H fp=>K6) (fun s H fp=>(V1 fC (hr.mono (show 1≤9 by decide)) (B3 (pv 0)) (B3 (pv 8)) (hst:=B7 rfl) (hpl:=D3 rfl)))) (Ag (G8 (DR fG rfl (B3 (pv 3)) (by with_unfolding_all rfl)) (D8 (G9 (i:=7) K7.nd rfl (by first|exact Or.inl rfl|exact Or.inr rfl) (Ae fG (F8 T.f9 (F8 T.fS (F8 T.fX (F8 T.fW (F8 T.fV (F8 T.fU Ad)))))) rfl (B3 (pv 3)) (fun _ _=>rfl))) (D4 (E7 (Bf (J1 fY T.f9 (hr.mono (show 8≤9 by decide)) (J1 fF T.fS (hr.mono (show 1≤9 by decide)) (J1 fN T.fX (hr.mono (show 1≤9 by decide)) (J1 fO T.fW (hr.mono (show 1≤9 by decide)) (J1 fP T.fV (hr.mono (show 8≤9 by decide)) (J1 fQ T.fU (hr.mono (show 9≤9 by decide)) Be)))))) (pv 7) (C3 (B3 (pv 4)) D0 (hs:=B7 rfl)) (he:=B7 rfl) (hpl:=D3 rfl))))) G0) (Ag (G9 (i:=5) K7.nd rfl (by first|exact Or.inl rfl|exact Or.inr rfl) (Ae gX (F8 T.gD (F8 T.gC (F8 T.gB (F8 T.f6 (F8 T.fZ Ad))))) rfl (B3 (pv 3)) (fun _ _=>rfl))) (Ag (G9 (i:=6) K7.nd rfl (by first|exact Or.inl rfl|exact Or.inr rfl) (Bf (J1 fK T.gD (hr.mono (show 8≤9 by decide)) (J1 fL T.gC (hr.mono (show 1≤9 by decide)) (J1 fM T.gB (hr.mono (show 8≤9 by decide)) (J1 fD T.f6 (hr.mono (show 9≤9 by decide)) (J1 fE T.fZ (hr.mono (show 9≤9 by decide)) Be))))) (pv 5) (C3 (B3 (pv 4)) (C3 (E5 (R3 eU (hr.mono (show 1≤9 by decide)) rfl (C3 (B3 (pv 2)) (C3 (F4 (B5 (B8 (by decide)) (B5 (B8 (by decide)) (B5 (B8 (by decide)) C6 (hs:=B7 rfl)) (hs:=B7 rfl)) (hs:=B7 rfl))) D0 (hs:=B7 rfl)) (hs:=B7 rfl)) (he:=B7 rfl) (hpl:=D3 rfl))) D0 (hs:=B7 rfl)) (hs:=B7 rfl)) (he:=B7 rfl) (hpl:=D3 rfl))) (VY (U1 (VX (Eb (pv 0) rfl) (F6 (E5 (R3 eU (hr.mono (show 1≤9 by decide)) rfl (C3 (B3 (pv 2)) (C3 (F4 (B5 (B8 (by decide)) C6 (hs:=B7 rfl))) D0 (hs:=B7 rfl)) (hs:=B7 rfl)) (he:=B7 rfl) (hpl:=D3 rfl))) D2 (fun _ _=>rfl)) (B3 (pv 6)) rfl) (Bs (CV Hx)))))))))))
abbrev rC:List (Str×OO):=[("a",[[1,0,0],[0,1,0],[0,0,1]]),("b",[[0,0,1],[0,1,0],[1,0,0]]),("o",[[1]])]
abbrev MZ:List Str:=["table a +00/0+0/00+","table b 00+/0+0/+00","table o +"]
abbrev Ho:Stmt:=sD 100 0
theorem aB:b0 ["self"] ["self"] (D5 Ho):=F1
theorem aC{f C:Addr}{fd:FuncData}(F:fT K "__init__" "Desk.__init__" Ho f fd)(cl:mY K C)(nb:V5 K C "by_name"):c8 P w K mg base gA 1 f fd ["self"] (GS C):=by
 refine F.ok aB (fun vs H Q E h=>by obtain⟨x,dx,rfl,_⟩:=h;rfl) fun cdv A outer s H vs Q E hr h=>?_
 obtain⟨x,dx,rfl,hx,k⟩:=h;refine⟨_,Bs (Pj (pv 0) Vd rfl),?_⟩;intro d hd;have npd:x≠d:=J5 hx hd;exact⟨_,rfl,x,C,dx,[],rfl,by rw[C4 npd];exact hx,cl,nb,by decide,k d hd⟩
abbrev B6:D:=.obj (.dsk rC)
abbrev X1:D:=.str "table o +"
theorem aD:Bi 8 BB BD BC "table a +00/0+0/00+" "a" [[1,0,0],[0,1,0],[0,0,1]]:=fun x d=>⟨[.dat (.obj (.pin x d)),.dat (.str "table a +00/0+0/00+"),.dat (.lst [.str "table",.str "a",.str "+00/0+0/00+"]),.dat (.str "table"),.dat (.lst []),.dat (.obj (.fn "read_table")),.dat (O8 [[1,0,0],[0,1,0],[0,0,1]]),.nil],[.dat (.obj (.pin x d)),.dat (.str "table a +00/0+0/00+"),.dat (.lst [.str "table",.str "a",.str "+00/0+0/00+"]),.dat (.str "table"),.dat (.lst []),.dat (.obj (.fn "read_table")),.dat (O8 [[1,0,0],[0,1,0],[0,0,1]]),.nil],[.dat (.obj (.pin x d)),.dat (.str "table a +00/0+0/00+"),.dat (.lst [.str "table",.str "a",.str "+00/0+0/00+"]),.dat (.str "table"),.dat (.lst []),.dat (.obj (.fn "read_table")),.dat (O8 [[1,0,0],[0,1,0],[0,0,1]]),.nil],by kernel_rfl,by kernel_rfl,by kernel_rfl,by kernel_rfl⟩
theorem aE:Bi 8 BB BD BC "table b 00+/0+0/+00" "b" [[0,0,1],[0,1,0],[1,0,0]]:=fun x d=>⟨[.dat (.obj (.pin x d)),.dat (.str "table b 00+/0+0/+00"),.dat (.lst [.str "table",.str "b",.str "00+/0+0/+00"]),.dat (.str "table"),.dat (.lst []),.dat (.obj (.fn "read_table")),.dat (O8 [[0,0,1],[0,1,0],[1,0,0]]),.nil],[.dat (.obj (.pin x d)),.dat (.str "table b 00+/0+0/+00"),.dat (.lst [.str "table",.str "b",.str "00+/0+0/+00"]),.dat (.str "table"),.dat (.lst []),.dat (.obj (.fn "read_table")),.dat (O8 [[0,0,1],[0,1,0],[1,0,0]]),.nil],[.dat (.obj (.pin x d)),.dat (.str "table b 00+/0+0/+00"),.dat (.lst [.str "table",.str "b",.str "00+/0+0/+00"]),.dat (.str "table"),.dat (.lst []),.dat (.obj (.fn "read_table")),.dat (O8 [[0,0,1],[0,1,0],[1,0,0]]),.nil],by kernel_rfl,by kernel_rfl,by kernel_rfl,by kernel_rfl⟩
theorem aF:Bi 8 BB BD BC "table o +" "o" [[1]]:=fun x d=>⟨[.dat (.obj (.pin x d)),.dat (.str "table o +"),.dat (.lst [.str "table",.str "o",.str "+"]),.dat (.str "table"),.dat (.lst []),.dat (.obj (.fn "read_table")),.dat (O8 [[1]]),.nil],[.dat (.obj (.pin x d)),.dat (.str "table o +"),.dat (.lst [.str "table",.str "o",.str "+"]),.dat (.str "table"),.dat (.lst []),.dat (.obj (.fn "read_table")),.dat (O8 [[1]]),.nil],[.dat (.obj (.pin x d)),.dat (.str "table o +"),.dat (.lst [.str "table",.str "o",.str "+"]),.dat (.str "table"),.dat (.lst []),.dat (.obj (.fn "read_table")),.dat (O8 [[1]]),.nil],by kernel_rfl,by kernel_rfl,by kernel_rfl,by kernel_rfl⟩
theorem aG:∀(k:Nat) (line nm:Str) (t:OO),MZ[k]? =some line->rC[k]? =some (nm,t)->Bi 8 BB BD BC line nm t/\nM (rC.take k) (.inr nm)=none
 |0,_,_,_,h1,h2=>by cases h1;cases h2;exact⟨aD,by rfl'⟩
 |1,_,_,_,h1,h2=>by cases h1;cases h2;exact⟨aE,by rfl'⟩
 |2,_,_,_,h1,h2=>by cases h1;cases h2;exact⟨aF,by rfl'⟩
 |_+3,_,_,_,h1,_=>by simp at h1
theorem aH:(["self","-1","-2","-3","-4","-5","-6","-7","name"]:List Str).Nodup:=by rfl'
theorem aI:(["self","-1","-2","-3","-4","-5","-6","-7","name"]:List Str).Nodup:=by rfl'
def aJ:Mx:=(J9 (N5 1 Hb (C1 (A0 1) C9)) (F2 2 (gJ 1 Am (C1 (A0 1) C9))) (J9 j8 (F2 3 (C7 iR (A0 2) (mC (.int 0)))) (J9 j8 (F5 (mT (C7 (jM false) (A0 3) (mC (.str "kept")))) (E4 (C7 Ac (mC (.str " ")) (mF (DX (A0 0))))) i7) (J9 (GH (J8 (mF (Q6 2 R5 (C1 (A0 2) (C1 (F3 (B4 (mC (.str "old")) C5)) C9))))) [true,false,false,false,false,false,false,false] 1 (gN 8) (DS EC (A0 0) (A0 8)) (O2 X0 (A0 0) (A0 8))) (M4 4 (K4 (J8 (mF (Q6 2 R5 (C1 (A0 2) (C1 (F3 (B4 (mC (.str "old")) C5)) C9))))) [true,false,false,false,false,false,false,false] 1 (gN 8) K5 (O2 X0 (A0 0) (A0 8)))) (J9 (oJ (mT (AA [("show","tell_text"),("number","tell_number"),("minus","tell_minus"),("pairs","tell_pairs"),("steps","tell_steps"),("below","tell_below")] (A0 3))) (J9 j8 (F2 7 (Z9 [("show","tell_text"),("number","tell_number"),("minus","tell_minus"),("pairs","tell_pairs"),("steps","tell_steps"),("below","tell_below")] (A0 3))) (qZ 1 7 [("tell_text",Hi),("tell_number",Hj),("tell_minus",Hk),("tell_pairs",Hl),("tell_steps",Hm),("tell_below",Hn)] (C1 (A0 4) C9))) j8) (F5 (mT (AA [("show","tell_text"),("number","tell_number"),("minus","tell_minus"),("pairs","tell_pairs"),("steps","tell_steps"),("below","tell_below")] (A0 3))) (D1 (F2 7 (Z9 [("show","tell_text"),("number","tell_number"),("minus","tell_minus"),("pairs","tell_pairs"),("steps","tell_steps"),("below","tell_below")] (A0 3))) (E4 (oX 1 7 [("tell_text",Av),("tell_number",Aw),("tell_minus",Ax),("tell_pairs",Ay),("tell_steps",Az),("tell_below",BA)] (C1 (A0 4) C9)))) i7) (J9 j8 (F2 5 (Z9 [("table","read_table"),("turn","turn_table"),("up","step_table"),("join","join_tables"),("meet","meet_tables")] (A0 3))) (J9 (qZ 2 5 [("read_table",Hd),("turn_table",He),("step_table",Hf),("join_tables",Hg),("meet_tables",Hh)] (C1 (A0 4) (C1 (mF (Q6 2 R5 (C1 (A0 2) (C1 (F3 (B4 (mC (.str "text")) (B4 (mC (.str "turn")) (B4 (mC (.str "figure")) C5)))) C9)))) C9))) (F2 6 (oX 2 5 [("read_table",Ao),("turn_table",Ap),("step_table",Aq),("join_tables",As),("meet_tables",Au)] (C1 (A0 4) (C1 (mF (Q6 2 R5 (C1 (A0 2) (C1 (F3 (B4 (mC (.str "text")) (B4 (mC (.str "turn")) (B4 (mC (.str "figure")) C5)))) C9)))) C9)))) (J9 j8 P4 j8))))))))
def CQ:List W->Option Str:=lF 8 aJ
theorem aK{f:Addr}{fd:FuncData}(F:fT K "say" "Desk.say" CK f fd)(T:Txt K mg)(gE:Def P w K mg base "words_of" 9 1 Am)(eU:Def P w K mg base "words_as" 1 2 R5)(fC:mS P w K mg base "table_kept" 1 X0)(fK:Def P w K mg base "read_table" 8 2 Ao)(fL:Def P w K mg base "turn_table" 1 2 Ap)(fM:Def P w K mg base "step_table" 8 2 Aq)(fD:Def P w K mg base "join_tables" 9 2 As)(fE:Def P w K mg base "meet_tables" 9 2 Au)(fY:Def P w K mg base "tell_text" 8 1 Av)(fF:Def P w K mg base "tell_number" 1 1 Aw)(fN:Def P w K mg base "tell_minus" 1 1 Ax)(fO:Def P w K mg base "tell_pairs" 1 1 Ay)(fP:Def P w K mg base "tell_steps" 8 1 Az)(fQ:Def P w K mg base "tell_below" 9 1 BA)(gX:mO P w K mg "MAKING" [("table","read_table"),("turn","turn_table"),("up","step_table"),("join","join_tables"),("meet","meet_tables")])(fG:mO P w K mg "TELLING" [("show","tell_text"),("number","tell_number"),("minus","tell_minus"),("pairs","tell_pairs"),("steps","tell_steps"),("below","tell_below")])(jK:gQ P w K mg base "words_of" 9 1 Hb)(iU:mB P w K mg base "table_kept" 1 EC)(iV:gQ P w K mg base "read_table" 8 2 Hd)(iW:gQ P w K mg base "turn_table" 1 2 He)(iX:gQ P w K mg base "step_table" 8 2 Hf)(iJ:gQ P w K mg base "join_tables" 9 2 Hg)(iK:gQ P w K mg base "meet_tables" 9 2 Hh)(jE:gQ P w K mg base "tell_text" 8 1 Hi)(iL:gQ P w K mg base "tell_number" 1 1 Hj)(iY:gQ P w K mg base "tell_minus" 1 1 Hk)(iZ:gQ P w K mg base "tell_pairs" 1 1 Hl)(i3:gQ P w K mg base "tell_steps" 8 1 Hm)(i4:gQ P w K mg base "tell_below" 9 1 Hn):c8 P w K mg base (iA P w) 10 f fd ["self","line"] (j2 K 2 CQ):=
 N3 F K7 fun cdv A outer s H E hr=>(@K0 _ _ _ _ _ _ _ _ (@Kh _ _ _ _ _ _ 2 _ _ (by exact K7.nd) (by exact rfl) (by first|exact Or.inl rfl|exact Or.inr rfl) (@O1 _ _ _ _ _ _ _ _ _ _ _ _ (by exact R4) (by exact jK) (by exact(hr.mono (show 9≤9 by decide))) (by exact rfl) (by exact(PA.nox (@C3 _ _ _ _ _ _ (@B3 _ _ _ _ _ (pv 1)) (@D0 _ _) (by exact B7 rfl)))) (by decide) (by exact B7 rfl) (by exact D3 rfl)) (by rfl) (by first|exact .inl rfl|exact .inr rfl|assumption)) (by exact(PS.nox (@G9 _ _ _ _ _ 2 _ _ (by exact K7.nd) (by exact rfl) (by first|exact Or.inl rfl|exact Or.inr rfl) (@E6 _ _ _ _ _ _ _ _ _ _ _ (by exact gE) (by exact(hr.mono (show 9≤9 by decide))) (by exact rfl) (@C3 _ _ _ _ _ _ (@B3 _ _ _ _ _ (pv 1)) (@D0 _ _) (by exact B7 rfl)) (by decide) (by exact B7 rfl) (by exact D3 rfl)) (by rfl) (by first|exact .inl rfl|exact .inr rfl|assumption)))) (@K0 _ _ _ _ _ _ _ _ (@N2 _ _ _ _) (by exact(PS.nox (@G9 _ _ _ _ _ 3 _ _ (by exact K7.nd) (by exact rfl) (by first|exact Or.inl rfl|exact Or.inr rfl) (@F6 _ _ _ _ _ _ _ (@B3 _ _ _ _ _ (pv 2)) (@D2 _ _ _ _ _) (fun _ _=>rfl)) (by rfl) (by first|exact .inl rfl|exact .inr rfl|assumption)))) (@K0 _ _ _ _ _ _ _ _ (@N2 _ _ _ _) (by exact(PS.nox (@G8 _ _ _ _ _ _ _ _ _ (@L4 _ _ _ _ _ _ _ _ _ _ (by exact(gY hr.units)) (by exact gO) (@B3 _ _ _ _ _ (pv 3)) (@B8 _ _ _ _ _ (by decide)) (by exact(gK _))) (@D4 _ _ _ _ (@E7 _ _ _ _ _ (@Bg _ _ _ _ _ _ _ _ (@B8 _ _ _ _ _ (by decide)) (@E5 _ _ _ _ (by exact(GR rfl (@B3 _ _ _ _ _ (pv 0)) rfl T.g_sorted (he1:=pE rfl) (hpl:=D3 rfl)))) (by rfl) (by rfl) (by rfl) (by exact B7 rfl) (by exact D3 rfl)))) (@G0 _ _)))) (@K0 _ _ _ _ _ _ _ _ (by exact(VH (i:=4) (N':=["self","-1","-2","-3","-4","-5","-6","-7","name"]) (keep:=[true,false,false,false,false,false,false,false]) (more:=1) (W2 rfl rfl) rfl K7.nd rfl rfl rfl (PI.nox (@K3 _ _ _ _ _ (@E5 _ _ _ _ (@R3 _ _ _ _ _ _ _ _ _ _ _ (by exact eU) (by exact(hr.mono (show 1≤9 by decide))) (by exact rfl) (@C3 _ _ _ _ _ _ (@B3 _ _ _ _ _ (pv 2)) (@C3 _ _ _ _ _ _ (@F4 _ _ _ _ _ _ (@B5 _ _ _ _ _ _ (@B8 _ _ _ _ _ (by decide)) (@C6 _ _) (by exact B7 rfl))) (@D0 _ _) (by exact B7 rfl)) (by exact B7 rfl)) (by decide) (by exact B7 rfl) (by exact D3 rfl))))) (fun s H fp=>(@E9 _ _ _ _ 8 _ (by exact(show 8≤8 by decide)) (by exact aH) (by exact rfl) (by first|exact Or.inl rfl|exact Or.inr rfl) (by first|exact .inl rfl|exact .inr rfl|assumption))) (fun s H fp EX=>PE.nox (V1 fC (hr.mono (show 1≤9 by decide)) (B3 (pv 0)) (B3 (pv 8)) (hst:=B7 rfl) (hpl:=D3 rfl))) (fun s H fp EX hp_=>(Lm hp_ iU (hr.mono (show 1≤9 by decide)) (PE.nox (@B3 _ _ _ _ _ (pv 0))) (PE.nox (@B3 _ _ _ _ _ (pv 8))) (hst:=B7 rfl) (hpl:=D3 rfl))) rfl rfl VB)) (by exact(PS.nox (@LZ _ _ ["self","-1","-2","-3","-4","-5","-6","-7","name"] _ [true,false,false,false,false,false,false,false] 1 _ _ _ _ _ _ _ _ _ 4 _ _ _ (by exact(W2 rfl rfl)) (by exact rfl) (by exact K7.nd) (by exact rfl) (by exact rfl) (by exact rfl) (@K3 _ _ _ _ _ (@E5 _ _ _ _ (@R3 _ _ _ _ _ _ _ _ _ _ _ (by exact eU) (by exact(hr.mono (show 1≤9 by decide))) (by exact rfl) (@C3 _ _ _ _ _ _ (@B3 _ _ _ _ _ (pv 2)) (@C3 _ _ _ _ _ _ (@F4 _ _ _ _ _ _ (@B5 _ _ _ _ _ _ (@B8 _ _ _ _ _ (by decide)) (@C6 _ _) (by exact B7 rfl))) (@D0 _ _) (by exact B7 rfl)) (by exact B7 rfl)) (by decide) (by exact B7 rfl) (by exact D3 rfl)))) (fun s H fp=>(@E9 _ _ _ _ 8 _ (by exact(show 8≤8 by decide)) (by exact aI) (by exact rfl) (by first|exact Or.inl rfl|exact Or.inr rfl) (by first|exact .inl rfl|exact .inr rfl|assumption))) (fun s H fp=>(@K6 _ _)) (fun s H fp=>(V1 fC (hr.mono (show 1≤9 by decide)) (@B3 _ _ _ _ _ (pv 0)) (@B3 _ _ _ _ _ (pv 8)) (hst:=B7 rfl) (hpl:=D3 rfl))) (by intro _;rfl)))) (@K0 _ _ _ _ _ _ _ _ (@W4 _ _ _ _ _ _ _ _ _ _ (by exact(PT.nox (@DR _ _ _ _ _ _ _ _ (by exact fG) (by exact rfl) (@B3 _ _ _ _ _ (pv 3)) (by with_unfolding_all rfl) (by decide)))) (@K0 _ _ _ _ _ _ _ _ (@N2 _ _ _ _) (by exact(PS.nox (@G9 _ _ _ _ _ 7 _ _ (by exact K7.nd) (by exact rfl) (by first|exact Or.inl rfl|exact Or.inr rfl) (@Ae _ _ _ _ _ _ _ _ (by exact fG) (by exact(F8 T.f9 (F8 T.fS (F8 T.fX (F8 T.fW (F8 T.fV (F8 T.fU Ad))))))) (by exact rfl) (@B3 _ _ _ _ _ (pv 3)) (fun _ _=>rfl) (by decide)) (by rfl) (by first|exact .inl rfl|exact .inr rfl|assumption)))) (@J6 _ _ _ _ _ (@W5 _ _ _ _ _ _ (@LJ _ _ _ _ _ _ _ _ _ _ _ _ (by exact R4) (@T7 _ _ _ _ _ _ (by exact jE) (by exact T.f9) (by exact(hr.mono (show 8≤9 by decide))) (@T7 _ _ _ _ _ _ (by exact iL) (by exact T.fS) (by exact(hr.mono (show 1≤9 by decide))) (@T7 _ _ _ _ _ _ (by exact iY) (by exact T.fX) (by exact(hr.mono (show 1≤9 by decide))) (@T7 _ _ _ _ _ _ (by exact iZ) (by exact T.fW) (by exact(hr.mono (show 1≤9 by decide))) (@T7 _ _ _ _ _ _ (by exact i3) (by exact T.fV) (by exact(hr.mono (show 8≤9 by decide))) (@T7 _ _ _ _ _ _ (by exact i4) (by exact T.fU) (by exact(hr.mono (show 9≤9 by decide))) (@LH _ _))))))) (pv 7) (by exact(PA.nox (@C3 _ _ _ _ _ _ (@B3 _ _ _ _ _ (pv 4)) (@D0 _ _) (by exact B7 rfl)))) (by exact B7 rfl) (by exact D3 rfl))))) (@W3 _ _ _)) (by exact(PS.nox (@G8 _ _ _ _ _ _ _ _ _ (@DR _ _ _ _ _ _ _ _ (by exact fG) (by exact rfl) (@B3 _ _ _ _ _ (pv 3)) (by with_unfolding_all rfl) (by decide)) (@D8 _ _ _ _ _ _ (@G9 _ _ _ _ _ 7 _ _ (by exact K7.nd) (by exact rfl) (by first|exact Or.inl rfl|exact Or.inr rfl) (@Ae _ _ _ _ _ _ _ _ (by exact fG) (by exact(F8 T.f9 (F8 T.fS (F8 T.fX (F8 T.fW (F8 T.fV (F8 T.fU Ad))))))) (by exact rfl) (@B3 _ _ _ _ _ (pv 3)) (fun _ _=>rfl) (by decide)) (by rfl) (by first|exact .inl rfl|exact .inr rfl|assumption)) (@D4 _ _ _ _ (@E7 _ _ _ _ _ (@Bf _ _ _ _ _ _ _ _ _ _ _ (@J1 _ _ _ _ _ _ (by exact fY) (by exact T.f9) (by exact(hr.mono (show 8≤9 by decide))) (@J1 _ _ _ _ _ _ (by exact fF) (by exact T.fS) (by exact(hr.mono (show 1≤9 by decide))) (@J1 _ _ _ _ _ _ (by exact fN) (by exact T.fX) (by exact(hr.mono (show 1≤9 by decide))) (@J1 _ _ _ _ _ _ (by exact fO) (by exact T.fW) (by exact(hr.mono (show 1≤9 by decide))) (@J1 _ _ _ _ _ _ (by exact fP) (by exact T.fV) (by exact(hr.mono (show 8≤9 by decide))) (@J1 _ _ _ _ _ _ (by exact fQ) (by exact T.fU) (by exact(hr.mono (show 9≤9 by decide))) (@Be _ _))))))) (pv 7) (@C3 _ _ _ _ _ _ (@B3 _ _ _ _ _ (pv 4)) (@D0 _ _) (by exact B7 rfl)) (by exact B7 rfl) (by exact D3 rfl))))) (@G0 _ _)))) (@K0 _ _ _ _ _ _ _ _ (@N2 _ _ _ _) (by exact(PS.nox (@G9 _ _ _ _ _ 5 _ _ (by exact K7.nd) (by exact rfl) (by first|exact Or.inl rfl|exact Or.inr rfl) (@Ae _ _ _ _ _ _ _ _ (by exact gX) (by exact(F8 T.gD (F8 T.gC (F8 T.gB (F8 T.f6 (F8 T.fZ Ad)))))) (by exact rfl) (@B3 _ _ _ _ _ (pv 3)) (fun _ _=>rfl) (by decide)) (by rfl) (by first|exact .inl rfl|exact .inr rfl|assumption)))) (@K0 _ _ _ _ _ _ _ _ (@Kh _ _ _ _ _ _ 6 _ _ (by exact K7.nd) (by exact rfl) (by first|exact Or.inl rfl|exact Or.inr rfl) (@LJ _ _ _ _ _ _ _ _ _ _ _ _ (by exact R4) (@T7 _ _ _ _ _ _ (by exact iV) (by exact T.gD) (by exact(hr.mono (show 8≤9 by decide))) (@T7 _ _ _ _ _ _ (by exact iW) (by exact T.gC) (by exact(hr.mono (show 1≤9 by decide))) (@T7 _ _ _ _ _ _ (by exact iX) (by exact T.gB) (by exact(hr.mono (show 8≤9 by decide))) (@T7 _ _ _ _ _ _ (by exact iJ) (by exact T.f6) (by exact(hr.mono (show 9≤9 by decide))) (@T7 _ _ _ _ _ _ (by exact iK) (by exact T.fZ) (by exact(hr.mono (show 9≤9 by decide))) (@LH _ _)))))) (pv 5) (by exact(PA.nox (@C3 _ _ _ _ _ _ (@B3 _ _ _ _ _ (pv 4)) (@C3 _ _ _ _ _ _ (@E5 _ _ _ _ (@R3 _ _ _ _ _ _ _ _ _ _ _ (by exact eU) (by exact(hr.mono (show 1≤9 by decide))) (by exact rfl) (@C3 _ _ _ _ _ _ (@B3 _ _ _ _ _ (pv 2)) (@C3 _ _ _ _ _ _ (@F4 _ _ _ _ _ _ (@B5 _ _ _ _ _ _ (@B8 _ _ _ _ _ (by decide)) (@B5 _ _ _ _ _ _ (@B8 _ _ _ _ _ (by decide)) (@B5 _ _ _ _ _ _ (@B8 _ _ _ _ _ (by decide)) (@C6 _ _) (by exact B7 rfl)) (by exact B7 rfl)) (by exact B7 rfl))) (@D0 _ _) (by exact B7 rfl)) (by exact B7 rfl)) (by decide) (by exact B7 rfl) (by exact D3 rfl))) (@D0 _ _) (by exact B7 rfl)) (by exact B7 rfl)))) (by exact B7 rfl) (by exact D3 rfl)) (by rfl) (by first|exact .inl rfl|exact .inr rfl|assumption)) (by exact(PS.nox (@G9 _ _ _ _ _ 6 _ _ (by exact K7.nd) (by exact rfl) (by first|exact Or.inl rfl|exact Or.inr rfl) (@Bf _ _ _ _ _ _ _ _ _ _ _ (@J1 _ _ _ _ _ _ (by exact fK) (by exact T.gD) (by exact(hr.mono (show 8≤9 by decide))) (@J1 _ _ _ _ _ _ (by exact fL) (by exact T.gC) (by exact(hr.mono (show 1≤9 by decide))) (@J1 _ _ _ _ _ _ (by exact fM) (by exact T.gB) (by exact(hr.mono (show 8≤9 by decide))) (@J1 _ _ _ _ _ _ (by exact fD) (by exact T.f6) (by exact(hr.mono (show 9≤9 by decide))) (@J1 _ _ _ _ _ _ (by exact fE) (by exact T.fZ) (by exact(hr.mono (show 9≤9 by decide))) (@Be _ _)))))) (pv 5) (@C3 _ _ _ _ _ _ (@B3 _ _ _ _ _ (pv 4)) (@C3 _ _ _ _ _ _ (@E5 _ _ _ _ (@R3 _ _ _ _ _ _ _ _ _ _ _ (by exact eU) (by exact(hr.mono (show 1≤9 by decide))) (by exact rfl) (@C3 _ _ _ _ _ _ (@B3 _ _ _ _ _ (pv 2)) (@C3 _ _ _ _ _ _ (@F4 _ _ _ _ _ _ (@B5 _ _ _ _ _ _ (@B8 _ _ _ _ _ (by decide)) (@B5 _ _ _ _ _ _ (@B8 _ _ _ _ _ (by decide)) (@B5 _ _ _ _ _ _ (@B8 _ _ _ _ _ (by decide)) (@C6 _ _) (by exact B7 rfl)) (by exact B7 rfl)) (by exact B7 rfl))) (@D0 _ _) (by exact B7 rfl)) (by exact B7 rfl)) (by decide) (by exact B7 rfl) (by exact D3 rfl))) (@D0 _ _) (by exact B7 rfl)) (by exact B7 rfl)) (by exact B7 rfl) (by exact D3 rfl)) (by rfl) (by first|exact .inl rfl|exact .inr rfl|assumption)))) (@K0 _ _ _ _ _ _ _ _ (@N2 _ _ _ _) (by exact(PS.nox (@P5 _ _ _))) (@J6 _ _ _ _ _ (@N2 _ _ _ _))))))))))
theorem Hq:b0 ["_law_call","_law_error","e","_law_sorts"] ["_law_call"] (D5 Gy):=F1
theorem aL:(["-0","-1","-2","-3","_law_one"]:List Str).Nodup:=by rfl'
def aM:Mo Fl:=(D1 (F5 (mT (C7 Fc (A0 1) (mC .non))) (E4 (mC .non)) i7) (D1 (M4 3 (J7 (B4 (Q7 xN "NoTable" (A0 1)) (B4 (Q7 xN "NoHeights" (A0 1)) (B4 (Q7 xN "NoNet" (A0 1)) C5))))) (D1 (M4 3 (M1 (A0 3) (mF (J7 (B4 (Q7 xN "NoPlace" (A0 1)) (B4 (Q7 xN "NoTriangle" (A0 1)) (B4 (Q7 xN "NoRow" (A0 1)) C5))))))) (D1 (M4 3 (M1 (A0 3) (mF (J7 (B4 (Q7 xN "NoNumber" (A0 1)) (B4 (Q7 xN "NoTurn" (A0 1)) (B4 (Q7 xN "NotAlike" (A0 1)) C5))))))) (D1 (M4 3 (M1 (A0 3) (mF (J7 (B4 (Q7 xN "NoStep" (A0 1)) (B4 (Q7 xN "NoRows" (A0 1)) (B4 (Q7 xN "TooMany" (A0 1)) C5))))))) (D1 (Cn 3 (Q7 xN "BadNote" (A0 1))) (D1 (F5 (T0 (L5 (mT (Ki xN (A0 1)))) (mT (C7 (jM true) (iP BZ (B4 (mF (K4 (J8 (A0 3)) [false,false,false,false] 1 (gN 4) K5 (iP FM (B4 (A0 4) C5)))) C5)) (mC (.int 1))))) (E4 (Bz (mC (.int 1)))) i7) (E4 (C7 Fm (A0 3) (mC (.bl true)))))))))))
def aN(o:Option Str):Mo Fl:=D1 (F2 1 (mC .non)) (D1 (Fe xN 2 1 o) aM)
def EE:Option Str->Option D:=Fh 4 aN
theorem aO{f:Addr}{fd:FuncData}(F:fT K "_law_refused" "_law_refused" Gy f fd)(T:Txt K mg)(hmg:mg "_law_refused"=some (.ref f))(hbd:L8 K fd ["_law_call"] []):lO P w K mg base "_law_refused" 12 11 EE:=
 TM F Hq hmg hbd (by decide) fun cdv A outer s H E fl o G hr fn clo=>Ss (i0:=0) (i:=2) (j:=1) rfl rfl rfl T.ex Hq.nd rfl (Or.inl rfl) rfl rfl rfl rfl (by decide) rfl fn clo (by have n0:=aL;have n1:=Hq.nd;cases T;injections Y L4 B3 Cg C Cg G0 T L6 r r W D y r r W D y r r W D y r r W D D8 Co W D Y z J Kj B3 X8 L4 J2;exists (CF rfl);injections V;exists (N6 (N':=["-0","-1","-2","-3","_law_one"]) (keep:=[false,false,false,false]) (more:=1) ?_ ?_ ?_ ?_ ?_ ?_ ?_);injections Aa U3 EZ K C6 D2 C Eu D2 h Ks B3 Q5)
theorem Ma:b0 ["_law_k","_law_some"] ["_law_k"] (D5 Gz):=F1
def Hr:Mo Fl:=(D1 (M4 1 (J7 (B4 (mC (.str "")) (B4 (mC (.str " ")) (B4 (mC (.str "kept ")) (B4 (mC (.str " kept")) (B4 (mC (.str "kept a")) (B4 (mC (.str "Kept")) (B4 (mC (.str "show")) (B4 (mC (.str "show A")) (B4 (mC (.str "show a b")) (B4 (mC (.str "show a1")) (B4 (mC (.str "show longnames")) C5))))))))))))) (D1 (M4 1 (M1 (A0 1) (mF (J7 (B4 (mC (.str "table")) (B4 (mC (.str "table n")) (B4 (mC (.str "table n ")) (B4 (mC (.str "table N +")) (B4 (mC (.str "table n 0")) (B4 (mC (.str "table n -")) (B4 (mC (.str "table n ++/++")) (B4 (mC (.str "table n +0")) C5)))))))))))) (D1 (M4 1 (M1 (A0 1) (mF (J7 (B4 (mC (.str "table n +0/0")) (B4 (mC (.str "table n 0+/+0/")) (B4 (mC (.str "table n 1")) (B4 (mC (.str "table n + +")) (B4 (mC (.str "table longnames +")) (B4 (mC (.str "table  n +")) C5)))))))))) (D1 (M4 1 (M1 (A0 1) (mF (J7 (B4 (mC (.str "Table n +")) (B4 (mC (.str "turn a left")) (B4 (mC (.str "turn a left N")) (B4 (mC (.str "turn a Left n")) (B4 (mC (.str "turn a lef n")) (B4 (mC (.str "turn A left n")) C5)))))))))) (D1 (M4 1 (M1 (A0 1) (mF (J7 (B4 (mC (.str "turn a left n n")) (B4 (mC (.str "turn a  n")) (B4 (mC (.str "turn zz quarter n")) (B4 (mC (.str "up a 1 n")) (B4 (mC (.str "up a 1 1")) (B4 (mC (.str "up a 1 1 N")) C5)))))))))) (D1 (Cn 1 (mC (.str "up a 01 1 n"))) (D1 (M4 1 (M1 (A0 1) (mF (J7 (B4 (mC (.str "up a -1 1 n")) (B4 (mC (.str "up a x 1 n")) (B4 (mC (.str "up A 1 1 n")) (B4 (mC (.str "up zz 1 x n")) (B4 (mC (.str "up a 1 1 n n")) (B4 (mC (.str "join a b")) (B4 (mC (.str "join a b N")) C5))))))))))) (D1 (M4 1 (M1 (A0 1) (mF (J7 (B4 (mC (.str "join A b n")) (B4 (mC (.str "join a b n n")) (B4 (mC (.str "meet a b")) (B4 (mC (.str "meet a  n")) (B4 (mC (.str "number")) (B4 (mC (.str "number a b")) (B4 (mC (.str "number A")) (B4 (mC (.str "minus")) C5)))))))))))) (D1 (M4 1 (M1 (A0 1) (mF (J7 (B4 (mC (.str "minus a 1")) (B4 (mC (.str "pairs")) (B4 (mC (.str "pairs a b")) (B4 (mC (.str "steps")) (B4 (mC (.str "steps a b")) (B4 (mC (.str "below a")) (B4 (mC (.str "below a B")) (B4 (mC (.str "below a b c")) C5)))))))))))) (D1 (M4 1 (M1 (A0 1) (mF (J7 (B4 (mC (.str "below  a b")) (B4 (mC .non) (B4 (mC (.int 7)) (B4 (F3 (B4 (mC (.str "kept")) C5)) (B4 (mF (J7 (B4 (mC (.str "kept")) C5))) (B4 (mC (.bl true)) C5)))))))))) (E4 (C7 iR (A0 1) (C7 X7 (A0 0) (iP N0 (B4 (A0 1) C5)))))))))))))))
def BE:Fn:=iO 2 Hr
theorem aP{f:Addr}{fd:FuncData}(F:fT K "_law_bad" "_law_bad" Gz f fd)(T:Txt K mg):c8 P w K mg base gA 1 f fd ["_law_k"] (gU K 1 BE):=
 F9 F Ma fun cdv A outer s H E hr=>(by have n0:=Ma.nd;cases T;injections T L6 n n R k y n n C6 y n R C6 y n R C6 y n R C6 D8 Co k y n R k y n n C6 y n n C6 y A B5 Cg B5 D2 U C6 B5 N k B5 Q5 C6 C M b f)
theorem Mb:b0 ["_law_k","_law_some"] ["_law_k"] (D5 HA):=F1
def Hs:Mo Fl:=(D1 (F2 1 (mF (J7 (B4 (F3 (B4 (mC (.str "show zz")) (B4 (mC (.int 0)) C5))) (B4 (F3 (B4 (mC (.str "turn zz left n")) (B4 (mC (.int 0)) C5))) (B4 (F3 (B4 (mC (.str "up zz 9 9 n")) (B4 (mC (.int 0)) C5))) (B4 (F3 (B4 (mC (.str "join zz a n")) (B4 (mC (.int 0)) C5))) (B4 (F3 (B4 (mC (.str "join a zz n")) (B4 (mC (.int 0)) C5))) C5)))))))) (D1 (F2 1 (mF (M1 (A0 1) (mF (J7 (B4 (F3 (B4 (mC (.str "meet zz o n")) (B4 (mC (.int 0)) C5))) (B4 (F3 (B4 (mC (.str "meet o zz n")) (B4 (mC (.int 0)) C5))) (B4 (F3 (B4 (mC (.str "number zz")) (B4 (mC (.int 0)) C5))) (B4 (F3 (B4 (mC (.str "minus zz")) (B4 (mC (.int 0)) C5))) (B4 (F3 (B4 (mC (.str "pairs zz")) (B4 (mC (.int 0)) C5))) C5)))))))))) (D1 (F2 1 (mF (M1 (A0 1) (mF (J7 (B4 (F3 (B4 (mC (.str "steps zz")) (B4 (mC (.int 0)) C5))) (B4 (F3 (B4 (mC (.str "below zz o")) (B4 (mC (.int 0)) C5))) (B4 (F3 (B4 (mC (.str "below o zz")) (B4 (mC (.int 0)) C5))) (B4 (F3 (B4 (mC (.str "join a o n")) (B4 (mC (.int 8)) C5))) (B4 (F3 (B4 (mC (.str "join o a n")) (B4 (mC (.int 8)) C5))) C5)))))))))) (D1 (F2 1 (mF (M1 (A0 1) (mF (J7 (B4 (F3 (B4 (mC (.str "meet a o n")) (B4 (mC (.int 8)) C5))) (B4 (F3 (B4 (mC (.str "below o a")) (B4 (mC (.int 8)) C5))) (B4 (F3 (B4 (mC (.str "up a 0 1 n")) (B4 (mC (.int 9)) C5))) (B4 (F3 (B4 (mC (.str "up a 3 1 n")) (B4 (mC (.int 9)) C5))) (B4 (F3 (B4 (mC (.str "up a 1 0 n")) (B4 (mC (.int 9)) C5))) C5)))))))))) (D1 (F2 1 (mF (M1 (A0 1) (mF (J7 (B4 (F3 (B4 (mC (.str "up b 1 1 n")) (B4 (mC (.int 9)) C5))) (B4 (F3 (B4 (mC (.str "up o 1 1 n")) (B4 (mC (.int 9)) C5))) (B4 (F3 (B4 (mC (.str "up o 0 0 n")) (B4 (mC (.int 9)) C5))) (B4 (F3 (B4 (mC (.str "up a 9 9 n")) (B4 (mC (.int 9)) C5))) (B4 (F3 (B4 (mC (.str "up a 1 2 n")) (B4 (mC (.int 9)) C5))) C5)))))))))) (E4 (C7 iR (A0 1) (C7 X7 (A0 0) (iP N0 (B4 (A0 1) C5))))))))))
def Bo:Fn:=iO 2 Hs
theorem aQ{f:Addr}{fd:FuncData}(F:fT K "_law_due" "_law_due" HA f fd)(T:Txt K mg):c8 P w K mg base gA 1 f fd ["_law_k"] (gU K 1 Bo):=
 F9 F Mb fun cdv A outer s H E hr=>(by have n0:=Mb.nd;cases T;injections Z N Af X C6 v g Af X C6 v g Af X C6 v g Af X C6 v g Af X C6 C M b f)
theorem X2:b0 ["_law_script","_law_desk","_law_line","_law_cell","_law_number","_law_due_here"] ["_law_script"] (D5 Bk):=F1
def Ht:Mo Fl:=(DY 1 2 B6 X1 (D1 (AM (J8 (mF (M1 (Z7 (A0 0) Y8 (Y9 (mC (.int 30)))) (mF (J7 (B4 (mC (.int 7)) C5)))))) (gN 3) (D1 (F2 4 (C7 X7 (A0 3) (mC (.int 2147483647)))) (D1 (F2 2 (gJ 1 BE (C1 (C7 BM (A0 4) (mC (.int 2))) C9))) (D1 (F2 5 (mC (.int 12))) (D1 (F5 (mT (C7 (jM false) (C7 X7 (A0 4) (mC (.int 2))) (mC (.int 0)))) (U4 (gJ 1 Bo (C1 (C7 BM (A0 4) (mC (.int 2))) C9)) (gT 2 (kO (gN 2) (kO (gN 5) m7)))) i7) (D1 (F5 (mT (C7 (jM true) (Fj xN [false,true,true,false,false,false] (O2 Q2 (A0 1) (A0 2)) (DS CQ (A0 1) (A0 2)) EE) (A0 5))) (E4 (mC (.bl false))) i7) (F5 (T0 (mT (C7 (jM true) (O2 Q2 (A0 1) (mC (.str "kept"))) (mC (.str "a b o")))) (mT (C7 (jM true) (O2 Q2 (A0 1) (mC (.str "show b"))) (mC (.str "00+/0+0/+00"))))) (E4 (mC (.bl false))) i7))))))) (E4 (T1 (C7 (jM false) (O2 Q2 (A0 1) (mC (.str "steps a"))) (mC (.str "0"))) (T1 (C7 (jM false) (O2 Q2 (A0 1) (mC (.str "steps b"))) (mC (.str "4"))) (C7 (jM false) (O2 Q2 (A0 1) (mC (.str "below a b"))) (mC (.str "yes"))))))))
def EF:Fn:=iO 6 Ht
theorem aR{f Pt:Addr}{fd:FuncData}{cd:Value}(F:fT K "law" "law" Bk f fd)(hcd:fd.code=cd)(T:Txt K mg)(tb:pI K mg base cd "law" Pt)(j4:Def P w K mg base "_law_bad" 1 1 BE)(j5:Def P w K mg base "_law_due" 1 1 Bo)(iM:lO P w K mg base "_law_refused" 12 11 EE)(kR:mS P w K mg base "say" 10 Q2){C_ fI_ fS_:Addr}{fdI_ fdS_:FuncData}(M_:Mk K C_ fI_)(FI_:c8 P w K mg base gA 1 fI_ fdI_ ["self"] (GS C_))(bI_:L8 K fdI_ ["self"] [])(mS_:mI K C_ "say" fS_)(FS_:c8 P w K mg base gA 10 fS_ fdS_ ["self","line"] (qK K C_ 8 BB BD BC))(bS_:L8 K fdS_ ["self","line"] [])(mgC_:mg "Desk"=some (.ref C_))(hC_:PySem.W.nsIn K mainGlobals "Desk"=some (some (.ref C_)))(dk_:nF K C_)(mV:mB P w K mg base "say" 10 CQ):c8 P w K mg base gA 13 f fd ["_law_script"] (pJ K [Pt] 1 EF):=
 TV (N:=["_law_script","_law_desk","_law_line","_law_cell","_law_number","_law_due_here"]) (mb:=Ht) F hcd X2 fun A outer s H E tbi hr=>by
  obtain⟨ps0,hP⟩:=tbi Pt (by simp)
  exact(VV (Vh (n:=8) (i:=1) (j:=2) (mi:=(J8 (mF (J7 (B4 (mC (.str "table a +00/0+0/00+")) (B4 (mC (.str "table b 00+/0+0/+00")) (B4 (mC (.str "table o +")) C5))))))) (mw:=BB) (mv:=BD) (mx:=BC) (L:=MZ) (kvs:=rC) X2.nd rfl (by first|exact Or.inl rfl|exact Or.inr rfl) (Ps M_ FI_ (hr.mono (show 2≤12 by decide)) rfl mgC_ bI_ .nil BI) rfl (by first|exact .inl rfl|exact .inr rfl) PassesOwn.never rfl (@K3 _ _ _ _ _ (@E5 _ _ _ _ (@L6 _ _ _ _ _ (@B5 _ _ _ _ _ _ (@B8 _ _ _ _ _ (by decide)) (@B5 _ _ _ _ _ _ (@B8 _ _ _ _ _ (by decide)) (@B5 _ _ _ _ _ _ (@B8 _ _ _ _ _ (by decide)) (@C6 _ _) (by exact B7 rfl)) (by exact B7 rfl)) (by exact B7 rfl))))) (fun _=>rfl) (@E9 _ _ _ _ 2 _ (by exact(show 0≤2 by decide)) (by exact X2.nd) (by exact rfl) (by first|exact Or.inl rfl|exact Or.inr rfl) (by first|exact .inl rfl|exact .inr rfl|assumption)) (fun _=>rfl) (Eh (pv 1) dk_.cl mS_ FS_ (hr.mono (show 10≤12 by decide)) bS_ .nil BI (M7 (pv 2) Q3 (B7 rfl)) (B7 rfl) (D3 rfl)) rfl rfl (by decide) hC_ dk_ rfl (by decide) (by decide) rfl aG) (@D8 _ _ _ _ _ _ (@Cq _ _ _ _ _ _ _ _ _ (by exact PassesOwn.never) (by exact rfl) (@K3 _ _ _ _ _ (@E5 _ _ _ _ (@O0 _ _ _ _ _ _ _ (@Ft _ _ _ _ _ _ _ _ _ _ (@B3 _ _ _ _ _ (pv 0)) (@FO _ _) (@FP _ _ _ _ (@D2 _ _ _ _ _))) (@E5 _ _ _ _ (@L6 _ _ _ _ _ (@B5 _ _ _ _ _ _ (@D2 _ _ _ _ _) (@C6 _ _) (by exact B7 rfl))))))) (@E9 _ _ _ _ 3 _ (by exact(show 0≤3 by decide)) (by exact X2.nd) (by exact rfl) (by first|exact Or.inl rfl|exact Or.inr rfl) (by first|exact .inl rfl|exact .inr rfl|assumption)) (@D8 _ _ _ _ _ _ (@G9 _ _ _ _ _ 4 _ _ (by exact X2.nd) (by exact rfl) (by first|exact Or.inl rfl|exact Or.inr rfl) (@M9 _ _ _ _ _ _ _ _ _ _ (by exact EU) (by exact Eo) (@B3 _ _ _ _ _ (pv 3)) (@D2 _ _ _ _ _)) (by rfl) (by first|exact .inl rfl|exact .inr rfl|assumption)) (@D8 _ _ _ _ _ _ (@G9 _ _ _ _ _ 2 _ _ (by exact X2.nd) (by exact rfl) (by first|exact Or.inl rfl|exact Or.inr rfl) (@E6 _ _ _ _ _ _ _ _ _ _ _ (by exact j4) (by exact(hr.mono (show 1≤12 by decide))) (by exact rfl) (@C3 _ _ _ _ _ _ (@M9 _ _ _ _ _ _ _ _ _ _ (by exact IQ) (by exact JI) (@B3 _ _ _ _ _ (pv 4)) (@D2 _ _ _ _ _)) (@D0 _ _) (by exact B7 rfl)) (by decide) (by exact B7 rfl) (by exact D3 rfl)) (by rfl) (by first|exact .inl rfl|exact .inr rfl|assumption)) (@D8 _ _ _ _ _ _ (@G9 _ _ _ _ _ 5 _ _ (by exact X2.nd) (by exact rfl) (by first|exact Or.inl rfl|exact Or.inr rfl) (@D2 _ _ _ _ _) (by rfl) (by first|exact .inl rfl|exact .inr rfl|assumption)) (@D8 _ _ _ _ _ _ (@G8 _ _ _ _ _ _ _ _ _ (@L4 _ _ _ _ _ _ _ _ _ _ (by exact(gY hr.units)) (by exact gO) (@M9 _ _ _ _ _ _ _ _ _ _ (by exact EU) (by exact Eo) (@B3 _ _ _ _ _ (pv 4)) (@D2 _ _ _ _ _)) (@D2 _ _ _ _ _) (by exact(gK _))) (@D4 _ _ _ _ (@BP _ _ _ _ _ _ _ (@E6 _ _ _ _ _ _ _ _ _ _ _ (by exact j5) (by exact(hr.mono (show 1≤12 by decide))) (by exact rfl) (@C3 _ _ _ _ _ _ (@M9 _ _ _ _ _ _ _ _ _ _ (by exact IQ) (by exact JI) (@B3 _ _ _ _ _ (pv 4)) (@D2 _ _ _ _ _)) (@D0 _ _) (by exact B7 rfl)) (by decide) (by exact B7 rfl) (by exact D3 rfl)) (@R1 _ _ _ _ _ _ _ _ (by exact rfl) (@K2 _ _ _ _ _ _ _ (@E9 _ _ _ _ 2 _ (by exact(show 0≤2 by decide)) (by exact X2.nd) (by exact rfl) (by first|exact Or.inl rfl|exact Or.inr rfl) (by first|exact .inl rfl|exact .inr rfl|assumption)) (@K2 _ _ _ _ _ _ _ (@E9 _ _ _ _ 5 _ (by exact(show 0≤5 by decide)) (by exact X2.nd) (by exact rfl) (by first|exact Or.inl rfl|exact Or.inr rfl) (by first|exact .inl rfl|exact .inr rfl|assumption)) (@R0 _ _ _) (by rfl)) (by rfl)) (by rfl) (by rfl)) (by rfl) (by rfl) (by rfl))) (@G0 _ _)) (@D8 _ _ _ _ _ _ (@G8 _ _ _ _ _ _ _ _ _ (@L4 _ _ _ _ _ _ _ _ _ _ (by exact(kJ hr.units)) (by exact gO) (@TU _ _ _ _ _ _ _ 10 _ _ ["-0","_law_desk","_law_line","-3","-4","-5"] _ [false,true,true,false,false,false] _ _ _ _ _ _ _ _ (by exact iM) (by exact(hr.mono (show 12≤12 by decide))) (by exact rfl) (by exact tb) (by exact rfl) (by exact hP) (fun _=>rfl) (by exact T.ex) (by exact(W2 rfl rfl)) (by exact rfl) (by exact rfl) (by rfl') (by exact rfl) (fun _ _ _ _=>rfl) (fun fl c' cl H₁ A outer s E hr=>(V1 kR (hr.mono (show 10≤10 by decide)) (@B3 _ _ _ _ _ (pv 1)) (@B3 _ _ _ _ _ (pv 2)) (hst:=B7 rfl) (hpl:=D3 rfl))) (fun fl c' cl H₁ A outer s E hr=>(Lm (pF.pass Sv) mV (hr.mono (show 10≤10 by decide)) (PE.nox (@B3 _ _ _ _ _ (pv 1))) (PE.nox (@B3 _ _ _ _ _ (pv 2))) (hst:=B7 rfl) (hpl:=D3 rfl))) (by decide) (by exact B7 rfl) (by exact D3 rfl)) (@B3 _ _ _ _ _ (pv 5)) (by exact(gK _))) (@D4 _ _ _ _ (@E7 _ _ _ _ _ (@Q5 _ _ _ _ _))) (@G0 _ _)) (@D4 _ _ _ _ (@G8 _ _ _ _ _ _ _ _ _ (@Y0 _ _ _ _ (@X9 _ _ _ _ _ _ _ _ (@L4 _ _ _ _ _ _ _ _ _ _ (by exact(kJ hr.units)) (by exact gO) (by exact(V1 kR (hr.mono (show 10≤12 by decide)) (@B3 _ _ _ _ _ (pv 1)) (@B8 _ _ _ _ _ (by decide)) (hst:=B7 rfl) (hpl:=D3 rfl))) (@B8 _ _ _ _ _ (by decide)) (by exact(gK _))) (@X8 _ _ _ _ _ (@L4 _ _ _ _ _ _ _ _ _ _ (by exact(kJ hr.units)) (by exact gO) (by exact(V1 kR (hr.mono (show 10≤12 by decide)) (@B3 _ _ _ _ _ (pv 1)) (@B8 _ _ _ _ _ (by decide)) (hst:=B7 rfl) (hpl:=D3 rfl))) (@B8 _ _ _ _ _ (by decide)) (by exact(gK _)))))) (@D4 _ _ _ _ (@E7 _ _ _ _ _ (@Q5 _ _ _ _ _))) (@G0 _ _)))))))) (by intro _;rfl)) (@D4 _ _ _ _ (@E7 _ _ _ _ _ (@Y2 _ _ _ _ _ _ _ _ (@R8 _ _ _ _ _ _ _ _ _ _ (by exact(gY hr.units)) (by exact gO) (by exact(V1 kR (hr.mono (show 10≤12 by decide)) (@B3 _ _ _ _ _ (pv 1)) (@B8 _ _ _ _ _ (by decide)) (hst:=B7 rfl) (hpl:=D3 rfl))) (@B8 _ _ _ _ _ (by decide)) (by exact(gK _))) (@Y2 _ _ _ _ _ _ _ _ (@R8 _ _ _ _ _ _ _ _ _ _ (by exact(gY hr.units)) (by exact gO) (by exact(V1 kR (hr.mono (show 10≤12 by decide)) (@B3 _ _ _ _ _ (pv 1)) (@B8 _ _ _ _ _ (by decide)) (hst:=B7 rfl) (hpl:=D3 rfl))) (@B8 _ _ _ _ _ (by decide)) (by exact(gK _))) (@Y1 _ _ _ _ _ _ (@R8 _ _ _ _ _ _ _ _ _ _ (by exact(gY hr.units)) (by exact gO) (by exact(V1 kR (hr.mono (show 10≤12 by decide)) (@B3 _ _ _ _ _ (pv 1)) (@B8 _ _ _ _ _ (by decide)) (hst:=B7 rfl) (hpl:=D3 rfl))) (@B8 _ _ _ _ _ (by decide)) (by exact(gK _))))))))))
end
end K94
namespace L2.Mir
open PySem L2
theorem aS{xs:List D}{i:Nat}:T4 xs none (some (i:Int))=xs.take i:=by
 unfold T4;rw[HT.oF,HT.nR];simp only[List.drop_zero,Nat.sub_zero]
 by_cases h:i≤xs.length
 ·rw[Nat.min_eq_left h]
 ·rw[Nat.min_eq_right (by omega),Jl (Qv _),Jl (by omega)]
theorem Ip{m:Mo D}{ml mh:Mo (Option Int)}{e:c7}{xs:List D}{lo hi:Option Int}(h:m e=some (.tup xs,e))(h1:ml e=some (lo,e))(h2:mh e=some (hi,e)):sU m ml mh e=some (.tup (T4 xs lo hi),e):=by
 unfold sU;rw[h,Qs,h1,Qs,h2];rfl
theorem X3{m n:Mo Fl}{e e1:c7}{r:Option (Fl×c7)}(h:m e=some (.nx,e1))(h2:n e1=r):D1 m n e=r:=by unfold D1;rw[h];exact h2
theorem aT{t:Mo Bool}{m n:Mo Fl}{e e1:c7}{r:Option (Fl×c7)}(h:t e=some (true,e1))(h2:m e1=r):F5 t m n e=r:=by unfold F5;rw[h];exact h2
theorem aU{t:Mo Bool}{m n:Mo Fl}{e e1:c7}{r:Option (Fl×c7)}(h:t e=some (false,e1))(h2:n e1=r):F5 t m n e=r:=by unfold F5;rw[h];exact h2
theorem Mc{n:Nat}{f:Fn}{as:Mo (List Ar)}{env e1:c7}{av:List Ar}{r:D}{ws':List W}(h:as env=some (av,e1))(hn:av.length=n)(hs:slots av=[])(hf:f (av.map (N4 (.l [])))=some (.d r,ws')):gJ n f as env=some (r,e1):=SJ (SI h hn hs hf)
theorem aV{m:Mo D}{i j:Nat}{env e1:c7}{a b:D}(h:m env=some (.tup [a,b],e1)):U4 m (gT 2 (kO (gN i) (kO (gN j) m7))) env=some (.nx,(e1.set i (.dat a)).set j (.dat b)):=by
 unfold U4;rw[h];rfl
theorem aW{m:Mo D}{i j:Nat}{env e1 e2:c7}{a b:D}(h:m env=some (.tup [a,b],e1))(he:(e1.set i (.dat a)).set j (.dat b)=e2):U4 m (gT 2 (kO (gN i) (kO (gN j) m7))) env=some (.nx,e2):=by
 rw[aV h,he]
theorem aX{i:Nat}{m:Mo D}{env e1 e2:c7}{d:D}(h:m env=some (d,e1))(he:e1.set i (.dat d)=e2):F2 i m env=some (.nx,e2):=by rw[SH h,he]
theorem Hu{N:Nat}{mb:Mo Fl}{ws env ws':List W}{d:D}(h:mb (ws++List.replicate (N-ws.length) .nil)=some (.ret d,env))(he:T2 ws env=ws'):iO N mb ws=some (.d d,ws'):=by rw[SG h,he]
abbrev up(a n:Nat):List Nat:=(List.range (n-a)).map (a+ ·)
end L2.Mir
namespace K94
open PySem L2 L2.Mir
abbrev Bp:List D:=[(.str ""),(.str " "),(.str "kept "),(.str " kept"),(.str "kept a"),(.str "Kept"),(.str "show"),(.str "show A"),(.str "show a b"),(.str "show a1"),(.str "show longnames"),(.str "table"),(.str "table n"),(.str "table n "),(.str "table N +"),(.str "table n 0"),(.str "table n -"),(.str "table n ++/++"),(.str "table n +0"),(.str "table n +0/0"),(.str "table n 0+/+0/"),(.str "table n 1"),(.str "table n + +"),(.str "table longnames +"),(.str "table  n +"),(.str "Table n +"),(.str "turn a left"),(.str "turn a left N"),(.str "turn a Left n"),(.str "turn a lef n"),(.str "turn A left n"),(.str "turn a left n n"),(.str "turn a  n"),(.str "turn zz quarter n"),(.str "up a 1 n"),(.str "up a 1 1"),(.str "up a 1 1 N"),(.str "up a 01 1 n"),(.str "up a -1 1 n"),(.str "up a x 1 n"),(.str "up A 1 1 n"),(.str "up zz 1 x n"),(.str "up a 1 1 n n"),(.str "join a b"),(.str "join a b N"),(.str "join A b n"),(.str "join a b n n"),(.str "meet a b"),(.str "meet a  n"),(.str "number"),(.str "number a b"),(.str "number A"),(.str "minus"),(.str "minus a 1"),(.str "pairs"),(.str "pairs a b"),(.str "steps"),(.str "steps a b"),(.str "below a"),(.str "below a B"),(.str "below a b c"),(.str "below  a b"),.non,(.int 7),(.tup [(.str "kept")]),(.lst [(.str "kept")]),(.bl true)]
abbrev Bq:List D:=[(.tup [(.str "show zz"),(.int 0)]),(.tup [(.str "turn zz left n"),(.int 0)]),(.tup [(.str "up zz 9 9 n"),(.int 0)]),(.tup [(.str "join zz a n"),(.int 0)]),(.tup [(.str "join a zz n"),(.int 0)]),(.tup [(.str "meet zz o n"),(.int 0)]),(.tup [(.str "meet o zz n"),(.int 0)]),(.tup [(.str "number zz"),(.int 0)]),(.tup [(.str "minus zz"),(.int 0)]),(.tup [(.str "pairs zz"),(.int 0)]),(.tup [(.str "steps zz"),(.int 0)]),(.tup [(.str "below zz o"),(.int 0)]),(.tup [(.str "below o zz"),(.int 0)]),(.tup [(.str "join a o n"),(.int 8)]),(.tup [(.str "join o a n"),(.int 8)]),(.tup [(.str "meet a o n"),(.int 8)]),(.tup [(.str "below o a"),(.int 8)]),(.tup [(.str "up a 0 1 n"),(.int 9)]),(.tup [(.str "up a 3 1 n"),(.int 9)]),(.tup [(.str "up a 1 0 n"),(.int 9)]),(.tup [(.str "up b 1 1 n"),(.int 9)]),(.tup [(.str "up o 1 1 n"),(.int 9)]),(.tup [(.str "up o 0 0 n"),(.int 9)]),(.tup [(.str "up a 9 9 n"),(.int 9)]),(.tup [(.str "up a 1 2 n"),(.int 9)])]
theorem aY(q:Int):Hr [.dat (.int q),.nil]=E4 (C7 iR (mC (.lst Bp)) (mC (.int (q%67)))) [.dat (.int q),.dat (.lst Bp)]:=by kernel_rfl
theorem aZ(q:Int)(d:D)(h:mL Bp (q%67)=some d):BE [.dat (.int q)]=some (.d d,[.dat (.int q)]):=Hu (env:=[.dat (.int q),.dat (.lst Bp)]) (by
 show Hr [.dat (.int q),.nil]=_;rw[aY];exact KY (DE (a:=.lst Bp) (b:=.int (q%67)) rfl rfl h)) rfl
theorem bA(q:Int):Hs [.dat (.int q),.nil]=E4 (C7 iR (mC (.lst Bq)) (mC (.int (q%25)))) [.dat (.int q),.dat (.lst Bq)]:=by kernel_rfl
theorem bB(q:Int)(d:D)(h:mL Bq (q%25)=some d):Bo [.dat (.int q)]=some (.d d,[.dat (.int q)]):=Hu (env:=[.dat (.int q),.dat (.lst Bq)]) (by
 show Hs [.dat (.int q),.nil]=_;rw[bA];exact KY (DE (a:=.lst Bq) (b:=.int (q%25)) rfl rfl h)) rfl
def look:Mo Fl:=(D1 (F5 (mT (C7 (jM true) (Fj xN [false,true,true,false,false,false] (O2 Q2 (A0 1) (A0 2)) (DS CQ (A0 1) (A0 2)) EE) (A0 5))) (E4 (mC (.bl false))) i7) (F5 (T0 (mT (C7 (jM true) (O2 Q2 (A0 1) (mC (.str "kept"))) (mC (.str "a b o")))) (mT (C7 (jM true) (O2 Q2 (A0 1) (mC (.str "show b"))) (mC (.str "00+/0+0/+00"))))) (E4 (mC (.bl false))) i7))
theorem uW(a b c:W):look [a,.dat B6,.dat (.str ""),b,c,.dat (.int 12)]=some (.nx,[a,.dat B6,.dat (.str ""),b,c,.dat (.int 12)]):=by kernel_rfl
theorem uX(a b c:W):look [a,.dat B6,.dat (.str " "),b,c,.dat (.int 12)]=some (.nx,[a,.dat B6,.dat (.str " "),b,c,.dat (.int 12)]):=by kernel_rfl
theorem uY(a b c:W):look [a,.dat B6,.dat (.str "kept "),b,c,.dat (.int 12)]=some (.nx,[a,.dat B6,.dat (.str "kept "),b,c,.dat (.int 12)]):=by kernel_rfl
theorem uZ(a b c:W):look [a,.dat B6,.dat (.str " kept"),b,c,.dat (.int 12)]=some (.nx,[a,.dat B6,.dat (.str " kept"),b,c,.dat (.int 12)]):=by kernel_rfl
theorem u0(a b c:W):look [a,.dat B6,.dat (.str "kept a"),b,c,.dat (.int 12)]=some (.nx,[a,.dat B6,.dat (.str "kept a"),b,c,.dat (.int 12)]):=by kernel_rfl
theorem u1(a b c:W):look [a,.dat B6,.dat (.str "Kept"),b,c,.dat (.int 12)]=some (.nx,[a,.dat B6,.dat (.str "Kept"),b,c,.dat (.int 12)]):=by kernel_rfl
theorem u2(a b c:W):look [a,.dat B6,.dat (.str "show"),b,c,.dat (.int 12)]=some (.nx,[a,.dat B6,.dat (.str "show"),b,c,.dat (.int 12)]):=by kernel_rfl
theorem u3(a b c:W):look [a,.dat B6,.dat (.str "show A"),b,c,.dat (.int 12)]=some (.nx,[a,.dat B6,.dat (.str "show A"),b,c,.dat (.int 12)]):=by kernel_rfl
theorem u4(a b c:W):look [a,.dat B6,.dat (.str "show a b"),b,c,.dat (.int 12)]=some (.nx,[a,.dat B6,.dat (.str "show a b"),b,c,.dat (.int 12)]):=by kernel_rfl
theorem u5(a b c:W):look [a,.dat B6,.dat (.str "show a1"),b,c,.dat (.int 12)]=some (.nx,[a,.dat B6,.dat (.str "show a1"),b,c,.dat (.int 12)]):=by kernel_rfl
theorem bD(a b c:W):look [a,.dat B6,.dat (.str "show longnames"),b,c,.dat (.int 12)]=some (.nx,[a,.dat B6,.dat (.str "show longnames"),b,c,.dat (.int 12)]):=by kernel_rfl
theorem bE(a b c:W):look [a,.dat B6,.dat (.str "table"),b,c,.dat (.int 12)]=some (.nx,[a,.dat B6,.dat (.str "table"),b,c,.dat (.int 12)]):=by kernel_rfl
theorem bF(a b c:W):look [a,.dat B6,.dat (.str "table n"),b,c,.dat (.int 12)]=some (.nx,[a,.dat B6,.dat (.str "table n"),b,c,.dat (.int 12)]):=by kernel_rfl
theorem bG(a b c:W):look [a,.dat B6,.dat (.str "table n "),b,c,.dat (.int 12)]=some (.nx,[a,.dat B6,.dat (.str "table n "),b,c,.dat (.int 12)]):=by kernel_rfl
theorem bH(a b c:W):look [a,.dat B6,.dat (.str "table N +"),b,c,.dat (.int 12)]=some (.nx,[a,.dat B6,.dat (.str "table N +"),b,c,.dat (.int 12)]):=by kernel_rfl
theorem bI(a b c:W):look [a,.dat B6,.dat (.str "table n 0"),b,c,.dat (.int 12)]=some (.nx,[a,.dat B6,.dat (.str "table n 0"),b,c,.dat (.int 12)]):=by kernel_rfl
theorem bJ(a b c:W):look [a,.dat B6,.dat (.str "table n -"),b,c,.dat (.int 12)]=some (.nx,[a,.dat B6,.dat (.str "table n -"),b,c,.dat (.int 12)]):=by kernel_rfl
theorem bK(a b c:W):look [a,.dat B6,.dat (.str "table n ++/++"),b,c,.dat (.int 12)]=some (.nx,[a,.dat B6,.dat (.str "table n ++/++"),b,c,.dat (.int 12)]):=by kernel_rfl
theorem bL(a b c:W):look [a,.dat B6,.dat (.str "table n +0"),b,c,.dat (.int 12)]=some (.nx,[a,.dat B6,.dat (.str "table n +0"),b,c,.dat (.int 12)]):=by kernel_rfl
theorem bM(a b c:W):look [a,.dat B6,.dat (.str "table n +0/0"),b,c,.dat (.int 12)]=some (.nx,[a,.dat B6,.dat (.str "table n +0/0"),b,c,.dat (.int 12)]):=by kernel_rfl
theorem bN(a b c:W):look [a,.dat B6,.dat (.str "table n 0+/+0/"),b,c,.dat (.int 12)]=some (.nx,[a,.dat B6,.dat (.str "table n 0+/+0/"),b,c,.dat (.int 12)]):=by kernel_rfl
theorem bO(a b c:W):look [a,.dat B6,.dat (.str "table n 1"),b,c,.dat (.int 12)]=some (.nx,[a,.dat B6,.dat (.str "table n 1"),b,c,.dat (.int 12)]):=by kernel_rfl
theorem bP(a b c:W):look [a,.dat B6,.dat (.str "table n + +"),b,c,.dat (.int 12)]=some (.nx,[a,.dat B6,.dat (.str "table n + +"),b,c,.dat (.int 12)]):=by kernel_rfl
theorem bQ(a b c:W):look [a,.dat B6,.dat (.str "table longnames +"),b,c,.dat (.int 12)]=some (.nx,[a,.dat B6,.dat (.str "table longnames +"),b,c,.dat (.int 12)]):=by kernel_rfl
theorem bR(a b c:W):look [a,.dat B6,.dat (.str "table  n +"),b,c,.dat (.int 12)]=some (.nx,[a,.dat B6,.dat (.str "table  n +"),b,c,.dat (.int 12)]):=by kernel_rfl
theorem bT(a b c:W):look [a,.dat B6,.dat (.str "Table n +"),b,c,.dat (.int 12)]=some (.nx,[a,.dat B6,.dat (.str "Table n +"),b,c,.dat (.int 12)]):=by kernel_rfl
theorem bU(a b c:W):look [a,.dat B6,.dat (.str "turn a left"),b,c,.dat (.int 12)]=some (.nx,[a,.dat B6,.dat (.str "turn a left"),b,c,.dat (.int 12)]):=by kernel_rfl
theorem bV(a b c:W):look [a,.dat B6,.dat (.str "turn a left N"),b,c,.dat (.int 12)]=some (.nx,[a,.dat B6,.dat (.str "turn a left N"),b,c,.dat (.int 12)]):=by kernel_rfl
theorem bW(a b c:W):look [a,.dat B6,.dat (.str "turn a Left n"),b,c,.dat (.int 12)]=some (.nx,[a,.dat B6,.dat (.str "turn a Left n"),b,c,.dat (.int 12)]):=by kernel_rfl
theorem bX(a b c:W):look [a,.dat B6,.dat (.str "turn a lef n"),b,c,.dat (.int 12)]=some (.nx,[a,.dat B6,.dat (.str "turn a lef n"),b,c,.dat (.int 12)]):=by kernel_rfl
theorem bY(a b c:W):look [a,.dat B6,.dat (.str "turn A left n"),b,c,.dat (.int 12)]=some (.nx,[a,.dat B6,.dat (.str "turn A left n"),b,c,.dat (.int 12)]):=by kernel_rfl
theorem bZ(a b c:W):look [a,.dat B6,.dat (.str "turn a left n n"),b,c,.dat (.int 12)]=some (.nx,[a,.dat B6,.dat (.str "turn a left n n"),b,c,.dat (.int 12)]):=by kernel_rfl
theorem cA(a b c:W):look [a,.dat B6,.dat (.str "turn a  n"),b,c,.dat (.int 12)]=some (.nx,[a,.dat B6,.dat (.str "turn a  n"),b,c,.dat (.int 12)]):=by kernel_rfl
theorem cB(a b c:W):look [a,.dat B6,.dat (.str "turn zz quarter n"),b,c,.dat (.int 12)]=some (.nx,[a,.dat B6,.dat (.str "turn zz quarter n"),b,c,.dat (.int 12)]):=by kernel_rfl
theorem cC(a b c:W):look [a,.dat B6,.dat (.str "up a 1 n"),b,c,.dat (.int 12)]=some (.nx,[a,.dat B6,.dat (.str "up a 1 n"),b,c,.dat (.int 12)]):=by kernel_rfl
theorem cD(a b c:W):look [a,.dat B6,.dat (.str "up a 1 1"),b,c,.dat (.int 12)]=some (.nx,[a,.dat B6,.dat (.str "up a 1 1"),b,c,.dat (.int 12)]):=by kernel_rfl
theorem cE(a b c:W):look [a,.dat B6,.dat (.str "up a 1 1 N"),b,c,.dat (.int 12)]=some (.nx,[a,.dat B6,.dat (.str "up a 1 1 N"),b,c,.dat (.int 12)]):=by kernel_rfl
theorem cF(a b c:W):look [a,.dat B6,.dat (.str "up a 01 1 n"),b,c,.dat (.int 12)]=some (.nx,[a,.dat B6,.dat (.str "up a 01 1 n"),b,c,.dat (.int 12)]):=by kernel_rfl
theorem cG(a b c:W):look [a,.dat B6,.dat (.str "up a -1 1 n"),b,c,.dat (.int 12)]=some (.nx,[a,.dat B6,.dat (.str "up a -1 1 n"),b,c,.dat (.int 12)]):=by kernel_rfl
theorem cH(a b c:W):look [a,.dat B6,.dat (.str "up a x 1 n"),b,c,.dat (.int 12)]=some (.nx,[a,.dat B6,.dat (.str "up a x 1 n"),b,c,.dat (.int 12)]):=by kernel_rfl
theorem cI(a b c:W):look [a,.dat B6,.dat (.str "up A 1 1 n"),b,c,.dat (.int 12)]=some (.nx,[a,.dat B6,.dat (.str "up A 1 1 n"),b,c,.dat (.int 12)]):=by kernel_rfl
theorem cJ(a b c:W):look [a,.dat B6,.dat (.str "up zz 1 x n"),b,c,.dat (.int 12)]=some (.nx,[a,.dat B6,.dat (.str "up zz 1 x n"),b,c,.dat (.int 12)]):=by kernel_rfl
theorem cK(a b c:W):look [a,.dat B6,.dat (.str "up a 1 1 n n"),b,c,.dat (.int 12)]=some (.nx,[a,.dat B6,.dat (.str "up a 1 1 n n"),b,c,.dat (.int 12)]):=by kernel_rfl
theorem cL(a b c:W):look [a,.dat B6,.dat (.str "join a b"),b,c,.dat (.int 12)]=some (.nx,[a,.dat B6,.dat (.str "join a b"),b,c,.dat (.int 12)]):=by kernel_rfl
theorem cM(a b c:W):look [a,.dat B6,.dat (.str "join a b N"),b,c,.dat (.int 12)]=some (.nx,[a,.dat B6,.dat (.str "join a b N"),b,c,.dat (.int 12)]):=by kernel_rfl
theorem cN(a b c:W):look [a,.dat B6,.dat (.str "join A b n"),b,c,.dat (.int 12)]=some (.nx,[a,.dat B6,.dat (.str "join A b n"),b,c,.dat (.int 12)]):=by kernel_rfl
theorem cO(a b c:W):look [a,.dat B6,.dat (.str "join a b n n"),b,c,.dat (.int 12)]=some (.nx,[a,.dat B6,.dat (.str "join a b n n"),b,c,.dat (.int 12)]):=by kernel_rfl
theorem cP(a b c:W):look [a,.dat B6,.dat (.str "meet a b"),b,c,.dat (.int 12)]=some (.nx,[a,.dat B6,.dat (.str "meet a b"),b,c,.dat (.int 12)]):=by kernel_rfl
theorem cQ(a b c:W):look [a,.dat B6,.dat (.str "meet a  n"),b,c,.dat (.int 12)]=some (.nx,[a,.dat B6,.dat (.str "meet a  n"),b,c,.dat (.int 12)]):=by kernel_rfl
theorem cR(a b c:W):look [a,.dat B6,.dat (.str "number"),b,c,.dat (.int 12)]=some (.nx,[a,.dat B6,.dat (.str "number"),b,c,.dat (.int 12)]):=by kernel_rfl
theorem cS(a b c:W):look [a,.dat B6,.dat (.str "number a b"),b,c,.dat (.int 12)]=some (.nx,[a,.dat B6,.dat (.str "number a b"),b,c,.dat (.int 12)]):=by kernel_rfl
theorem cT(a b c:W):look [a,.dat B6,.dat (.str "number A"),b,c,.dat (.int 12)]=some (.nx,[a,.dat B6,.dat (.str "number A"),b,c,.dat (.int 12)]):=by kernel_rfl
theorem cU(a b c:W):look [a,.dat B6,.dat (.str "minus"),b,c,.dat (.int 12)]=some (.nx,[a,.dat B6,.dat (.str "minus"),b,c,.dat (.int 12)]):=by kernel_rfl
theorem cV(a b c:W):look [a,.dat B6,.dat (.str "minus a 1"),b,c,.dat (.int 12)]=some (.nx,[a,.dat B6,.dat (.str "minus a 1"),b,c,.dat (.int 12)]):=by kernel_rfl
theorem cW(a b c:W):look [a,.dat B6,.dat (.str "pairs"),b,c,.dat (.int 12)]=some (.nx,[a,.dat B6,.dat (.str "pairs"),b,c,.dat (.int 12)]):=by kernel_rfl
theorem cX(a b c:W):look [a,.dat B6,.dat (.str "pairs a b"),b,c,.dat (.int 12)]=some (.nx,[a,.dat B6,.dat (.str "pairs a b"),b,c,.dat (.int 12)]):=by kernel_rfl
theorem cY(a b c:W):look [a,.dat B6,.dat (.str "steps"),b,c,.dat (.int 12)]=some (.nx,[a,.dat B6,.dat (.str "steps"),b,c,.dat (.int 12)]):=by kernel_rfl
theorem cZ(a b c:W):look [a,.dat B6,.dat (.str "steps a b"),b,c,.dat (.int 12)]=some (.nx,[a,.dat B6,.dat (.str "steps a b"),b,c,.dat (.int 12)]):=by kernel_rfl
theorem dA(a b c:W):look [a,.dat B6,.dat (.str "below a"),b,c,.dat (.int 12)]=some (.nx,[a,.dat B6,.dat (.str "below a"),b,c,.dat (.int 12)]):=by kernel_rfl
theorem dB(a b c:W):look [a,.dat B6,.dat (.str "below a B"),b,c,.dat (.int 12)]=some (.nx,[a,.dat B6,.dat (.str "below a B"),b,c,.dat (.int 12)]):=by kernel_rfl
theorem dC(a b c:W):look [a,.dat B6,.dat (.str "below a b c"),b,c,.dat (.int 12)]=some (.nx,[a,.dat B6,.dat (.str "below a b c"),b,c,.dat (.int 12)]):=by kernel_rfl
theorem dD(a b c:W):look [a,.dat B6,.dat (.str "below  a b"),b,c,.dat (.int 12)]=some (.nx,[a,.dat B6,.dat (.str "below  a b"),b,c,.dat (.int 12)]):=by kernel_rfl
theorem dE(a b c:W):look [a,.dat B6,.dat .non,b,c,.dat (.int 12)]=some (.nx,[a,.dat B6,.dat .non,b,c,.dat (.int 12)]):=by kernel_rfl
theorem dF(a b c:W):look [a,.dat B6,.dat (.int 7),b,c,.dat (.int 12)]=some (.nx,[a,.dat B6,.dat (.int 7),b,c,.dat (.int 12)]):=by kernel_rfl
theorem dG(a b c:W):look [a,.dat B6,.dat (.tup [(.str "kept")]),b,c,.dat (.int 12)]=some (.nx,[a,.dat B6,.dat (.tup [(.str "kept")]),b,c,.dat (.int 12)]):=by kernel_rfl
theorem dH(a b c:W):look [a,.dat B6,.dat (.lst [(.str "kept")]),b,c,.dat (.int 12)]=some (.nx,[a,.dat B6,.dat (.lst [(.str "kept")]),b,c,.dat (.int 12)]):=by kernel_rfl
theorem dI(a b c:W):look [a,.dat B6,.dat (.bl true),b,c,.dat (.int 12)]=some (.nx,[a,.dat B6,.dat (.bl true),b,c,.dat (.int 12)]):=by kernel_rfl
theorem u6(a b c:W):look [a,.dat B6,.dat (.str "show zz"),b,c,.dat (.int 0)]=some (.nx,[a,.dat B6,.dat (.str "show zz"),b,c,.dat (.int 0)]):=by kernel_rfl
theorem u7(a b c:W):look [a,.dat B6,.dat (.str "turn zz left n"),b,c,.dat (.int 0)]=some (.nx,[a,.dat B6,.dat (.str "turn zz left n"),b,c,.dat (.int 0)]):=by kernel_rfl
theorem u8(a b c:W):look [a,.dat B6,.dat (.str "up zz 9 9 n"),b,c,.dat (.int 0)]=some (.nx,[a,.dat B6,.dat (.str "up zz 9 9 n"),b,c,.dat (.int 0)]):=by kernel_rfl
theorem u9(a b c:W):look [a,.dat B6,.dat (.str "join zz a n"),b,c,.dat (.int 0)]=some (.nx,[a,.dat B6,.dat (.str "join zz a n"),b,c,.dat (.int 0)]):=by kernel_rfl
theorem vA(a b c:W):look [a,.dat B6,.dat (.str "join a zz n"),b,c,.dat (.int 0)]=some (.nx,[a,.dat B6,.dat (.str "join a zz n"),b,c,.dat (.int 0)]):=by kernel_rfl
theorem vB(a b c:W):look [a,.dat B6,.dat (.str "meet zz o n"),b,c,.dat (.int 0)]=some (.nx,[a,.dat B6,.dat (.str "meet zz o n"),b,c,.dat (.int 0)]):=by kernel_rfl
theorem vC(a b c:W):look [a,.dat B6,.dat (.str "meet o zz n"),b,c,.dat (.int 0)]=some (.nx,[a,.dat B6,.dat (.str "meet o zz n"),b,c,.dat (.int 0)]):=by kernel_rfl
theorem vD(a b c:W):look [a,.dat B6,.dat (.str "number zz"),b,c,.dat (.int 0)]=some (.nx,[a,.dat B6,.dat (.str "number zz"),b,c,.dat (.int 0)]):=by kernel_rfl
theorem vE(a b c:W):look [a,.dat B6,.dat (.str "minus zz"),b,c,.dat (.int 0)]=some (.nx,[a,.dat B6,.dat (.str "minus zz"),b,c,.dat (.int 0)]):=by kernel_rfl
theorem vF(a b c:W):look [a,.dat B6,.dat (.str "pairs zz"),b,c,.dat (.int 0)]=some (.nx,[a,.dat B6,.dat (.str "pairs zz"),b,c,.dat (.int 0)]):=by kernel_rfl
theorem dJ(a b c:W):look [a,.dat B6,.dat (.str "steps zz"),b,c,.dat (.int 0)]=some (.nx,[a,.dat B6,.dat (.str "steps zz"),b,c,.dat (.int 0)]):=by kernel_rfl
theorem dN(a b c:W):look [a,.dat B6,.dat (.str "below zz o"),b,c,.dat (.int 0)]=some (.nx,[a,.dat B6,.dat (.str "below zz o"),b,c,.dat (.int 0)]):=by kernel_rfl
theorem dO(a b c:W):look [a,.dat B6,.dat (.str "below o zz"),b,c,.dat (.int 0)]=some (.nx,[a,.dat B6,.dat (.str "below o zz"),b,c,.dat (.int 0)]):=by kernel_rfl
theorem dP(a b c:W):look [a,.dat B6,.dat (.str "join a o n"),b,c,.dat (.int 8)]=some (.nx,[a,.dat B6,.dat (.str "join a o n"),b,c,.dat (.int 8)]):=by kernel_rfl
theorem dQ(a b c:W):look [a,.dat B6,.dat (.str "join o a n"),b,c,.dat (.int 8)]=some (.nx,[a,.dat B6,.dat (.str "join o a n"),b,c,.dat (.int 8)]):=by kernel_rfl
theorem dR(a b c:W):look [a,.dat B6,.dat (.str "meet a o n"),b,c,.dat (.int 8)]=some (.nx,[a,.dat B6,.dat (.str "meet a o n"),b,c,.dat (.int 8)]):=by kernel_rfl
theorem dS(a b c:W):look [a,.dat B6,.dat (.str "below o a"),b,c,.dat (.int 8)]=some (.nx,[a,.dat B6,.dat (.str "below o a"),b,c,.dat (.int 8)]):=by kernel_rfl
theorem dU(a b c:W):look [a,.dat B6,.dat (.str "up a 0 1 n"),b,c,.dat (.int 9)]=some (.nx,[a,.dat B6,.dat (.str "up a 0 1 n"),b,c,.dat (.int 9)]):=by kernel_rfl
theorem dW(a b c:W):look [a,.dat B6,.dat (.str "up a 3 1 n"),b,c,.dat (.int 9)]=some (.nx,[a,.dat B6,.dat (.str "up a 3 1 n"),b,c,.dat (.int 9)]):=by kernel_rfl
theorem dY(a b c:W):look [a,.dat B6,.dat (.str "up a 1 0 n"),b,c,.dat (.int 9)]=some (.nx,[a,.dat B6,.dat (.str "up a 1 0 n"),b,c,.dat (.int 9)]):=by kernel_rfl
theorem dZ(a b c:W):look [a,.dat B6,.dat (.str "up b 1 1 n"),b,c,.dat (.int 9)]=some (.nx,[a,.dat B6,.dat (.str "up b 1 1 n"),b,c,.dat (.int 9)]):=by kernel_rfl
theorem eA(a b c:W):look [a,.dat B6,.dat (.str "up o 1 1 n"),b,c,.dat (.int 9)]=some (.nx,[a,.dat B6,.dat (.str "up o 1 1 n"),b,c,.dat (.int 9)]):=by kernel_rfl
theorem eC(a b c:W):look [a,.dat B6,.dat (.str "up o 0 0 n"),b,c,.dat (.int 9)]=some (.nx,[a,.dat B6,.dat (.str "up o 0 0 n"),b,c,.dat (.int 9)]):=by kernel_rfl
theorem eD(a b c:W):look [a,.dat B6,.dat (.str "up a 9 9 n"),b,c,.dat (.int 9)]=some (.nx,[a,.dat B6,.dat (.str "up a 9 9 n"),b,c,.dat (.int 9)]):=by kernel_rfl
theorem eE(a b c:W):look [a,.dat B6,.dat (.str "up a 1 2 n"),b,c,.dat (.int 9)]=some (.nx,[a,.dat B6,.dat (.str "up a 1 2 n"),b,c,.dat (.int 9)]):=by kernel_rfl
def Me:Mo Fl:=(D1 (F2 4 (C7 X7 (A0 3) (mC (.int 2147483647)))) (D1 (F2 2 (gJ 1 BE (C1 (C7 BM (A0 4) (mC (.int 2))) C9))) (D1 (F2 5 (mC (.int 12))) (D1 (F5 (mT (C7 (jM false) (C7 X7 (A0 4) (mC (.int 2))) (mC (.int 0)))) (U4 (gJ 1 Bo (C1 (C7 BM (A0 4) (mC (.int 2))) C9)) (gT 2 (kO (gN 2) (kO (gN 5) m7)))) i7) look))))
def Mf:Mo Fl:=(E4 (T1 (C7 (jM false) (O2 Q2 (A0 1) (mC (.str "steps a"))) (mC (.str "0"))) (T1 (C7 (jM false) (O2 Q2 (A0 1) (mC (.str "steps b"))) (mC (.str "4"))) (C7 (jM false) (O2 Q2 (A0 1) (mC (.str "below a b"))) (mC (.str "yes"))))))
def sE:Mo (List D):=(J8 (mF (M1 (Z7 (A0 0) Y8 (Y9 (mC (.int 30)))) (mF (J7 (B4 (mC (.int 7)) C5))))))
theorem eF:Ht=DY 1 2 B6 X1 (D1 (AM sE (gN 3) Me) Mf):=by kernel_rfl
theorem eG(r:Int)(h0:0≤r)(h1:r<67):∃d,mL Bp r=some d/\∀a b c,look [a,.dat B6,.dat d,b,c,.dat (.int 12)]=some (.nx,[a,.dat B6,.dat d,b,c,.dat (.int 12)]):=by
 obtain⟨n,rfl⟩:=Int.eq_ofNat_of_zero_le h0;have hn:n<67:=by omega
 clear h0 h1
 rcases n with _|n
 ·exact⟨_,rfl,uW⟩
 rcases n with _|n
 ·exact⟨_,rfl,uX⟩
 rcases n with _|n
 ·exact⟨_,rfl,uY⟩
 rcases n with _|n
 ·exact⟨_,rfl,uZ⟩
 rcases n with _|n
 ·exact⟨_,rfl,u0⟩
 rcases n with _|n
 ·exact⟨_,rfl,u1⟩
 rcases n with _|n
 ·exact⟨_,rfl,u2⟩
 rcases n with _|n
 ·exact⟨_,rfl,u3⟩
 rcases n with _|n
 ·exact⟨_,rfl,u4⟩
 rcases n with _|n
 ·exact⟨_,rfl,u5⟩
 rcases n with _|n
 ·exact⟨_,rfl,bD⟩
 rcases n with _|n
 ·exact⟨_,rfl,bE⟩
 rcases n with _|n
 ·exact⟨_,rfl,bF⟩
 rcases n with _|n
 ·exact⟨_,rfl,bG⟩
 rcases n with _|n
 ·exact⟨_,rfl,bH⟩
 rcases n with _|n
 ·exact⟨_,rfl,bI⟩
 rcases n with _|n
 ·exact⟨_,rfl,bJ⟩
 rcases n with _|n
 ·exact⟨_,rfl,bK⟩
 rcases n with _|n
 ·exact⟨_,rfl,bL⟩
 rcases n with _|n
 ·exact⟨_,rfl,bM⟩
 rcases n with _|n
 ·exact⟨_,rfl,bN⟩
 rcases n with _|n
 ·exact⟨_,rfl,bO⟩
 rcases n with _|n
 ·exact⟨_,rfl,bP⟩
 rcases n with _|n
 ·exact⟨_,rfl,bQ⟩
 rcases n with _|n
 ·exact⟨_,rfl,bR⟩
 rcases n with _|n
 ·exact⟨_,rfl,bT⟩
 rcases n with _|n
 ·exact⟨_,rfl,bU⟩
 rcases n with _|n
 ·exact⟨_,rfl,bV⟩
 rcases n with _|n
 ·exact⟨_,rfl,bW⟩
 rcases n with _|n
 ·exact⟨_,rfl,bX⟩
 rcases n with _|n
 ·exact⟨_,rfl,bY⟩
 rcases n with _|n
 ·exact⟨_,rfl,bZ⟩
 rcases n with _|n
 ·exact⟨_,rfl,cA⟩
 rcases n with _|n
 ·exact⟨_,rfl,cB⟩
 rcases n with _|n
 ·exact⟨_,rfl,cC⟩
 rcases n with _|n
 ·exact⟨_,rfl,cD⟩
 rcases n with _|n
 ·exact⟨_,rfl,cE⟩
 rcases n with _|n
 ·exact⟨_,rfl,cF⟩
 rcases n with _|n
 ·exact⟨_,rfl,cG⟩
 rcases n with _|n
 ·exact⟨_,rfl,cH⟩
 rcases n with _|n
 ·exact⟨_,rfl,cI⟩
 rcases n with _|n
 ·exact⟨_,rfl,cJ⟩
 rcases n with _|n
 ·exact⟨_,rfl,cK⟩
 rcases n with _|n
 ·exact⟨_,rfl,cL⟩
 rcases n with _|n
 ·exact⟨_,rfl,cM⟩
 rcases n with _|n
 ·exact⟨_,rfl,cN⟩
 rcases n with _|n
 ·exact⟨_,rfl,cO⟩
 rcases n with _|n
 ·exact⟨_,rfl,cP⟩
 rcases n with _|n
 ·exact⟨_,rfl,cQ⟩
 rcases n with _|n
 ·exact⟨_,rfl,cR⟩
 rcases n with _|n
 ·exact⟨_,rfl,cS⟩
 rcases n with _|n
 ·exact⟨_,rfl,cT⟩
 rcases n with _|n
 ·exact⟨_,rfl,cU⟩
 rcases n with _|n
 ·exact⟨_,rfl,cV⟩
 rcases n with _|n
 ·exact⟨_,rfl,cW⟩
 rcases n with _|n
 ·exact⟨_,rfl,cX⟩
 rcases n with _|n
 ·exact⟨_,rfl,cY⟩
 rcases n with _|n
 ·exact⟨_,rfl,cZ⟩
 rcases n with _|n
 ·exact⟨_,rfl,dA⟩
 rcases n with _|n
 ·exact⟨_,rfl,dB⟩
 rcases n with _|n
 ·exact⟨_,rfl,dC⟩
 rcases n with _|n
 ·exact⟨_,rfl,dD⟩
 rcases n with _|n
 ·exact⟨_,rfl,dE⟩
 rcases n with _|n
 ·exact⟨_,rfl,dF⟩
 rcases n with _|n
 ·exact⟨_,rfl,dG⟩
 rcases n with _|n
 ·exact⟨_,rfl,dH⟩
 rcases n with _|n
 ·exact⟨_,rfl,dI⟩
 omega
theorem eI(r:Int)(h0:0≤r)(h1:r<25):∃l k,mL Bq r=some (.tup [.str l,.int k])/\∀a b c,look [a,.dat B6,.dat (.str l),b,c,.dat (.int k)]=some (.nx,[a,.dat B6,.dat (.str l),b,c,.dat (.int k)]):=by
 obtain⟨n,rfl⟩:=Int.eq_ofNat_of_zero_le h0;have hn:n<25:=by omega
 clear h0 h1
 rcases n with _|n
 ·exact⟨_,_,rfl,u6⟩
 rcases n with _|n
 ·exact⟨_,_,rfl,u7⟩
 rcases n with _|n
 ·exact⟨_,_,rfl,u8⟩
 rcases n with _|n
 ·exact⟨_,_,rfl,u9⟩
 rcases n with _|n
 ·exact⟨_,_,rfl,vA⟩
 rcases n with _|n
 ·exact⟨_,_,rfl,vB⟩
 rcases n with _|n
 ·exact⟨_,_,rfl,vC⟩
 rcases n with _|n
 ·exact⟨_,_,rfl,vD⟩
 rcases n with _|n
 ·exact⟨_,_,rfl,vE⟩
 rcases n with _|n
 ·exact⟨_,_,rfl,vF⟩
 rcases n with _|n
 ·exact⟨_,_,rfl,dJ⟩
 rcases n with _|n
 ·exact⟨_,_,rfl,dN⟩
 rcases n with _|n
 ·exact⟨_,_,rfl,dO⟩
 rcases n with _|n
 ·exact⟨_,_,rfl,dP⟩
 rcases n with _|n
 ·exact⟨_,_,rfl,dQ⟩
 rcases n with _|n
 ·exact⟨_,_,rfl,dR⟩
 rcases n with _|n
 ·exact⟨_,_,rfl,dS⟩
 rcases n with _|n
 ·exact⟨_,_,rfl,dU⟩
 rcases n with _|n
 ·exact⟨_,_,rfl,dW⟩
 rcases n with _|n
 ·exact⟨_,_,rfl,dY⟩
 rcases n with _|n
 ·exact⟨_,_,rfl,dZ⟩
 rcases n with _|n
 ·exact⟨_,_,rfl,eA⟩
 rcases n with _|n
 ·exact⟨_,_,rfl,eC⟩
 rcases n with _|n
 ·exact⟨_,_,rfl,eD⟩
 rcases n with _|n
 ·exact⟨_,_,rfl,eE⟩
 omega
theorem Mg{m:Mo D}{e e1:c7}{b:Bool}(h:m e=some (.bl b,e1)):mT m e=some (b,e1):=by unfold mT;rw[h];rfl
theorem eJ{ma mb:Mo D}{e e1 e2:c7}{xs ys:List D}(h1:ma e=some (.lst xs,e1))(h2:mb e1=some (.lst ys,e2))(hl:xs.length+ys.length≤10000):M1 ma mb e=some (xs++ys,e2):=by
 unfold M1;rw[h1,Qs,h2,Qs];exact Qt hl
theorem turn(a w2 w4 w5:W)(c:Int):∃d k,Me [a,.dat B6,w2,.dat (.int c),w4,w5]=some (.nx,[a,.dat B6,.dat d,.dat (.int c),.dat (.int (c%2147483647)),.dat (.int k)]):=by
 have s1:F2 4 (C7 X7 (A0 3) (mC (.int 2147483647))) [a,.dat B6,w2,.dat (.int c),w4,w5]=some (.nx,[a,.dat B6,w2,.dat (.int c),.dat (.int (c%2147483647)),w5]):=rfl
 generalize c%2147483647=n at s1 ⊢;obtain⟨d,hd,hl⟩:=eG ((n/2)%67) (by omega) (by omega)
 have qb:BE [.dat (.int (n/2))]=some (.d d,[.dat (.int (n/2))]):=aZ _ _ hd
 have s2:F2 2 (gJ 1 BE (C1 (C7 BM (A0 4) (mC (.int 2))) C9)) [a,.dat B6,w2,.dat (.int c),.dat (.int n),w5]=some (.nx,[a,.dat B6,.dat d,.dat (.int c),.dat (.int n),w5]):=aX (Mc (av:=[.d (.int (n/2))]) rfl rfl rfl qb) rfl
 have s3:F2 5 (mC (.int 12)) [a,.dat B6,.dat d,.dat (.int c),.dat (.int n),w5]=some (.nx,[a,.dat B6,.dat d,.dat (.int c),.dat (.int n),.dat (.int 12)]):=rfl
 by_cases hp:n%2=0
 ·obtain⟨l,k,h2,hl2⟩:=eI ((n/2)%25) (by omega) (by omega)
  have qd:Bo [.dat (.int (n/2))]=some (.d (.tup [.str l,.int k]),[.dat (.int (n/2))]):=bB _ _ h2
  exact⟨.str l,k,X3 s1 (X3 s2 (X3 s3 (X3 (aT (Mg (DE (a:=.int (n%2)) (b:=.int 0) rfl rfl (by rw[hp];rfl))) (aW (Mc (av:=[.d (.int (n/2))]) rfl rfl rfl qd) rfl)) (hl2 _ _ _))))⟩
 ·have h1:n%2=1:=by omega
  exact⟨d,12,X3 s1 (X3 s2 (X3 s3 (X3 (aU (Mg (DE (a:=.int (n%2)) (b:=.int 0) rfl rfl (by rw[h1];rfl))) rfl) (hl _ _ _))))⟩
theorem eK{g:OX}{b:Mo Fl}{d:D}{ds:List D}{env e1 e2:c7}{r:Option (Fl×c7)}(h1:g d env=some e1)(h2:b e1=some (.nx,e2))(h3:loop g b ds e2=r):loop g b (d::ds) env=r:=by
 show(g d env).bind _=r;rw[h1,Qs,h2];exact h3
theorem eL{b:Mo Fl}(tn:∀(a w2 w4 w5:W) (c:Int),∃d k,b [a,.dat B6,w2,.dat (.int c),w4,w5]=some (.nx,[a,.dat B6,.dat d,.dat (.int c),.dat (.int (c%2147483647)),.dat (.int k)]))(a:W):∀(cs:List Int) (w2 w3 w4 w5:W),∃v2 v3 v4 v5,loop (gN 3) b (cs.map D.int) [a,.dat B6,w2,w3,w4,w5]=some (.nx,[a,.dat B6,v2,v3,v4,v5]):=by
 intro cs
 induction cs with
 |nil=>exact fun w2 w3 w4 w5=>⟨w2,w3,w4,w5,rfl⟩
 |cons c cs ih=>
  intro w2 w3 w4 w5;obtain⟨d,k,h⟩:=tn a w2 w4 w5 c;obtain⟨v2,v3,v4,v5,h2⟩:=ih (.dat d) (.dat (.int c)) (.dat (.int (c%2147483647))) (.dat (.int k));exact⟨v2,v3,v4,v5,eK rfl h h2⟩
theorem eM{mi:Mo (List D)}{g:OX}{b:Mo Fl}{e e1:c7}{ds:List D}{r:Option (Fl×c7)}(h:mi e=some (ds,e1))(h2:loop g b ds e1=r):AM mi g b e=r:=by
 unfold AM;rw[h];exact h2
theorem eN{m:Mo Fl}(a:W):DY 1 2 B6 X1 m ([a]++List.replicate (6-[a].length) .nil)=m [a,.dat B6,.dat X1,.nil,.nil,.nil]:=rfl
theorem eO(a b c d e:W):Mf [a,.dat B6,b,c,d,e]=some (.ret (.bl true),[a,.dat B6,b,c,d,e]):=by kernel_rfl
theorem eP:∀ns:List Int,ns.length≤63->∃ws',EF [.dat (.lst (ns.map D.int))]=some (.d (.bl true),ws'):=by
 intro ns hns;have e1:Z7 (A0 0) Y8 (Y9 (mC (.int 30))) [.dat (.lst (ns.map D.int)),.dat B6,.dat X1,.nil,.nil,.nil]=some (.lst ((ns.take 30).map D.int),[.dat (.lst (ns.map D.int)),.dat B6,.dat X1,.nil,.nil,.nil]):=by
  show some (D.lst (T4 (ns.map D.int) none (some ((30:Nat):Int))),_)=_;rw[aS,List.map_take]
 have e2:sE [.dat (.lst (ns.map D.int)),.dat B6,.dat X1,.nil,.nil,.nil]=some ((ns.take 30++[7]).map D.int,[.dat (.lst (ns.map D.int)),.dat B6,.dat X1,.nil,.nil,.nil]):=by
  have:=eJ (mb:=mF (J7 (B4 (mC (.int 7)) C5))) e1 rfl (by simp;omega)
  unfold sE J8 mF;rw[show(M1 (Z7 (A0 0) Y8 (Y9 (mC (.int 30)))) fun env=>Option.map (fun p=>(D.lst p.1,p.2)) (J7 (B4 (mC (.int 7)) C5) env))=M1 (Z7 (A0 0) Y8 (Y9 (mC (.int 30)))) (mF (J7 (B4 (mC (.int 7)) C5)))from rfl,this,List.map_append]
  rfl
 obtain⟨v2,v3,v4,v5,h⟩:=eL turn (.dat (.lst (ns.map D.int))) (ns.take 30++[7]) (.dat X1) .nil .nil .nil;have e4:=X3 (eM e2 h) (eO (.dat (.lst (ns.map D.int))) v2 v3 v4 v5);exact⟨_,Hu (env:=[.dat (.lst (ns.map D.int)),.dat B6,v2,v3,v4,v5]) (by rw[eF];exact(eN _).trans e4) rfl⟩
end K94
namespace K94
open L2 L2.Mir PySem
abbrev oZ:Value:=.str "turnsigns.grids" 415
abbrev qN:Value:=.str "turnsigns.tables" 492
abbrev rE:Value:=.str "turnsigns.notes" 564
abbrev n6:Value:=.str "turnsigns.orders" 613
abbrev vG:Value:=.str "turnsigns.turned" 698
abbrev md5:Value:=.str "turnsigns.desk" 817
abbrev rF:Value:=.str "law_turnsigns_k94_desk_refuses" 1061
theorem eQ{P:Program}(w:World)(mg:OI)(fa:Addr)(h:Heap)(X:(hK w.params).In h)(G:h.Ns mainGlobals mg)(hfa:mg "law"=some (.ref fa)):
 ∃fd:FuncData,(∀(s:Shared) (v:Value),BindsTo s fd ⟨[v],[]⟩ [("_law_script",v)])/\PySem.W.noTabs (hK w.params)=true/\(∀p∈[689],∃c,PySem.W.codeHdIn (hK w.params) c p=true)/\∀base:Heap,(hK w.params).In base->base.Ns mainGlobals mg->W6 mg base->c8 P w (hK w.params) mg base gA 13 fa fd ["_law_script"] (pJ (hK w.params) [689] 1 EF):=by
 obtain⟨A1,A2,A3,A4,A5,A6,A7,A8,A9,A10,A11,A12,A13,A14,A15,A16,A17,A18,A19,A20,A21,A22,A23,A24,A25,A26,A27,A28,A29,A30,A31,A32,A33,A34,A35,A36,A37,A38,A39,A40,A41,A42,A43,A44,A45,A46,A47,A48,A49,A50⟩:eZ (hK w.params) "is_whole" GU 190 oZ 189/\eZ (hK w.params) "is_row" GV 195 oZ 194/\eZ (hK w.params) "is_grid" GW 200 oZ 199/\eZ (hK w.params) "is_square" GX 207 oZ 206/\eZ (hK w.params) "flipped" GY 212 oZ 211/\eZ (hK w.params) "running_sums" GZ 219 oZ 218/\eZ (hK w.params) "sums_across" Ga 229 oZ 228/\eZ (hK w.params) "sums_down" Gb 236 oZ 235/\eZ (hK w.params) "takes_turns" Gd 255 qN 254/\eZ (hK w.params) "is_table" Ge 260 qN 259/\eZ (hK w.params) "must_be_table" Dc 267 qN 266/\eZ (hK w.params) "summed" Gf 274 qN 273/\eZ (hK w.params) "unsummed" ME 281 qN 280/\eZ (hK w.params) "table_text" De 313 rE 312/\eZ (hK w.params) "unwritten" Gg 318 rE 317/\eZ (hK w.params) "is_note" Gh 323 rE 322/\eZ (hK w.params) "table_read" Dg 330 rE 329/\eZ (hK w.params) "heights_of_both" Dh 337 n6 336/\eZ (hK w.params) "pairs_of" Gi 342 n6 341/\eZ (hK w.params) "is_below" Di 347 n6 346/\eZ (hK w.params) "both_below" Dj 352 n6 351/\eZ (hK w.params) "both_above" Dk 357 n6 356/\eZ (hK w.params) "can_fall" Gj 364 n6 363/\eZ (hK w.params) "steps_in" Gk 369 n6 368/\eZ (hK w.params) "fallen" MF 376 n6 375/\eZ (hK w.params) "stepped" Dl 383 n6 382/\eZ (hK w.params) "lowest_total" Gm 388 n6 387/\eZ (hK w.params) "steps_from_lowest" Dm 393 n6 392/\eZ (hK w.params) "is_turn" Gn 455 vG 454/\eZ (hK w.params) "is_name" Go 504 md5 503/\eZ (hK w.params) "is_figure" Gp 511 md5 510/\eZ (hK w.params) "is_part" Gq 518 md5 517/\eZ (hK w.params) "is_line" Gr 523 md5 522/\eZ (hK w.params) "words_of" Dn 530 md5 529/\eZ (hK w.params) "words_as" Gs 535 md5 534/\eZ (hK w.params) "read_table" Dp 542 md5 541/\eZ (hK w.params) "turn_table" Gu 549 md5 548/\eZ (hK w.params) "step_table" Dq 556 md5 555/\eZ (hK w.params) "join_tables" Dr 563 md5 562/\eZ (hK w.params) "meet_tables" Ds 570 md5 569/\eZ (hK w.params) "tell_text" Dt 577 md5 576/\eZ (hK w.params) "tell_number" Gv 584 md5 583/\eZ (hK w.params) "tell_minus" Gw 591 md5 590/\eZ (hK w.params) "tell_pairs" Gx 598 md5 597/\eZ (hK w.params) "tell_steps" Du 605 md5 604/\eZ (hK w.params) "tell_below" Dv 612 md5 611/\eZ (hK w.params) "_law_refused" Gy 673 rF 672/\eZ (hK w.params) "_law_bad" Gz 680 rF 679/\eZ (hK w.params) "_law_due" HA 687 rF 686/\eZ (hK w.params) "law" Bk 694 rF 693:=by refine⟨?_,?_,?_,?_,?_,?_,?_,?_,?_,?_,?_,?_,?_,?_,?_,?_,?_,?_,?_,?_,?_,?_,?_,?_,?_,?_,?_,?_,?_,?_,?_,?_,?_,?_,?_,?_,?_,?_,?_,?_,?_,?_,?_,?_,?_,?_,?_,?_,?_,?_⟩<;>constructor<;>kernel_rfl
 have hC_:PySem.W.nsIn (hK w.params) mainGlobals "Desk"=some (some (.ref 643)):=by kernel_rfl
 have dk_:nF (hK w.params) 643:=⟨⟨by kernel_rfl,by kernel_rfl,by kernel_rfl,by kernel_rfl⟩,by kernel_rfl,by kernel_rfl,by kernel_rfl,by kernel_rfl,Vi (by kernel_rfl) (by kernel_rfl) (by kernel_rfl) (by kernel_rfl) (by kernel_rfl),by unfold V5;kernel_rfl⟩
 obtain⟨B0,B1,B2⟩:mU (hK w.params) 643 "__init__" "Desk.__init__" Ho 628 (.str "turnsigns.desk" 817) 627/\mU (hK w.params) 643 "table_kept" "Desk.table_kept" Dw 640 (.str "turnsigns.desk" 817) 639/\mU (hK w.params) 643 "say" "Desk.say" CK 633 (.str "turnsigns.desk" 817) 632:=by refine⟨?_,?_,?_⟩<;>constructor<;>kernel_rfl
 have bB0:=B0.f.binds (ps:=["self"]) fun _ _ _ _ _ _=>jS fun _=>rfl
 have bB1:=B1.f.binds (ps:=["self","name"]) fun _ _ _ _ _ _=>lZ fun _ _=>rfl
 have bB2:=B2.f.binds (ps:=["self","line"]) fun _ _ _ _ _ _=>lZ fun _ _=>rfl
 have e:=hfa.symm.trans (Qn X G A50.a)
 cases e;have T:Txt (hK w.params) mg:=⟨by kernel_rfl,Zv X G (by kernel_rfl),Zv X G (by kernel_rfl),Zv X G (by kernel_rfl),Zv X G (by kernel_rfl),Zv X G (by kernel_rfl),Zv X G (by kernel_rfl),Zv X G (by kernel_rfl),Zv X G (by kernel_rfl),Zv X G (by kernel_rfl),Zv X G (by kernel_rfl),Zv X G (by kernel_rfl),Zv X G (by kernel_rfl),Zv X G (by kernel_rfl),Zv X G (by kernel_rfl),Zv X G (by kernel_rfl),⟨_,A40.a,A40.g X G,T6 (by kernel_rfl)⟩,⟨_,A39.a,A39.g X G,T6 (by kernel_rfl)⟩,⟨_,A38.a,A38.g X G,T6 (by kernel_rfl)⟩,⟨_,A37.a,A37.g X G,T6 (by kernel_rfl)⟩,⟨_,A36.a,A36.g X G,T6 (by kernel_rfl)⟩,⟨_,A46.a,A46.g X G,T6 (by kernel_rfl)⟩,⟨_,A45.a,A45.g X G,T6 (by kernel_rfl)⟩,⟨_,A44.a,A44.g X G,T6 (by kernel_rfl)⟩,⟨_,A43.a,A43.g X G,T6 (by kernel_rfl)⟩,⟨_,A42.a,A42.g X G,T6 (by kernel_rfl)⟩,⟨_,A41.a,A41.g X G,T6 (by kernel_rfl)⟩,⟨494,Qn X G (by kernel_rfl)⟩,⟨823,Qn X G (by kernel_rfl)⟩,⟨819,Qn X G (by kernel_rfl)⟩,⟨821,Qn X G (by kernel_rfl)⟩⟩
 have b1:=A1.f.binds (ps:=["thing"]) fun _ _ _ _ _ _=>jS fun _=>rfl
 have b2:=A2.f.binds (ps:=["thing","width"]) fun _ _ _ _ _ _=>lZ fun _ _=>rfl
 have b3:=A3.f.binds (ps:=["thing","many","width"]) fun _ _ _ _ _ _=>sB fun _ _ _=>rfl
 have b4:=A4.f.binds (ps:=["thing","least","greatest"]) fun _ _ _ _ _ _=>sB fun _ _ _=>rfl
 have b5:=A5.f.binds (ps:=["grid"]) fun _ _ _ _ _ _=>jS fun _=>rfl
 have b6:=A6.f.binds (ps:=["row"]) fun _ _ _ _ _ _=>jS fun _=>rfl
 have b7:=A7.f.binds (ps:=["grid"]) fun _ _ _ _ _ _=>jS fun _=>rfl
 have b8:=A8.f.binds (ps:=["grid"]) fun _ _ _ _ _ _=>jS fun _=>rfl
 have b9:=A9.f.binds (ps:=["line"]) fun _ _ _ _ _ _=>jS fun _=>rfl
 have b10:=A10.f.binds (ps:=["thing"]) fun _ _ _ _ _ _=>jS fun _=>rfl
 have b11:=A11.f.binds (ps:=["thing"]) fun _ _ _ _ _ _=>jS fun _=>rfl
 have b12:=A12.f.binds (ps:=["table"]) fun _ _ _ _ _ _=>jS fun _=>rfl
 have b13:=A13.f.binds (ps:=["heights"]) fun _ _ _ _ _ _=>jS fun _=>rfl
 have b14:=A14.f.binds (ps:=["table"]) fun _ _ _ _ _ _=>jS fun _=>rfl
 have b15:=A15.f.binds (ps:=["text"]) fun _ _ _ _ _ _=>jS fun _=>rfl
 have b16:=A16.f.binds (ps:=["thing"]) fun _ _ _ _ _ _=>jS fun _=>rfl
 have b17:=A17.f.binds (ps:=["text"]) fun _ _ _ _ _ _=>jS fun _=>rfl
 have b18:=A18.f.binds (ps:=["one","other"]) fun _ _ _ _ _ _=>lZ fun _ _=>rfl
 have b19:=A19.f.binds (ps:=["one","other"]) fun _ _ _ _ _ _=>lZ fun _ _=>rfl
 have b20:=A20.f.binds (ps:=["one","other"]) fun _ _ _ _ _ _=>lZ fun _ _=>rfl
 have b21:=A21.f.binds (ps:=["one","other"]) fun _ _ _ _ _ _=>lZ fun _ _=>rfl
 have b22:=A22.f.binds (ps:=["one","other"]) fun _ _ _ _ _ _=>lZ fun _ _=>rfl
 have b23:=A23.f.binds (ps:=["heights","row","column"]) fun _ _ _ _ _ _=>sB fun _ _ _=>rfl
 have b24:=A24.f.binds (ps:=["heights"]) fun _ _ _ _ _ _=>jS fun _=>rfl
 have b25:=A25.f.binds (ps:=["heights","place"]) fun _ _ _ _ _ _=>lZ fun _ _=>rfl
 have b26:=A26.f.binds (ps:=["table","place"]) fun _ _ _ _ _ _=>lZ fun _ _=>rfl
 have b27:=A27.f.binds (ps:=["side"]) fun _ _ _ _ _ _=>jS fun _=>rfl
 have b28:=A28.f.binds (ps:=["table"]) fun _ _ _ _ _ _=>jS fun _=>rfl
 have b29:=A29.f.binds (ps:=["thing"]) fun _ _ _ _ _ _=>jS fun _=>rfl
 have b30:=A30.f.binds (ps:=["word"]) fun _ _ _ _ _ _=>jS fun _=>rfl
 have b31:=A31.f.binds (ps:=["word"]) fun _ _ _ _ _ _=>jS fun _=>rfl
 have b32:=A32.f.binds (ps:=["word","part"]) fun _ _ _ _ _ _=>lZ fun _ _=>rfl
 have b33:=A33.f.binds (ps:=["words"]) fun _ _ _ _ _ _=>jS fun _=>rfl
 have b34:=A34.f.binds (ps:=["line"]) fun _ _ _ _ _ _=>jS fun _=>rfl
 have b35:=A35.f.binds (ps:=["words","parts"]) fun _ _ _ _ _ _=>lZ fun _ _=>rfl
 have b36:=A36.f.binds (ps:=["tables","words"]) fun _ _ _ _ _ _=>lZ fun _ _=>rfl
 have b37:=A37.f.binds (ps:=["tables","words"]) fun _ _ _ _ _ _=>lZ fun _ _=>rfl
 have b38:=A38.f.binds (ps:=["tables","words"]) fun _ _ _ _ _ _=>lZ fun _ _=>rfl
 have b39:=A39.f.binds (ps:=["tables","words"]) fun _ _ _ _ _ _=>lZ fun _ _=>rfl
 have b40:=A40.f.binds (ps:=["tables","words"]) fun _ _ _ _ _ _=>lZ fun _ _=>rfl
 have b41:=A41.f.binds (ps:=["tables"]) fun _ _ _ _ _ _=>jS fun _=>rfl
 have b42:=A42.f.binds (ps:=["tables"]) fun _ _ _ _ _ _=>jS fun _=>rfl
 have b43:=A43.f.binds (ps:=["tables"]) fun _ _ _ _ _ _=>jS fun _=>rfl
 have b44:=A44.f.binds (ps:=["tables"]) fun _ _ _ _ _ _=>jS fun _=>rfl
 have b45:=A45.f.binds (ps:=["tables"]) fun _ _ _ _ _ _=>jS fun _=>rfl
 have b46:=A46.f.binds (ps:=["tables"]) fun _ _ _ _ _ _=>jS fun _=>rfl
 have b47:=A47.f.binds (ps:=["_law_call"]) fun _ _ _ _ _ _=>jS fun _=>rfl
 have b48:=A48.f.binds (ps:=["_law_k"]) fun _ _ _ _ _ _=>jS fun _=>rfl
 have b49:=A49.f.binds (ps:=["_law_k"]) fun _ _ _ _ _ _=>jS fun _=>rfl
 have b50:=A50.f.binds (ps:=["_law_script"]) fun _ _ _ _ _ _=>jS fun _=>rfl
 have tc_law:DI (hK w.params) (.ref 693) 689=true:=by kernel_rfl
 refine⟨PySem.W.fnOf "law" "law" (V8 Bk) (P0 Bk) (D5 Bk) .none .none .none (.str "law_turnsigns_k94_desk_refuses" 1061) none (.ref 693) .none,fun s v=>.of_eq rfl,by kernel_rfl,fun p hp=>?_,fun base _ _ hBm=>?_⟩
 ·obtain rfl:=List.mem_singleton.mp hp
  obtain⟨c,_,hc⟩:=Kq tc_law;exact⟨c,hc⟩
 have kD:oA P w (hK w.params) mg "SIGNS" [(.inl 1,.inr "+"),(.inl (-1),.inr "-"),(.inl 0,.inr "0")]:=LR (es:=[⟨1,(.int 1 566),(.str "+" 567)⟩,⟨(-2),(.int (-1) 569),(.str "-" 570)⟩,⟨0,(.int 0 571),(.str "0" 572)⟩]) (ep:=3) (Qn X G (v:=.ref 307) (by kernel_rfl)) (by kernel_rfl) (by decide) (.cons ⟨_,rfl⟩ rfl ⟨_,rfl⟩ (.cons ⟨_,rfl⟩ rfl ⟨_,rfl⟩ (.cons ⟨_,rfl⟩ rfl ⟨_,rfl⟩ (.nil))))
 have i8:oA P w (hK w.params) mg "NUMBERS" [(.inr "+",.inl 1),(.inr "-",.inl (-1)),(.inr "0",.inl 0)]:=LR (es:=[HG.hE w.params "+" 577 (.int 1 578),HG.hE w.params "-" 579 (.int (-1) 581),HG.hE w.params "0" 582 (.int 0 583)]) (ep:=3) (Qn X G (v:=.ref 308) (by kernel_rfl)) (by kernel_rfl) (by decide) (.cons ⟨_,rfl⟩ rfl ⟨_,rfl⟩ (.cons ⟨_,rfl⟩ rfl ⟨_,rfl⟩ (.cons ⟨_,rfl⟩ rfl ⟨_,rfl⟩ (.nil))))
 have jD:pL P w (hK w.params) mg "LINES" [("table",["new","text"]),("turn",["old","turn","new"]),("up",["old","figure","figure","new"]),("join",["old","old","new"]),("meet",["old","old","new"]),("kept",[]),("show",["old"]),("number",["old"]),("minus",["old"]),("pairs",["old"]),("steps",["old"]),("below",["old","old"])]:=VS (es:=[HG.hE w.params "table" 825 (.ref 488),HG.hE w.params "turn" 828 (.ref 489),HG.hE w.params "up" 832 (.ref 490),HG.hE w.params "join" 837 (.ref 491),HG.hE w.params "meet" 841 (.ref 492),HG.hE w.params "kept" 845 (.ref 493),HG.hE w.params "show" 846 (.ref 494),HG.hE w.params "number" 848 (.ref 495),HG.hE w.params "minus" 850 (.ref 496),HG.hE w.params "pairs" 852 (.ref 497),HG.hE w.params "steps" 854 (.ref 498),HG.hE w.params "below" 856 (.ref 499)]) (ep:=12) (Qn X G (v:=.ref 487) (by kernel_rfl)) (by kernel_rfl) (by decide) (.cons ⟨_,rfl⟩ rfl ⟨488,rfl,S8 (its:=[(.str "new" 826),(.str "text" 827)]) (n:=0) (by kernel_rfl) (by decide) (.cons ⟨_,rfl⟩ (.cons ⟨_,rfl⟩ (.nil))),by decide⟩ (.cons ⟨_,rfl⟩ rfl ⟨489,rfl,S8 (its:=[(.str "old" 829),(.str "turn" 830),(.str "new" 831)]) (n:=0) (by kernel_rfl) (by decide) (.cons ⟨_,rfl⟩ (.cons ⟨_,rfl⟩ (.cons ⟨_,rfl⟩ (.nil)))),by decide⟩ (.cons ⟨_,rfl⟩ rfl ⟨490,rfl,S8 (its:=[(.str "old" 833),(.str "figure" 834),(.str "figure" 835),(.str "new" 836)]) (n:=0) (by kernel_rfl) (by decide) (.cons ⟨_,rfl⟩ (.cons ⟨_,rfl⟩ (.cons ⟨_,rfl⟩ (.cons ⟨_,rfl⟩ (.nil))))),by decide⟩ (.cons ⟨_,rfl⟩ rfl ⟨491,rfl,S8 (its:=[(.str "old" 838),(.str "old" 839),(.str "new" 840)]) (n:=0) (by kernel_rfl) (by decide) (.cons ⟨_,rfl⟩ (.cons ⟨_,rfl⟩ (.cons ⟨_,rfl⟩ (.nil)))),by decide⟩ (.cons ⟨_,rfl⟩ rfl ⟨492,rfl,S8 (its:=[(.str "old" 842),(.str "old" 843),(.str "new" 844)]) (n:=0) (by kernel_rfl) (by decide) (.cons ⟨_,rfl⟩ (.cons ⟨_,rfl⟩ (.cons ⟨_,rfl⟩ (.nil)))),by decide⟩ (.cons ⟨_,rfl⟩ rfl ⟨493,rfl,S8 (its:=[]) (n:=0) (by kernel_rfl) (by decide) (.nil),by decide⟩ (.cons ⟨_,rfl⟩ rfl ⟨494,rfl,S8 (its:=[(.str "old" 847)]) (n:=0) (by kernel_rfl) (by decide) (.cons ⟨_,rfl⟩ (.nil)),by decide⟩ (.cons ⟨_,rfl⟩ rfl ⟨495,rfl,S8 (its:=[(.str "old" 849)]) (n:=0) (by kernel_rfl) (by decide) (.cons ⟨_,rfl⟩ (.nil)),by decide⟩ (.cons ⟨_,rfl⟩ rfl ⟨496,rfl,S8 (its:=[(.str "old" 851)]) (n:=0) (by kernel_rfl) (by decide) (.cons ⟨_,rfl⟩ (.nil)),by decide⟩ (.cons ⟨_,rfl⟩ rfl ⟨497,rfl,S8 (its:=[(.str "old" 853)]) (n:=0) (by kernel_rfl) (by decide) (.cons ⟨_,rfl⟩ (.nil)),by decide⟩ (.cons ⟨_,rfl⟩ rfl ⟨498,rfl,S8 (its:=[(.str "old" 855)]) (n:=0) (by kernel_rfl) (by decide) (.cons ⟨_,rfl⟩ (.nil)),by decide⟩ (.cons ⟨_,rfl⟩ rfl ⟨499,rfl,S8 (its:=[(.str "old" 857),(.str "old" 858)]) (n:=0) (by kernel_rfl) (by decide) (.cons ⟨_,rfl⟩ (.cons ⟨_,rfl⟩ (.nil))),by decide⟩ (.nil)))))))))))))
 have lT:mO P w (hK w.params) mg "TURNS" [("stay","stayed"),("left","turned_left"),("half","turned_half"),("right","turned_right"),("upright","told_upright"),("flat","told_flat"),("slant","told_slant"),("other","told_other")]:=GB (es:=[HG.hE w.params "stay" 755 (.ref 400),HG.hE w.params "left" 756 (.ref 407),HG.hE w.params "half" 757 (.ref 414),HG.hE w.params "right" 758 (.ref 421),HG.hE w.params "upright" 759 (.ref 426),HG.hE w.params "flat" 760 (.ref 433),HG.hE w.params "slant" 761 (.ref 440),HG.hE w.params "other" 762 (.ref 447)]) (ep:=8) (Qn X G (v:=.ref 448) (by kernel_rfl)) (by kernel_rfl) (by decide) (.cons ⟨_,rfl⟩ rfl rfl (Qn X G (v:=.ref 400) (by kernel_rfl)) (.cons ⟨_,rfl⟩ rfl rfl (Qn X G (v:=.ref 407) (by kernel_rfl)) (.cons ⟨_,rfl⟩ rfl rfl (Qn X G (v:=.ref 414) (by kernel_rfl)) (.cons ⟨_,rfl⟩ rfl rfl (Qn X G (v:=.ref 421) (by kernel_rfl)) (.cons ⟨_,rfl⟩ rfl rfl (Qn X G (v:=.ref 426) (by kernel_rfl)) (.cons ⟨_,rfl⟩ rfl rfl (Qn X G (v:=.ref 433) (by kernel_rfl)) (.cons ⟨_,rfl⟩ rfl rfl (Qn X G (v:=.ref 440) (by kernel_rfl)) (.cons ⟨_,rfl⟩ rfl rfl (Qn X G (v:=.ref 447) (by kernel_rfl)) (.nil)))))))))
 have gX:mO P w (hK w.params) mg "MAKING" [("table","read_table"),("turn","turn_table"),("up","step_table"),("join","join_tables"),("meet","meet_tables")]:=GB (es:=[HG.hE w.params "table" 995 (.ref 542),HG.hE w.params "turn" 996 (.ref 549),HG.hE w.params "up" 997 (.ref 556),HG.hE w.params "join" 998 (.ref 563),HG.hE w.params "meet" 999 (.ref 570)]) (ep:=5) (Qn X G (v:=.ref 613) (by kernel_rfl)) (by kernel_rfl) (by decide) (.cons ⟨_,rfl⟩ rfl rfl (Qn X G (v:=.ref 542) (by kernel_rfl)) (.cons ⟨_,rfl⟩ rfl rfl (Qn X G (v:=.ref 549) (by kernel_rfl)) (.cons ⟨_,rfl⟩ rfl rfl (Qn X G (v:=.ref 556) (by kernel_rfl)) (.cons ⟨_,rfl⟩ rfl rfl (Qn X G (v:=.ref 563) (by kernel_rfl)) (.cons ⟨_,rfl⟩ rfl rfl (Qn X G (v:=.ref 570) (by kernel_rfl)) (.nil))))))
 have fG:mO P w (hK w.params) mg "TELLING" [("show","tell_text"),("number","tell_number"),("minus","tell_minus"),("pairs","tell_pairs"),("steps","tell_steps"),("below","tell_below")]:=GB (es:=[HG.hE w.params "show" 1006 (.ref 577),HG.hE w.params "number" 1007 (.ref 584),HG.hE w.params "minus" 1008 (.ref 591),HG.hE w.params "pairs" 1009 (.ref 598),HG.hE w.params "steps" 1010 (.ref 605),HG.hE w.params "below" 1011 (.ref 612)]) (ep:=6) (Qn X G (v:=.ref 614) (by kernel_rfl)) (by kernel_rfl) (by decide) (.cons ⟨_,rfl⟩ rfl rfl (Qn X G (v:=.ref 577) (by kernel_rfl)) (.cons ⟨_,rfl⟩ rfl rfl (Qn X G (v:=.ref 584) (by kernel_rfl)) (.cons ⟨_,rfl⟩ rfl rfl (Qn X G (v:=.ref 591) (by kernel_rfl)) (.cons ⟨_,rfl⟩ rfl rfl (Qn X G (v:=.ref 598) (by kernel_rfl)) (.cons ⟨_,rfl⟩ rfl rfl (Qn X G (v:=.ref 605) (by kernel_rfl)) (.cons ⟨_,rfl⟩ rfl rfl (Qn X G (v:=.ref 612) (by kernel_rfl)) (.nil)))))))
 have lA:=dM P w base (Vn A1.f T ) A1 X G b1
 have hW:=dM P w base (Vs A2.f T lA) A2 X G b2
 have lI:=dM P w base (WB A3.f T hW) A3 X G b3
 have kP:=dM P w base (WE A4.f T lI) A4 X G b4
 have jN:=dM P w base (WI A5.f T ) A5 X G b5
 have jH:=dM P w base (WK A6.f T ) A6 X G b6
 have hG:=dM P w base (WN A7.f T jH) A7 X G b7
 have kQ:=dM P w base (WR A8.f T jN hG) A8 X G b8
 have jT:=dM P w base (WT A9.f T ) A9 X G b9
 have gZ:=dM P w base (WW A10.f T kP jT jN) A10 X G b10
 have c6:=dM P w base (WY A11.f T gZ) A11 X G b11
 have d8:=dX P w base (Wa A11.f T gZ ) A11 X G b11
 have f7:=dM P w base (Wd A12.f T hG kQ) A12 X G b12
 have fJ:=dM P w base (We A13.f T ) A13 X G b13
 have iG:=dM P w base (Wg A14.f T c6 kD) A14 X G b14
 have jX:=dX P w base (Wi A14.f T c6 kD d8) A14 X G b14
 have gR:=dM P w base (Wm A15.f T i8) A15 X G b15
 have g0:=dM P w base (Wr A16.f T gZ gR i8) A16 X G b16
 have iD:=dM P w base (Wt A17.f T gR g0) A17 X G b17
 have jU:=dX P w base (Wv A17.f T gR g0 ) A17 X G b17
 have c5:=dM P w base (Wx A18.f T c6 f7) A18 X G b18
 have c9:=dX P w base (Wz A18.f T c6 f7 d8) A18 X G b18
 have fH:=dM P w base (XD A19.f T ) A19 X G b19
 have iI:=dM P w base (XG A20.f T c5 fH) A20 X G b20
 have jJ:=dX P w base (XI A20.f T c5 fH c9) A20 X G b20
 have iF:=dM P w base (XJ A21.f T c5 fJ fH) A21 X G b21
 have jW:=dX P w base (XN A21.f T c5 fJ fH c9) A21 X G b21
 have iE:=dM P w base (XO A22.f T c5 fJ fH) A22 X G b22
 have jV:=dX P w base (XR A22.f T c5 fJ fH c9) A22 X G b22
 have lB:=dM P w base (XT A23.f T ) A23 X G b23
 have g9:=dM P w base (XX A24.f T lB) A24 X G b24
 have kE:=dM P w base (XY A25.f T ) A25 X G b25
 have jP:=dM P w base (XZ A26.f T c6 f7 fJ kE hW g9) A26 X G b26
 have j3:=dX P w base (Xb A26.f T c6 f7 fJ kE hW g9 d8) A26 X G b26
 have gW:=dM P w base (Xe A27.f T ) A27 X G b27
 have eX:=dM P w base (Xh A28.f T c6 gW f7) A28 X G b28
 have gH:=dX P w base (Xj A28.f T c6 gW f7 d8) A28 X G b28
 have kL:=dM P w base (Xm A29.f T lT) A29 X G b29
 have kK:=dM P w base (Xq A30.f T ) A30 X G b30
 have jI:=dM P w base (Xu A31.f T ) A31 X G b31
 have kM:=dM P w base (Xx A32.f T kK g0 kL jI) A32 X G b32
 have jO:=dM P w base (Xz A33.f T kM jD) A33 X G b33
 have gE:=dM P w base (YB A34.f T jO) A34 X G b34
 have jK:=dX P w base (YD A34.f T jO ) A34 X G b34
 have eU:=dM P w base (YG A35.f T jD) A35 X G b35
 have fK:=dM P w base (YI A36.f T iD) A36 X G b36
 have iV:=dX P w base (YK A36.f T iD jU) A36 X G b36
 have fL:=dM P w base (YL A37.f T ) A37 X G b37
 have iW:=dX P w base (YM A37.f T ) A37 X G b37
 have fM:=dM P w base (YO A38.f T jP) A38 X G b38
 have iX:=dX P w base (YR A38.f T jP j3) A38 X G b38
 have fD:=dM P w base (YT A39.f T iE) A39 X G b39
 have iJ:=dX P w base (YV A39.f T iE jV) A39 X G b39
 have fE:=dM P w base (YX A40.f T iF) A40 X G b40
 have iK:=dX P w base (YZ A40.f T iF jW) A40 X G b40
 have fY:=dM P w base (ZB A41.f T iG) A41 X G b41
 have jE:=dX P w base (ZD A41.f T iG jX) A41 X G b41
 have fF:=dM P w base (ZE A42.f T ) A42 X G b42
 have iL:=dX P w base (ZF A42.f T ) A42 X G b42
 have fN:=dM P w base (ZG A43.f T ) A43 X G b43
 have iY:=dX P w base (ZH A43.f T ) A43 X G b43
 have fO:=dM P w base (ZI A44.f T ) A44 X G b44
 have iZ:=dX P w base (ZJ A44.f T ) A44 X G b44
 have fP:=dM P w base (ZL A45.f T eX) A45 X G b45
 have i3:=dX P w base (ZN A45.f T eX gH) A45 X G b45
 have fQ:=dM P w base (ZP A46.f T iI) A46 X G b46
 have i4:=dX P w base (ZR A46.f T iI jJ) A46 X G b46
 have fC:mS P w (hK w.params) mg base "table_kept" 1 X0:=⟨_,_,_,_,hC_,dk_.cl,B1.m,ZT B1.f T,rfl,bB1⟩
 have iU:mB P w (hK w.params) mg base "table_kept" 1 EC:=⟨_,_,_,_,hC_,dk_.cl,B1.m,ZV B1.f T,rfl,bB1⟩
 have kR:mS P w (hK w.params) mg base "say" 10 Q2:=⟨_,_,_,_,hC_,dk_.cl,B2.m,ZY B2.f T gE eU fC fK fL fM fD fE fY fF fN fO fP fQ gX fG,rfl,bB2⟩
 have mV:mB P w (hK w.params) mg base "say" 10 CQ:=⟨_,_,_,_,hC_,dk_.cl,B2.m,aK B2.f T gE eU fC fK fL fM fD fE fY fF fN fO fP fQ gX fG jK iU iV iW iX iJ iK jE iL iY iZ i3 i4,rfl,bB2⟩
 have FS_:=aA (P:=P) (w:=w) (base:=base) (C:=643) B2.f T gE eU fC fK fL fM fD fE fY fF fN fO fP fQ gX fG
 have iM:=aO (P:=P) (w:=w) (mg:=mg) (base:=base) A47.f T (A47.g X G) b47
 have j4:=dM P w base (aP A48.f T ) A48 X G b48
 have j5:=dM P w base (aQ A49.f T ) A49 X G b49
 exact aR A50.f rfl T (Ta tc_law A50.c (by kernel_rfl) hBm) j4 j5 iM kR ⟨by kernel_rfl,B0.a,B0.i,by kernel_rfl⟩ (aC B0.f dk_.cl dk_.nb) bB0 B2.m FS_ bB2 (Qn X G hC_) hC_ dk_ mV
end K94
theorem PySem.Challenge.cw_turnsigns_k94_desk_refuses_holds : PySem.Challenge.rw_turnsigns_k94_desk_refuses.Holds :=
 K94.Nv (L2.Mir.TZ (l:=PySem.Challenge.rw_turnsigns_k94_desk_refuses) (k:=13) (x := "_law_script") (fn:=K94.EF) rfl rfl ⟨rfl,by decide,by decide⟩ (fun w h Y=>⟨PySem.W.km_in_of Y,PySem.W.km_tabs_of Y⟩) K94.eQ K94.eP)
