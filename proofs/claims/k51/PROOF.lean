import PyProof.Rows.All
import Wide.All
import OpenK.AllK
import Wide.FinOn
import Lean
import PyProof.EqAt
import PyProof.EqKinds
import PyProof.TupleCall
import PySem.Challenge.RW_turnsigns_k51_tables_turned
set_option Elab.async false
set_option linter.all false
set_option maxRecDepth 100000
set_option maxHeartbeats 0
abbrev Qq:=PySem.W.Frag
abbrev Qz:=@PySem.wpAny_bind
abbrev Qj:=@PySem.Heap.get?_push_of_some
abbrev Qx:=@Option.bind_some
abbrev Qk:=@List.length_map
abbrev Qv:=@PySem.wpAny_pure
abbrev Qw:=@List.all_eq_true
abbrev Qy:=@Bool.and_eq_true
abbrev Qu:=@PySem.Heap.lt_size
abbrev Qp:=@List.size_toArray
abbrev Qb:=@Nat.le_refl
abbrev Qg:=@List.getElem?_eq_some_iff
abbrev Qh:=@List.mem_cons
abbrev Qm:=@List.getElem?_set_ne
abbrev Qn:=@PySem.Heap.get?_push_size
abbrev Qc:=@if_pos
abbrev Ql:=@if_neg
abbrev Qd:=@Nat.lt_of_lt_of_le
abbrev Qr:=@Nat.ne_of_lt
abbrev Qs:=@List.map_cons
abbrev Qi:=@PySem.boot_len
abbrev Qt:=@PySem.mem_of_lookup
abbrev Qa:=@List.not_mem_nil
abbrev Qe:=@PyProof.Rows.slot_tuple_getitem
abbrev Qo:=@Nat.le_trans
abbrev Zq:=@List.length_append
abbrev Zz:=@PySem.W.mg_none_of
abbrev Zj:=@PySem.W.kia_one
abbrev Zx:=@decide_eq_false
abbrev Zk:=@List.mem_map
abbrev Zv:=@PySem.wpAny_mono
abbrev Zw:=@List.getElem?_eq_getElem
abbrev Zy:=@Ne.symm
abbrev Zu:=@List.mem_append_right
abbrev Zp:=@List.length_set
abbrev Zb:=@Option.some.injEq
abbrev Zg:=@List.getElem?_set_self
abbrev Zf:=@PySem.wpAny_field
abbrev Zh:=@Bool.false_eq_true
abbrev Zm:=@PySem.PassesOwn.never
abbrev Zn:=@List.map_map
abbrev Zc:=@List.length_replicate
abbrev Zl:=@PySem.wpAny_newObj_type
abbrev Zd:=@decide_eq_true_eq
abbrev Zr:=@PySem.Heap.size_push
abbrev Zs:=@if_true
abbrev Zi:=@PySem.W.kia_tup
abbrev Zt:=@List.replicate_succ
abbrev Za:=@List.map_congr_left
abbrev Ze:=@Bool.true_and
abbrev Zo:=@PySem.W.mg_of
abbrev Yq:=@List.mem_range
abbrev Yz:=@Option.isSome_iff_exists
abbrev Yj:=@Option.some.inj
abbrev Yx:=@List.mem_cons_self
abbrev Yk:=@Bool.false_ne_true
abbrev Yv:=@PySem.wpAny_callSpecial?_slot
abbrev Yw:=@List.mem_cons_of_mem
abbrev Yy:=@PySem.wpAny_truthy_bool
abbrev Yu:=@List.getElem?_map
abbrev Yp:=@List.length_zipWith
abbrev Yb:=@List.find?_cons
abbrev Yg:=@or_false
abbrev Yh:=@Nat.lt_irrefl
abbrev Ym:=@PySem.W.Fast.te14364793385576792824
abbrev Yn:=@beq_iff_eq
abbrev Yc:=@PySem.W.kitx_dict
abbrev Yl:=@Int.toNat_natCast
abbrev Yd:=@PySem.SeqAt.canLay_of_shaped
abbrev Yr:=@List.length_take
abbrev Ys:=@PySem.wpAny_call_entry
abbrev Yi:=@PySem.F.slot_tuple_iterator_next
abbrev Yt:=@List.getElem_mem
abbrev Ye:=@List.mem_filterMap
abbrev Yo:=@PySem.wpAny_Call_Name_kw
abbrev Jq:=@List.getElem?_zipWith
abbrev Jz:=@List.getElem?_append_left
abbrev Jj:=@Nat.le_of_lt
abbrev Jx:=@if_false
abbrev Jk:=@PySem.wpAny_loadPart'
abbrev Jv:=@List.getElem?_replicate
abbrev Jw:=@beq_eq_false_iff_ne
abbrev Jy:=@List.filterMap_cons
abbrev Ju:=@PySem.wpAny_seqItems
abbrev Jp:=@PySem.W.hideAll_get
abbrev Jb:=@PySem.wpAny_setField_rec
abbrev Jg:=@congrFun
abbrev Jf:=@congrArg
abbrev Jh:=@PySem.wpAny_holding
abbrev Jm:=@Nat.lt_succ_of_lt
abbrev Jn:=@Nat.le_of_succ_le
abbrev Jc:=@List.mem_of_getElem?
abbrev Jl:=@Classical.byContradiction
abbrev Jd:=@PySem.sizeLine_eq
abbrev Jr:=@Bool.false_and
abbrev Js:=@Prod.ext
abbrev Ji:=@List.length_cons
abbrev Jt:=@List.filter_cons_of_neg
abbrev Ja:=@List.filter_cons_of_pos
abbrev Je:=@List.any_cons
abbrev Jo:=@PySem.wpAny_ite_false
abbrev Uq:=@List.pairwise_cons
abbrev Uz:=@Int.emod_nonneg
abbrev Uj:=@PySem.W.cellsFrom_some
abbrev Ux:=@List.flatten_cons
abbrev Uk:=@decide_eq_true
abbrev Uv:=@PySem.F.slot_zip_next
abbrev Uw:=@PyProof.Rows.callWith_type1
abbrev Uy:=@beq_self_eq_true
abbrev Uu:=@PySem.codeAny_call_builtin
abbrev Up:=@List.all_cons
abbrev Ub:=@Nat.zero_le
abbrev Ug:=@PySem.pairTrees_cons_walk
abbrev Uf:=@PySem.wpAny_execs_nil
abbrev Uh:=@PySem.wpAny_passesOwn
abbrev Um:=@List.append_nil
abbrev Uc:=@List.map_append
abbrev Ul:=@PySem.F.args_tuple_add_2
abbrev Ud:=@Int.emod_lt_of_pos
abbrev Ur:=@PySem.F.entry_tuple_add
abbrev Us:=@PySem.W.kitx_list
abbrev Ui:=@PySem.wpAny_pyIter_list
abbrev Ut:=@of_decide_eq_true
abbrev Ua:=@PySem.F.args_tuple_iterator_next_1
abbrev Ue:=@PySem.F.slot_tuple_add
abbrev Uo:=@PySem.F.entry_tuple_iterator_next
abbrev Vq:=@PySem.wpAny_onRaise
abbrev Vz:=@PySem.F.slot_tuple_mul
abbrev Vj:=@Nat.le_add_right
abbrev Vx:=@List.ext_getElem
abbrev Vk:=@List.mem_append
abbrev Vv:=@PySem.codeAny_mono
abbrev Vw:=@List.nodup_cons
abbrev Vy:=@List.of_mem_zip
abbrev Vu:=@Nat.lt_trans
abbrev Vp:=@PySem.pushCells_keeps
abbrev Vb:=@PySem.wpAny_updateSeq_pair
abbrev Vg:=@Array.length_toList
abbrev Vf:=@PySem.Heap.get?_update_ne
abbrev Vh:=@Array.toList_append
abbrev Vm:=@List.map_id
abbrev Vn:=@Array.append_assoc
abbrev Vc:=@PySem.W.kitx_tuple
abbrev Vl:=@Nat.lt_of_le_of_lt
abbrev Vd:=@PySem.wpAny_pyIter_tuple
abbrev Vr:=@List.contains_cons
abbrev Vs:=@List.sum_cons
abbrev Vi:=@List.reverse_cons
abbrev Vt:=@Bool.not_eq_true'
abbrev Va:=@PySem.call_meets
abbrev Ve:=@Nat.ne_of_gt
abbrev Vo:=@Nat.le_of_eq
abbrev Xq:=@Nat.min_le_right
abbrev Xz:=@List.length_drop
abbrev Xj:=@Option.map_some
abbrev Xx:=@Bool.or_eq_true
abbrev Xk:=@List.all_append
abbrev OO:=Nat->Nat->Int
abbrev OI:=List (List Int)
abbrev OU:=PySem.Str->Option PySem.Value
abbrev OE:=PySem.Value->PySem.Shared->Prop
abbrev OA:=PySem.Addr->Prop
abbrev OX:=List (PySem.Addr×PySem.Obj)
namespace HG
open PySem PySem.W PySem.Calls PyProof.Rows
noncomputable def hnth {α:Type}(l:List α) (i:Nat) (d:α):α:=@List.rec α (fun _=>Nat->α) (fun _=>d) (fun a _ ih i=>@Nat.rec (fun _=>α) a (fun j _=>ih j) i) l i
def hsN(s:Stmt):Str:=match s with
 |.FunctionDef n ..=>n
 |.ClassDef n ..=>n
 |_=>Str.empty
def hsA(s:Stmt):Arguments:=match s with
 |.FunctionDef _ a ..=>a
 |_=>default
def hsB(s:Stmt):List Stmt:=match s with
 |.FunctionDef _ _ b ..=>b
 |.ClassDef _ _ _ b ..=>b
 |_=>[]
def hsS(s:Stmt):Scope:=match s with
 |.FunctionDef _ _ _ _ _ _ c ..=>c
 |_=>default
def hsP(s:Stmt):Pos:=match s with
 |.FunctionDef _ _ _ _ _ _ _ _ _ p=>p
 |_=>⟨0,0,0,0⟩
def hdep{α:Sort u}(_:α):Bool:=true
def hE(P:Params)(x:Str)(t:Tok)(v:Value):DictEntry:=⟨PyData.keyHash P x,.str x t,v⟩
def hZ:Obj:=⟨.type "tuple",none,.seq ⟨[]⟩ 0,⟨[]⟩⟩
def hU(l:List Value):Obj:=⟨.type "tuple",none,.seq ⟨l⟩ 0,⟨[]⟩⟩
def hN:Obj:=⟨.none,none,.fields ⟨[]⟩,⟨[]⟩⟩
def hC(n:Str)(t t2:Nat)(ln na fl:Int)(a:Addr)(g:Bool)(b:Addr)(v1 v2 v3 v4:Value):Obj:=
 ⟨.type "code",none,.fields ⟨[.str n t,.str n (Nat.add t 1),.str "/claim/cut.py" (Nat.add t 2),.int ln 0,.int na 0,.int 0 0,.int 0 0,.int fl 0,.ref a,.bool g,.int 181 0,.ref b,v1,v2,v3,v4,.int (Int.ofNat t2) 0,.int ln 0,.str "/claim/cut.py" (Nat.add t2 1)]⟩,⟨[]⟩⟩
def hX(s:Stmt)(q:Str)(g:Addr)(cl:List (Str×Addr))(d k dc m:Value)(an:Option Addr)(c ct:Value)(b:Addr):FuncData:=
 ⟨hsN s,q,hsA s,.stmts (hsB s),hsS s,g,cl,d,k,dc,m,an,c,ct,b⟩
def hR(s:Stmt):Obj:=⟨.none,none,.func (hX s (hsN s) 0 [] .none .none .none .none none .none .none 0),⟨[]⟩⟩
def hF(s:Stmt)(m c:Value):Obj:=⟨.type "function",none,.func (hX s (hsN s) 3 [] .none .none .none m none c .none 0),⟨[]⟩⟩
def hD5(s:Stmt)(a t:Nat)(ln na:Int)(m:Value):List Obj:=[hZ,hN,hR s,hC (hsN s) t (Nat.add t 3) ln na 3 a true (Nat.add a 1) .none .none .none (.ref (Nat.add a 2)),hF s m (.ref (Nat.add a 3))]
noncomputable def hvs (l:List Str) (t:Nat):List Value:=@List.rec Str (fun _=>Nat->List Value) (fun _=>[]) (fun x _ ih t=>.str x t::ih (Nat.succ t)) l t
noncomputable def hD7 (s:Stmt) (a t:Nat) (ln na:Int) (m:Value) (l:List Str):List Obj:=[hZ,hN,hU (hvs l (Nat.add t 3)),hZ,hR s,hC (hsN s) t (Nat.add (Nat.add t 3) l.length) ln na 3 a true (Nat.add a 1) .none (.ref (Nat.add a 2)) (.ref (Nat.add a 3)) (.ref (Nat.add a 4)),hF s m (.ref (Nat.add a 5))]
def hCl(P:Params)(s:Stmt)(a t:Nat)(ln:Int)(m:Value):List Obj:=
 [⟨.type "builtin_function_or_method",none,.fields ⟨[.builtin "type.__prepare__",.type "type"]⟩,⟨[]⟩⟩,
  ⟨.type "dict",none,.dict ⟨[hE P "__module__" (Nat.add t 7) m,hE P "__qualname__" (Nat.add t 9) (.str (hsN s) (Nat.add t 8)),hE P "__firstlineno__" (Nat.add t 11) (.int ln (Nat.add t 10)),hE P "__static_attributes__" (Nat.add t 12) (.ref (Nat.add a 6))]⟩ 4,⟨[]⟩⟩,
  hZ,hN,hC (hsN s) (Nat.add t 2) (Nat.add t 5) ln 0 0 (Nat.add a 2) false (Nat.add a 3) .none .none .none .none,
  ⟨.type "frame",none,.plain,⟨[some (.ref (Nat.add a 4)),some (.ref 3),some (.ref (Nat.add a 1)),none,some m,none,some (.ref 0)]⟩⟩,hZ,
  ⟨.type "dict",none,.dict ⟨[hE P "__module__" (Nat.add t 7) m,hE P "__firstlineno__" (Nat.add t 11) (.int ln (Nat.add t 10)),hE P "__static_attributes__" (Nat.add t 12) (.ref (Nat.add a 6)),hE P "__doc__" (Nat.add t 13) .none]⟩ 2,⟨[]⟩⟩,
  ⟨.type "type",none,.cls ⟨hsN s,[.ref 24],[.ref (Nat.add a 8),.ref 24,.type "ValueError",.type "Exception",.type "BaseException",.type "object"],Nat.add a 7,hsN s,true,[],[],false,none,false⟩,⟨[some (.ref (Nat.sub a 1)),none,some (.str (hsN s) t),some (.str (hsN s) (Nat.add t 8)),some (.builtin "ValueError.__new__"),some (.bool true)]⟩⟩,
  ⟨.type "super",none,.fields ⟨[.ref (Nat.add a 8),.ref (Nat.add a 8),.ref (Nat.add a 8)]⟩,⟨[]⟩⟩,
  ⟨.type "builtin_function_or_method",none,.fields ⟨[.builtin "object.__init_subclass__",.ref (Nat.add a 8)]⟩,⟨[]⟩⟩]
noncomputable def hfd (l:List (Nat×List Obj)) (b:Nat):Obj:=@List.rec (Nat×List Obj) (fun _=>Nat->Obj) (fun _=>hZ) (fun x _ ih b=>@Bool.rec (fun _=>Obj) (ih (Nat.sub b x.1)) (hnth x.2 b hZ) (Nat.blt b x.1)) l b
def hL3(l:List (Int×Addr)):List Value:=l.flatMap fun x=>[.int x.1 0,.int 0 0,.ref x.2]
noncomputable def hmk (f:Nat->Obj) (n:Nat) (fuel:Nat):Nat->Nat->BT:=
 @Nat.rec (fun _=>Nat->Nat->BT) (fun _ _=>.nil) (fun _ ih a b=>@Bool.rec (fun _=>BT) .nil (.node (f b) (ih (Nat.mul 2 a) (Nat.add a b)) (ih (Nat.mul 2 a) (Nat.add (Nat.mul 2 a) b))) (Nat.blt b n)) fuel
def hEnv(p:Program)(c:Value)(f:Addr):Env:={scope:=p.main.scope,locals:=mainNs,globals:=mainNs,cells:=[],code:=c,frame:=some f}
def hVw(p:Program)(l:List Nat):Program:={p with main:={p.main with body:=l.map fun i=>p.main.body.getD i (.Pass ⟨0,0,0,0⟩)}}
abbrev hSt(tr:Nat->Params->BT)(k n t:Nat)(w:World)(os:OsState):SharedT:=⟨tr k w.params,n,{},⟨[]⟩,{},t,os⟩
abbrev hCd(p:Program)(ev:Env):Code:=.body (behindTheImports p) ev
def hPre(m0:Nat)(ann:Option Value)(n n0 t0:Nat)(q q0:Pos)(tg:(String->Option Builtin)->Program->World->Nat->Option Value->Nat->Shared->Thread->Option (Shared×Thread))(dn:(String->Option Builtin)->Code->Sem Fin)(tb:String->Option Builtin)(p:Program)(tr:Nat->Params->BT)(ev:Env):Prop:=
 ∀w:World,(fun os=>tg tb p w m0 ann n ⟨boot_heap w.params,⟨[]⟩,boot_drawn,boot_toks,os⟩ (topStub p))=fun os=>some ((hSt tr 0 n0 t0 w os).abs,Thread.mk (dn tb (hCd p ev)) (hCd p ev) q0 [topFrame q])
def hBlk(m0:Nat)(ann:Option Value)(n n0 t0:Nat)(q q0 q1:Pos)(sr:(String->Option Builtin)->Program->World->Nat->Option Value->Nat->Nat->Shared->Thread->Option (Flow×Shared×Code×Pos))(tb:String->Option Builtin)(p:Program)(tr:Nat->Params->BT)(ev:Env):Prop:=
 ∀w:World,(fun os=>sr tb p w m0 ann 1 n (hSt tr 0 n0 t0 w os).abs (blockOf (behindTheImports p) ev (hCd p ev) q0 [topFrame q]))=fun os=>some (.next,(hSt tr 0 n0 t0 w os).abs,hCd p ev,q1)
def hPc(m0:Nat)(ann:Option Value)(n i j k n0 t0 n1 t1:Nat)(q q0 q1:Pos)(sr:(String->Option Builtin)->Program->World->Nat->Option Value->Nat->Nat->SharedT->Thread->Option (Flow×SharedT×Code×Pos))(tb:String->Option Builtin)(p:Program)(tr:Nat->Params->BT)(ev:Env):Prop:=
 ∀w:World,(fun os=>sr tb p w m0 ann 1 n (hSt tr k n0 t0 w os) (piecesOf (((behindTheImports p).drop i).take j) ev (hCd p ev) q0 [topFrame q]))=fun os=>some (.next,hSt tr (Nat.succ k) n1 t1 w os,hCd p ev,q1)
def hFin(m0:Nat)(ann:Option Value)(n k n0 t0:Nat)(q q0:Pos)(sr:(String->Option Builtin)->Program->World->Nat->Option Value->Nat->Shared->Thread->Option Shared)(tb:String->Option Builtin)(p:Program)(tr:Nat->Params->BT)(ev:Env):Prop:=
 ∀w:World,(fun os=>sr tb p w m0 ann n (hSt tr k n0 t0 w os).abs (Thread.mk (doneF .next) (hCd p ev) q0 [topFrame q]))=fun os=>some (hSt tr k n0 t0 w os).abs
variable{m0:Nat}{ann:Option Value}{q q0 q1:Pos}{tb:String->Option Builtin}{p:Program}{tr:Nat->Params->BT}{ev:Env}{n N i j k n0 t0 n1 t1:Nat}{r:Shared}
theorem hgo(h:hPre m0 ann n n0 t0 q q0 topGo denote tb p tr ev)(w:World)(os:OsState)(g:topRun tb p w m0 ann N (hSt tr 0 n0 t0 w os).abs (Thread.mk (denote tb (hCd p ev)) (hCd p ev) q0 [topFrame q])=some r):
  topRun tb p w m0 ann (Nat.add n N) ⟨boot_heap w.params,⟨[]⟩,boot_drawn,boot_toks,os⟩ (topStub p)=some r:=go_top (Jg (h w) os) g
theorem hblkk(h:hBlk m0 ann n n0 t0 q q0 q1 segRun tb p tr ev)(w:World)(os:OsState)(g:topRun tb p w m0 ann N (hSt tr 0 n0 t0 w os).abs (restOf ((behindTheImports p).drop 0) ev (hCd p ev) q1 [topFrame q])=some r):
  topRun tb p w m0 ann (Nat.add n N) (hSt tr 0 n0 t0 w os).abs (Thread.mk (denote tb (hCd p ev)) (hCd p ev) q0 [topFrame q])=some r:=piece_block (Jg (h w) os) g
theorem hpcs(h:hPc m0 ann n i j k n0 t0 n1 t1 q q0 q1 segRunT tb p tr ev)(w:World)(os:OsState)(g:topRun tb p w m0 ann N (hSt tr (Nat.succ k) n1 t1 w os).abs (restOf ((behindTheImports p).drop (Nat.add i j)) ev (hCd p ev) q1 [topFrame q])=some r):
  topRun tb p w m0 ann (Nat.add n N) (hSt tr k n0 t0 w os).abs (restOf ((behindTheImports p).drop i) ev (hCd p ev) q0 [topFrame q])=some r:=by
 have a:=piece_app (segRun_of (Jg (h w) os)) g
 have e:((behindTheImports p).drop i).take j++(behindTheImports p).drop (Nat.add i j)=(behindTheImports p).drop i:=by
  have:=List.take_append_drop j ((behindTheImports p).drop i);rw[List.drop_drop]at this;exact this
 rw[e]at a;exact a
theorem hfin'(e:(behindTheImports p).drop i=[])(h:hFin m0 ann n k n0 t0 q q0 topRun tb p tr ev)(w:World)(os:OsState):
  topRun tb p w m0 ann n (hSt tr k n0 t0 w os).abs (restOf ((behindTheImports p).drop i) ev (hCd p ev) q0 [topFrame q])=some (hSt tr k n0 t0 w os).abs:=by
 rw[e];exact Jg (h w) os
abbrev hSh(H:Params->Heap)(t:Nat)(w:World)(os:OsState):Shared:=⟨H w.params,⟨[]⟩,{},t,os⟩
structure hLk(p v:Program)(H:Params->Heap)(K:Params->Frag)(as ts:List Addr)(t:Nat)(ls:List Str:=[]):Prop where
 l1:∀w:World,(fun os=>staticsOk (PySem.W.Fast.tw5923862056798008813 p.main.body) (boot_heap w.params) (H w.params)&&namesBound p (H w.params)&&gensDone (hSh H t w os)&&laidKept (boot_heap w.params) (H w.params))=fun _=>true
 l2:∀w:World,(fun os=>PySem.W.Fast.tw5160383126252970620 (PySem.W.R.mapR (fun x=>x.name) (PySem.W.Fast.tw3399658132070893891 v)) (PySem.W.Fast.tw5991557255702980513 v) [] (hSh H t w os))=fun _=>expectedOf v
 l3:∀w:World,(H w.params).bltView=bltViewBooted
 l4:∀w:World,(fun os=>PySem.W.Fast.tw10880121769531294198 (H w.params) (PySem.W.Fast.tw821141287760084731 v ls) (PySem.W.R.mapR (fun x=>x.name) (PySem.W.Fast.tw3399658132070893891 v)) (PySem.W.R.mapR (fun x=>x.1) (PySem.W.Fast.tw7409074990110511671 v)) (PySem.W.R.mapR (fun x=>x.name) (PySem.W.Fast.tw13664370479719496447 v (PySem.W.Fast.tw821141287760084731 v ls)))&&PySem.W.Fast.tw14722251495701143533 (H w.params) (PySem.W.Fast.tw5923862056798008813 p.main.body)&&(H w.params).isNs mainGlobals&&(H w.params).isNs builtinsNs&&PySem.W.Fast.tw10994771534591457954 v (H w.params)&&(xlAt v [] (hSh H t w os)&&recOk [] (hSh H t w os))&&(if true then(hSh H t w os).gens.size==0 else !leftWithCleanup (hSh H t w os).gens))=fun _=>true
 l5:∀w:World,(fun os=>PySem.W.Fast.tw479339242167458305 v (hSh H t w os))=fun _=>true
 l6:∀w:World,(fun os=>PySem.W.Fast.tw16090120013241838585 v (PySem.W.Fast.tw3247288618530077131 v) (hSh H t w os))=fun _=>pinGoodD (PySem.W.Fast.tw3247288618530077131 v)
 l7:∀w:World,(fun os=>PySem.W.Fast.tw2386780881361962483 v (PySem.W.Fast.tw821141287760084731 v ls) (hSh H t w os))=fun _=>plainGoodE v (PySem.W.Fast.tw821141287760084731 v ls)
 l8:∀w:World,(fun os=>PySem.W.Fast.tw11698064438423848299 v ls (hSh H t w os))=fun _=>plainGoodD v ls
 l9:∀w:World,(fun os=>PySem.W.Fast.tw7317090234206586261 v (hSh H t w os))=fun _=>wideGood v
 l10:∀w:World,(fun os=>PySem.W.Fast.tw7369524293546568484 v ls (hSh H t w os))=fun _=>clsGoodW v ls
 l11:∀w:World,PySem.W.R.mapR (H w.params).get? as=PySem.W.R.mapR (fun p=>some p.2) (K w.params)
 l12:∀w:World,PySem.W.R.mapR (H w.params).get? ts=PySem.W.R.mapR (fun _=>some (tabObj #[])) ts
def setRow(w:World)(x:String)(b:Bool):World:={w with params:={w.params with followText:=fun s=>bif s==x then b else w.params.followText s}}
theorem setRow_eq(w:World)(x:String):setRow w x (w.params.followText x)=w:=by
 have e:(fun s=>bif s==x then w.params.followText x else w.params.followText s)=w.params.followText:=by
  funext s
  by_cases h:s=x
  ·subst h
   rw[Uy]
   rfl
  ·have:(s==x)=false:=by rw[Jw];exact h
   rw[this]
   rfl
 unfold setRow;rw[e]
theorem splitW{Pr:World->Prop}(x:String)(h:∀(b:Bool) (w:World),Pr (setRow w x b))(w:World):Pr w:=by
 have:=h (w.params.followText x) w;rwa [setRow_eq]at this
theorem hsize(w:World):((boot_heap w.params).isNs mainGlobals&&(Array.mk []:Array GenState).size==0,(boot_heap w.params).objs.size,(boot_heap w.params).nsMap mainGlobals "__annotations__")=(true,11,some (.ref 6)):=by
 rw[PySem.W.Fast.te8920871248978507458,show("__annotations__":Str)=⟨⟨[95,95,97,110,110,111,116,97,116,105,111,110,115,95,95]⟩⟩from PySem.W.Fast.ofString_ofList ['_','_','a','n','n','o','t','a','t','i','o','n','s','_','_']]
 kernel_rfl
theorem hleft{v:Program}{H:Params->Heap}{K:Params->Frag}{as ts:List Addr}{t M:Nat}(e:∀P,as=(K P).map (·.1))(eo:opening p=plainProg p.main.scope.names)(hf:∀s,fenceModules? p s=some s)(hN:Nat.ble 600 N=true)(le:Nat.ble M N=true)
  (run:∀(w:World) (os:OsState),topRun treeTable p w 11 (some (.ref 6)) M ⟨boot_heap w.params,⟨[]⟩,boot_drawn,boot_toks,os⟩ (topStub p)=some (hSh H t w os)){ls:List Str}(L:hLk p v H K as ts t ls):
  LeftO p v ls (fun s=>xlAt v [] s&&recOk [] s) (Hook.obs (kmHook K as e ts)) (Hook.val (kmHook K as e ts)) N:=by
 refine LeftO.of_pieces (boot_open eo hN hf) hsize run le fun w=>?_
 have q1:=L.l1 w;have q2:=L.l2 w;have q3:=L.l3 w;have q4:=L.l4 w;have q5:=L.l5 w;have q6:=L.l6 w;have q7:=L.l7 w;have q8:=L.l8 w;have q9:=L.l9 w;have q10:=L.l10 w;have q11:=L.l11 w;have q12:=L.l12 w
 simp only[←PySem.W.Fast.te5923862056798008813,←PySem.W.Fast.te5160383126252970620,←PySem.W.R.mapR_eq,←PySem.W.Fast.te3399658132070893891,←PySem.W.Fast.te5991557255702980513,←PySem.W.Fast.te10880121769531294198,←PySem.W.Fast.te821141287760084731,←PySem.W.Fast.te7409074990110511671,←PySem.W.Fast.te13664370479719496447,←PySem.W.Fast.te14722251495701143533,←PySem.W.Fast.te10994771534591457954,←PySem.W.Fast.te479339242167458305,←PySem.W.Fast.te16090120013241838585,←PySem.W.Fast.te3247288618530077131,←PySem.W.Fast.te2386780881361962483,←PySem.W.Fast.te11698064438423848299,←PySem.W.Fast.te7317090234206586261,←PySem.W.Fast.te7369524293546568484]at q1 q2 q4 q5 q6 q7 q8 q9 q10 q11 q12
 funext os
 unfold openSeen openGood;refine Js (Jg q1 os) (Js (Js (Jg q2 os) (Js q3 (Js (Jg q4 os) (Js (Jg q5 os) (Js (Jg q6 os) (Js (Jg q7 os) (Js (Jg q8 os) (Js (Jg q9 os) (Jg q10 os))))))))) (Js q11 q12))
end HG
namespace K51
noncomputable section
open PySem PySem.W PySem.Calls PyProof.Rows HG
def hS(i:Nat):Stmt:=PySem.Challenge.pw_turnsigns_k51_tables_turned.main.body.getD i (.Pass ⟨0,0,0,0⟩)
def hm0:Value:=(.str "turnsigns.errors" 187)
def hm1:Value:=(.str "turnsigns.grids" 415)
def hm2:Value:=(.str "turnsigns.tables" 451)
def hm3:Value:=(.str "turnsigns.turned" 477)
def hm4:Value:=(.str "law_turnsigns_k51_tables_turned" 582)
def hc0(P:Params):List (Nat×List Obj):=[(15,[boot_o_0 P,boot_o_1 P,boot_o_2 P,hZ,boot_o_4 P,boot_o_5 P,boot_o_6 P,boot_o_7 P,boot_o_8 P,boot_o_9 P,boot_o_10 P,hZ,hZ,hC "<module>" 182 185 1 0 0 11 false 12 .none .none .none .none,⟨(.type "frame"),none,.plain,⟨[(some (.ref 13)),(some (.ref 3)),(some (.ref 3)),none,(some (.str "__main__" 164)),none,(some (.ref 0))]⟩⟩]),(13,[hU [(.type "ValueError")],⟨(.type "builtin_function_or_method"),none,.fields ⟨[(.builtin "type.__prepare__"),(.type "type")]⟩,⟨[]⟩⟩,⟨(.type "dict"),none,.dict ⟨[hE P "__module__" 196 (.str "turnsigns.errors" 187),hE P "__qualname__" 198 (.str "SignError" 197),hE P "__firstlineno__" 200 (.int 2 199),hE P "__static_attributes__" 201 (.ref 22)]⟩ 4,⟨[]⟩⟩,hZ,hN,hC "SignError" 191 194 2 0 0 18 false 19 .none .none .none .none,⟨(.type "frame"),none,.plain,⟨[(some (.ref 20)),(some (.ref 3)),(some (.ref 17)),none,(some (.str "turnsigns.errors" 187)),none,(some (.ref 0))]⟩⟩,hZ,⟨(.type "dict"),none,.dict ⟨[hE P "__module__" 196 (.str "turnsigns.errors" 187),hE P "__firstlineno__" 200 (.int 2 199),hE P "__static_attributes__" 201 (.ref 22),hE P "__weakref__" 203 (.ref 25),hE P "__doc__" 204 .none]⟩ 3,⟨[]⟩⟩,hZ,⟨(.type "getset_descriptor"),none,.fields ⟨[(.str "__weakref__" 202),(.ref 24),(.builtin "ExceptionGroup.__weakref__"),.none]⟩,⟨[]⟩⟩,⟨(.type "super"),none,.fields ⟨[(.ref 24),(.ref 24),(.ref 24)]⟩,⟨[]⟩⟩,⟨(.type "builtin_function_or_method"),none,.fields ⟨[(.builtin "object.__init_subclass__"),(.ref 24)]⟩,⟨[]⟩⟩]),(1,[hU [.ref 24]]),(11,hCl P (hS 2) 29 207 4 hm0),(1,[hU [.ref 24]]),(11,hCl P (hS 3) 41 223 6 hm0),(1,[hU [.ref 24]]),(11,hCl P (hS 4) 53 239 8 hm0),(1,[hU [.ref 24]]),(11,hCl P (hS 5) 65 255 10 hm0)]
def hc1(P:Params):List (Nat×List Obj):=[(1,[hU [.ref 24]]),(11,hCl P (hS 6) 77 271 12 hm0),(1,[hU [.ref 24]]),(11,hCl P (hS 7) 89 287 14 hm0),(1,[hU [.ref 24]]),(11,hCl P (hS 8) 101 303 16 hm0),(1,[hU [.ref 24]]),(11,hCl P (hS 9) 113 319 18 hm0),(1,[hU [.ref 24]]),(11,hCl P (hS 10) 125 335 20 hm0)]
def hc2(P:Params):List (Nat×List Obj):=[(1,[hU [.ref 24]]),(11,hCl P (hS 11) 137 351 22 hm0),(1,[hU [.ref 24]]),(11,hCl P (hS 12) 149 367 24 hm0),(1,[hU [.ref 24]]),(11,hCl P (hS 13) 161 383 26 hm0),(1,[hU [.ref 24]]),(11,hCl P (hS 14) 173 399 28 hm0),(7,hD7 (hS 16) 184 417 31 1 hm1 ["thing"]),(5,hD5 (hS 17) 191 424 33 2 hm1)]
def hc3(P:Params):List (Nat×List Obj):=[(5,hD5 (hS 18) 196 430 37 3 hm1),(7,hD7 (hS 19) 201 436 41 3 hm1 ["thing","least","greatest"]),(5,hD5 (hS 20) 208 445 45 1 hm1),(7,hD7 (hS 23) 213 455 49 1 hm2 ["line","total","number"]),(5,hD5 (hS 24) 220 464 56 1 hm2),(7,hD7 (hS 25) 225 470 60 1 hm2 ["thing"]),(7,hD7 (hS 27) 232 479 64 1 hm3 ["table"]),(7,hD7 (hS 28) 239 486 66 1 hm3 ["table"]),(7,hD7 (hS 29) 246 493 68 1 hm3 ["table"]),(7,hD7 (hS 30) 253 500 70 1 hm3 ["table"])]
def hc4(P:Params):List (Nat×List Obj):=[(5,hD5 (hS 31) 260 507 72 1 hm3),(7,hD7 (hS 32) 265 513 74 1 hm3 ["table"]),(7,hD7 (hS 33) 272 520 76 1 hm3 ["table"]),(7,hD7 (hS 34) 279 527 78 1 hm3 ["table"]),(1,[⟨(.type "dict"),none,.dict ⟨[hE P "stay" 534 (.ref 238),hE P "left" 535 (.ref 245),hE P "half" 536 (.ref 252),hE P "right" 537 (.ref 259),hE P "upright" 538 (.ref 264),hE P "flat" 539 (.ref 271),hE P "slant" 540 (.ref 278),hE P "other" 541 (.ref 285)]⟩ 8,⟨[]⟩⟩]),(7,hD7 (hS 36) 287 551 81 1 hm3 ["thing"]),(7,hD7 (hS 37) 294 558 83 1 hm3 ["thing"]),(7,hD7 (hS 38) 301 565 86 2 hm3 ["table","turn","deed"]),(7,hD7 (hS 39) 308 574 89 2 hm3 ["table","turn"]),(7,hD7 (hS 41) 315 584 94 2 hm4 ["_law_script","_law_k"])]
def hc5(P:Params):List (Nat×List Obj):=[(7,hD7 (hS 42) 322 592 98 2 hm4 ["_law_script","_law_k","_law_cell"]),(7,hD7 (hS 43) 329 601 103 2 hm4 ["_law_state_here","_law_many","_law_found","_law_mixed"]),(5,hD5 (hS 44) 336 611 112 1 hm4),(5,hD5 (hS 45) 341 617 128 1 hm4),(5,hD5 (hS 46) 346 623 138 3 hm4),(7,hD7 (hS 47) 351 629 148 3 hm4 ["_law_thing","_law_least","_law_most"]),(5,hD5 (hS 48) 358 638 150 1 hm4),(5,hD5 (hS 49) 363 644 153 1 hm4),(7,hD7 (hS 50) 368 650 165 2 hm4 ["_law_state_here","_law_table_here","_law_at","_law_row","_law_k","_law_odd","_law_to","_law_rows","_law_one","_law_some","_law_swapped"]),(7,hD7 (hS 51) 375 667 178 1 hm4 ["_law_state_here","_law_turn","_law_thing"])]
def hc6(P:Params):List (Nat×List Obj):=[(7,hD7 (hS 52) 382 676 184 2 hm4 ["_law_table_here","_law_turn","_law_n","_law_found","_law_r","_law_line","_law_c","_law_at","_law_more","_law_row","_law_column"]),(7,hD7 (hS 53) 389 693 196 0 hm4 []),(5,hD5 (hS 54) 396 699 198 2 hm4),(7,[hZ,hN,hU [(.str "_law_script" 708),(.str "_law_k" 709),(.str "_law_state_here" 710),(.str "_law_turn" 711),(.str "_law_at" 712),(.str "_law_letter" 713),(.str "_law_bent_here" 714),(.str "_law_some" 715)],hU [(.str "_law_bad" 716),(.str "_law_none" 717),(.str "_law_table_here" 718),(.str "_law_word" 719)],hR (hS 55),hC "law" 705 720 204 1 3 401 true 402 .none (.ref 403) (.ref 404) (.ref 405),hF (hS 55) (.str "law_turnsigns_k51_tables_turned" 582) (.ref 406)])]
def hB(P:Params):Nat->Obj:=hfd (hc0 P++hc1 P++hc2 P++hc3 P++hc4 P++hc5 P++hc6 P)
def b3w(P:Params)(v:Value):List DictEntry:=[hE P "__name__" 165 v,hE P "__doc__" 166 .none,hE P "__package__" 167 .none,hE P "__loader__" 168 (.builtin "__main__.__loader__#opaque"),hE P "__spec__" 169 .none,hE P "__annotations__" 170 (.ref 6),hE P "__builtins__" 171 (.ref 4),hE P "__file__" 173 (.str "/claim/cut.py" 172),hE P "__cached__" 174 .none,hE P "SignError" 206 (.ref 24),hE P "NoTable" 222 (.ref 37),hE P "NoHeights" 238 (.ref 49),hE P "NoNet" 254 (.ref 61),hE P "NoPlace" 270 (.ref 73),hE P "NoTriangle" 286 (.ref 85),hE P "NoRow" 302 (.ref 97)]
def b3x(P:Params)(v:Value):List DictEntry:=[hE P "NoNumber" 318 (.ref 109),hE P "NoTurn" 334 (.ref 121),hE P "NotAlike" 350 (.ref 133),hE P "NoStep" 366 (.ref 145),hE P "NoRows" 382 (.ref 157),hE P "TooMany" 398 (.ref 169),hE P "BadNote" 414 (.ref 181),hE P "is_whole" 423 (.ref 190),hE P "is_row" 429 (.ref 195),hE P "is_grid" 435 (.ref 200),hE P "is_square" 444 (.ref 207),hE P "flipped" 450 (.ref 212),hE P "GREATEST_SIDE" 454 (.int 6 453),hE P "takes_turns" 463 (.ref 219),hE P "is_table" 469 (.ref 224),hE P "must_be_table" 476 (.ref 231)]
def b3y(P:Params)(v:Value):List DictEntry:=[hE P "stayed" 485 (.ref 238),hE P "turned_left" 492 (.ref 245),hE P "turned_half" 499 (.ref 252),hE P "turned_right" 506 (.ref 259),hE P "told_upright" 512 (.ref 264),hE P "told_flat" 519 (.ref 271),hE P "told_slant" 526 (.ref 278),hE P "told_other" 533 (.ref 285),hE P "TURNS" 550 (.ref 286),hE P "is_turn" 557 (.ref 293),hE P "must_be_turn" 564 (.ref 300),hE P "brought" 573 (.ref 307),hE P "turned" 581 (.ref 314),hE P "_law_cell_at" 591 (.ref 321),hE P "_law_state" 600 (.ref 328),hE P "_law_take" 610 (.ref 335)]
def b3z(P:Params)(v:Value):List DictEntry:=[hE P "_law_refused" 616 (.ref 340),hE P "_law_lines" 622 (.ref 345),hE P "_law_table" 628 (.ref 350),hE P "_law_whole" 637 (.ref 357),hE P "_law_turns" 643 (.ref 362),hE P "_law_is_table" 649 (.ref 367),hE P "_law_bent" 666 (.ref 374),hE P "_law_no_table" 675 (.ref 381),hE P "_law_turned" 692 (.ref 388),hE P "_law_turn_words" 698 (.ref 395),hE P "_law_same" 704 (.ref 400),hE P "law" 722 (.ref 407)]
def he3(P:Params)(v:Value):List DictEntry:=b3w P v++b3x P v++b3y P v++b3z P v
def ht3(k:Nat):Nat×Nat×Value:=hnth [(9,9,(.str "__main__" 164)),(10,10,(.str "turnsigns.errors" 187)),(11,11,(.str "turnsigns.errors" 187)),(12,12,(.str "turnsigns.errors" 187)),(13,13,(.str "turnsigns.errors" 187)),(14,14,(.str "turnsigns.errors" 187)),(15,15,(.str "turnsigns.errors" 187)),(16,16,(.str "turnsigns.errors" 187)),(17,17,(.str "turnsigns.errors" 187)),(18,18,(.str "turnsigns.errors" 187)),(19,19,(.str "turnsigns.errors" 187)),(20,20,(.str "turnsigns.errors" 187)),(21,21,(.str "turnsigns.errors" 187)),(22,22,(.str "turnsigns.errors" 187)),(29,29,(.str "turnsigns.tables" 451)),(40,40,(.str "turnsigns.turned" 477)),(49,49,(.str "law_turnsigns_k51_tables_turned" 582)),(60,60,(.str "law_turnsigns_k51_tables_turned" 582))] k (0,0,.none)
def hx3(P:Params)(k:Nat):Obj:=⟨(.type "dict"),none,.dict ⟨(he3 P (ht3 k).2.2).take (ht3 k).1⟩ (ht3 k).2.1,⟨[]⟩⟩
def b3A:List Value:=hL3 [(2,20),(4,33),(6,45),(8,57),(10,69),(12,81),(14,93),(16,105),(18,117),(20,129),(22,141),(24,153),(26,165),(28,177),(31,189),(33,194),(37,199),(41,206),(45,211),(49,218),(56,223),(60,230),(64,237),(66,244),(68,251),(70,258),(72,263),(74,270),(76,277),(78,284),(81,292),(83,299),(86,306),(89,313),(94,320),(98,327),(103,334),(112,339),(128,344),(138,349),(148,356),(150,361),(153,366),(165,373),(178,380),(184,387),(196,394),(198,399),(204,406)]
def b3B(_:Params)(k:Nat):Obj:=⟨.none,none,.fields ⟨b3A.take (hnth [0,3,6,9,12,15,18,21,24,27,30,33,36,39,57,90,114,147] k 0)⟩,⟨[]⟩⟩
def b3C:List Value:=[(.ref 37),(.ref 49),(.ref 61),(.ref 73),(.ref 85),(.ref 97),(.ref 109),(.ref 121),(.ref 133),(.ref 145),(.ref 157),(.ref 169),(.ref 181)]
def b3D(_:Params)(k:Nat):Obj:=⟨(.type "type"),none,.cls ⟨"SignError",[(.type "ValueError")],[(.ref 24),(.type "ValueError"),(.type "Exception"),(.type "BaseException"),(.type "object")],23,"SignError",true,[],b3C.take (hnth [0,0,1,2,3,4,5,6,7,8,9,10,11,12,13,13,13,13] k 0),false,none,false⟩,⟨[(some (.ref 15)),none,(some (.str "SignError" 189)),(some (.str "SignError" 197)),(some (.builtin "ValueError.__new__")),(some (.bool true))]⟩⟩
def hO(P:Params)(k b:Nat):Obj:=match Nat.beq b 3 with|true=>hx3 P k|false=>match Nat.beq b 12 with|true=>b3B P k|false=>match Nat.beq b 24 with|true=>b3D P k|false=>hB P b
def hn(k:Nat):Nat:=hnth [15,28,40,52,64,76,88,100,112,124,136,148,160,172,213,286,341,408] k 0
noncomputable def hT (k:Nat) (P:Params):BT:=hmk (hO P k) (hn k) 12 1 0
def hV:Env:=hEnv PySem.Challenge.pw_turnsigns_k51_tables_turned (.ref 13) 14
def hQ:Program:=hVw PySem.Challenge.pw_turnsigns_k51_tables_turned [1,2,3,4,5,6,7,8,9,10,11,12,13,14,16,17,18,19,20,22,23,24,25,27,28,29,30,31,32,33,34,35,36,37,38,39,41,42,43,44,45,46,47,48,49,50,51,52,53,54,55]
def hA:List Nat:=[2,3,15,22,23,24,25,28,35,36,37,40,47,48,49,52,59,60,61,64,71,72,73,76,83,84,85,88,95,96,97,100,107,108,109,112,119,120,121,124,131,132,133,136,143,144,145,148,155,156,157,160,167,168,169,172,179,180,181,184,186,187,189,190,191,194,195,196,199,200,201,203,204,206,207,208,211,212,213,215,216,218,219,220,223,224,225,227,228,230,231,232,234,235,237,238,239,241,242,244,245,246,248,249,251,252,253,255,256,258,259,260,263,264,265,267,268,270,271,272,274,275,277,278,279,281,282,284,285,286,287,289,290,292,293,294,296,297,299,300,301,303,304,306,307,308,310,311,313,314,315,317,318,320,321,322,324,325,327,328,329,331,332,334,335,336,339,340,341,344,345,346,349,350,351,353,354,356,357,358,361,362,363,366,367,368,370,371,373,374,375,377,378,380,381,382,384,385,387,388,389,391,392,394,395,396,399,400,401,403,404,406,407]
def hK(P:Params):Frag:=hA.map fun a=>(a,hO P 17 a)
def hH(P:Params):Heap:=absHeap (hT 17 P) 408 {}
theorem htw:(hdep hT&&hdep hH&&hdep hV&&hdep hQ&&hdep hK&&hdep PySem.Challenge.pw_turnsigns_k51_tables_turned)=true:=by k_qdec
abbrev hpw:=PySem.Challenge.pw_turnsigns_k51_tables_turned
noncomputable abbrev fb:=PySem.W.Fast.tw14364793385576792824
noncomputable abbrev fp:=PySem.W.Fast.tw1584685388438285154
noncomputable abbrev ft:=PySem.W.Fast.tw14012358171805178155
noncomputable abbrev fv:=PySem.W.Fast.tw11935984692312738315
theorem b3E:hPre 11 (some (.ref 6)) 12 15 187 ⟨0,0,0,0⟩ ⟨0,0,0,0⟩ PySem.W.Fast.tw15667345088766844465 PySem.W.Fast.tw11892475500146522536 fb fp ft fv:=fun w=>by kernel_rfl
theorem hpre:hPre 11 (some (.ref 6)) 12 15 187 ⟨0,0,0,0⟩ ⟨0,0,0,0⟩ topGo denote treeTable PySem.Challenge.pw_turnsigns_k51_tables_turned hT hV:=by rw[PySem.W.Fast.te15667345088766844465,PySem.W.Fast.te11892475500146522536,Ym,PySem.W.Fast.te1584685388438285154,PySem.W.Fast.te14012358171805178155,PySem.W.Fast.te11935984692312738315];exact b3E
theorem b3F:hBlk 11 (some (.ref 6)) 1 15 187 ⟨0,0,0,0⟩ ⟨0,0,0,0⟩ ⟨0,0,0,0⟩ PySem.W.Fast.tw14374325043358763698 fb fp ft fv:=fun w=>by kernel_rfl
theorem hblk:hBlk 11 (some (.ref 6)) 1 15 187 ⟨0,0,0,0⟩ ⟨0,0,0,0⟩ ⟨0,0,0,0⟩ segRun treeTable PySem.Challenge.pw_turnsigns_k51_tables_turned hT hV:=by rw[PySem.W.Fast.te14374325043358763698,Ym,PySem.W.Fast.te1584685388438285154,PySem.W.Fast.te14012358171805178155,PySem.W.Fast.te11935984692312738315];exact b3F
theorem hsl{m0:Nat}{ann:Option Value}{n i j k n0 t0 n1 t1:Nat}{q q0 q1:Pos}(h:hPc m0 ann n i j k n0 t0 n1 t1 q q0 q1 PySem.W.Fast.tw10110043849684766642 fb fp ft fv):hPc m0 ann n i j k n0 t0 n1 t1 q q0 q1 segRunT treeTable PySem.Challenge.pw_turnsigns_k51_tables_turned hT hV:=by rw[PySem.W.Fast.te10110043849684766642,Ym,PySem.W.Fast.te1584685388438285154,PySem.W.Fast.te14012358171805178155,PySem.W.Fast.te11935984692312738315];exact h
theorem hp0:hPc 11 (some (.ref 6)) 196 0 2 0 15 187 28 207 ⟨0,0,0,0⟩ ⟨0,0,0,0⟩ ⟨2,0,3,8⟩ segRunT treeTable hpw hT hV:=hsl fun w=>by kernel_rfl
theorem hp1:hPc 11 (some (.ref 6)) 214 2 1 1 28 207 40 223 ⟨0,0,0,0⟩ ⟨2,0,3,8⟩ ⟨4,0,5,8⟩ segRunT treeTable hpw hT hV:=hsl fun w=>by kernel_rfl
theorem hp2:hPc 11 (some (.ref 6)) 214 3 1 2 40 223 52 239 ⟨0,0,0,0⟩ ⟨4,0,5,8⟩ ⟨6,0,7,8⟩ segRunT treeTable hpw hT hV:=hsl fun w=>by kernel_rfl
theorem hp3:hPc 11 (some (.ref 6)) 214 4 1 3 52 239 64 255 ⟨0,0,0,0⟩ ⟨6,0,7,8⟩ ⟨8,0,9,8⟩ segRunT treeTable hpw hT hV:=hsl fun w=>by kernel_rfl
theorem hp4:hPc 11 (some (.ref 6)) 214 5 1 4 64 255 76 271 ⟨0,0,0,0⟩ ⟨8,0,9,8⟩ ⟨10,0,11,8⟩ segRunT treeTable hpw hT hV:=hsl fun w=>by kernel_rfl
theorem hp5:hPc 11 (some (.ref 6)) 214 6 1 5 76 271 88 287 ⟨0,0,0,0⟩ ⟨10,0,11,8⟩ ⟨12,0,13,8⟩ segRunT treeTable hpw hT hV:=hsl fun w=>by kernel_rfl
theorem hp6:hPc 11 (some (.ref 6)) 214 7 1 6 88 287 100 303 ⟨0,0,0,0⟩ ⟨12,0,13,8⟩ ⟨14,0,15,8⟩ segRunT treeTable hpw hT hV:=hsl fun w=>by kernel_rfl
theorem hp7:hPc 11 (some (.ref 6)) 214 8 1 7 100 303 112 319 ⟨0,0,0,0⟩ ⟨14,0,15,8⟩ ⟨16,0,17,8⟩ segRunT treeTable hpw hT hV:=hsl fun w=>by kernel_rfl
theorem hp8:hPc 11 (some (.ref 6)) 214 9 1 8 112 319 124 335 ⟨0,0,0,0⟩ ⟨16,0,17,8⟩ ⟨18,0,19,8⟩ segRunT treeTable hpw hT hV:=hsl fun w=>by kernel_rfl
theorem hp9:hPc 11 (some (.ref 6)) 214 10 1 9 124 335 136 351 ⟨0,0,0,0⟩ ⟨18,0,19,8⟩ ⟨20,0,21,8⟩ segRunT treeTable hpw hT hV:=hsl fun w=>by kernel_rfl
theorem b3G:hPc 11 (some (.ref 6)) 214 11 1 10 136 351 148 367 ⟨0,0,0,0⟩ ⟨20,0,21,8⟩ ⟨22,0,23,8⟩ segRunT treeTable hpw hT hV:=hsl fun w=>by kernel_rfl
theorem b3H:hPc 11 (some (.ref 6)) 214 12 1 11 148 367 160 383 ⟨0,0,0,0⟩ ⟨22,0,23,8⟩ ⟨24,0,25,8⟩ segRunT treeTable hpw hT hV:=hsl fun w=>by kernel_rfl
theorem b3I:hPc 11 (some (.ref 6)) 214 13 1 12 160 383 172 399 ⟨0,0,0,0⟩ ⟨24,0,25,8⟩ ⟨26,0,27,8⟩ segRunT treeTable hpw hT hV:=hsl fun w=>by kernel_rfl
theorem b3J:hPc 11 (some (.ref 6)) 379 14 9 13 172 399 213 455 ⟨0,0,0,0⟩ ⟨26,0,27,8⟩ ⟨48,0,48,13⟩ segRunT treeTable hpw hT hV:=hsl fun w=>by kernel_rfl
theorem b3K:hPc 11 (some (.ref 6)) 325 23 12 14 213 455 286 534 ⟨0,0,0,0⟩ ⟨48,0,48,13⟩ ⟨78,0,79,41⟩ segRunT treeTable hpw hT hV:=hsl fun w=>by kernel_rfl
theorem b3L:hPc 11 (some (.ref 6)) 386 35 10 15 286 534 341 617 ⟨0,0,0,0⟩ ⟨78,0,79,41⟩ ⟨112,0,127,33⟩ segRunT treeTable hpw hT hV:=hsl (by unfold hPc;refine splitW "special-get-raises" fun b w=>?_;cases b<;>kernel_rfl)
theorem b3M:hPc 11 (some (.ref 6)) 339 45 11 16 341 617 408 723 ⟨0,0,0,0⟩ ⟨112,0,127,33⟩ ⟨204,0,225,97⟩ segRunT treeTable hpw hT hV:=hsl fun w=>by kernel_rfl
theorem b3N:hFin 11 (some (.ref 6)) 2 17 408 723 ⟨0,0,0,0⟩ ⟨204,0,225,97⟩ PySem.W.Fast.tw14082659384304107361 fb fp ft fv:=fun w=>by kernel_rfl
theorem hfin:hFin 11 (some (.ref 6)) 2 17 408 723 ⟨0,0,0,0⟩ ⟨204,0,225,97⟩ topRun treeTable PySem.Challenge.pw_turnsigns_k51_tables_turned hT hV:=by rw[PySem.W.Fast.te14082659384304107361,Ym,PySem.W.Fast.te1584685388438285154,PySem.W.Fast.te14012358171805178155,PySem.W.Fast.te11935984692312738315];exact b3N
theorem hrun(w:World)(os:OsState):topRun treeTable PySem.Challenge.pw_turnsigns_k51_tables_turned w 11 (some (.ref 6)) (Nat.add 12 (Nat.add 1 (Nat.add 196 (Nat.add 214 (Nat.add 214 (Nat.add 214 (Nat.add 214 (Nat.add 214 (Nat.add 214 (Nat.add 214 (Nat.add 214 (Nat.add 214 (Nat.add 214 (Nat.add 214 (Nat.add 214 (Nat.add 379 (Nat.add 325 (Nat.add 386 (Nat.add 339 (2)))))))))))))))))))) ⟨boot_heap w.params,⟨[]⟩,boot_drawn,boot_toks,os⟩ (topStub PySem.Challenge.pw_turnsigns_k51_tables_turned)=some (SharedT.abs ⟨hT 17 w.params,408,{},⟨[]⟩,{},723,os⟩):=hgo hpre w os (hblkk hblk w os (hpcs hp0 w os (hpcs hp1 w os (hpcs hp2 w os (hpcs hp3 w os (hpcs hp4 w os (hpcs hp5 w os (hpcs hp6 w os (hpcs hp7 w os (hpcs hp8 w os (hpcs hp9 w os (hpcs b3G w os (hpcs b3H w os (hpcs b3I w os (hpcs b3J w os (hpcs b3K w os (hpcs b3L w os (hpcs b3M w os (hfin' (by kernel_rfl) hfin w os)))))))))))))))))))
theorem b3O:hLk PySem.W.Fast.tw1584685388438285154 PySem.W.Fast.tw17088756869154971823 PySem.W.Fast.tw14817531989814200718 PySem.W.Fast.tw13964453428349175428 hA [402] 723 ["TURNS"]:=⟨fun _=>by kernel_rfl,fun _=>by kernel_rfl,fun _=>by kernel_rfl,fun _=>by kernel_rfl,fun _=>by kernel_rfl,fun _=>by kernel_rfl,fun _=>by kernel_rfl,fun _=>by kernel_rfl,fun _=>by kernel_rfl,fun _=>by kernel_rfl,fun _=>by kernel_rfl,fun _=>by kernel_rfl⟩
theorem hlk:hLk PySem.Challenge.pw_turnsigns_k51_tables_turned hQ hH hK hA [402] 723 ["TURNS"]:=by rw[PySem.W.Fast.te1584685388438285154,PySem.W.Fast.te17088756869154971823,PySem.W.Fast.te14817531989814200718,PySem.W.Fast.te13964453428349175428];exact b3O
abbrev hHk:Hook:=kmHook hK hA (fun _=>by kernel_rfl) [402]
theorem hlf:LeftO PySem.Challenge.pw_turnsigns_k51_tables_turned hQ ["TURNS"] (fun s=>xlAt hQ [] s&&recOk [] s) (Hook.obs hHk) (Hook.val hHk) 8478:=hleft (fun _=>by kernel_rfl) (by kernel_rfl) (fun _=>by kernel_rfl) (by decide) (by decide) hrun hlk
abbrev hDr:DefRec:=⟨"law",hsA (hS 55),hsB (hS 55),hsS (hS 55),hsP (hS 55)⟩
end
end K51
namespace L2
open PySem PySem.Spec PyProof.Rows
abbrev Key:=Sum Int Str
def a3H:Key->Value->Bool
 |.inl k,v=>Value.isInt k v
 |.inr x,v=>Value.isStrOf x v
def b3P(w:World):Key->Int
 |.inl k=>hashInt k
 |.inr x=>hashStr w x
theorem a1L:∀{k:Key}{v:Value},a3H k v=true->(∃i t,k=Sum.inl i/\v=Value.int i t)∨(∃x t,k=Sum.inr x/\v=Value.str x t)
 |.inl i,v,h=>by
  obtain⟨t,e⟩:=Value.isInt_shape (k:=i) (v:=v) h;exact .inl ⟨i,t,rfl,e⟩
 |.inr x,v,h=>by
  obtain⟨t,e⟩:=Value.isStrOf_shape (x:=x) (v:=v) h;exact .inr ⟨x,t,rfl,e⟩
theorem b3Q(i:Int)(t:Tok):a3H (.inl i) (.int i t)=true:=by simp[a3H,Value.isInt]
theorem b3R(x:Str)(t:Tok):a3H (.inr x) (.str x t)=true:=by simp[a3H,Value.isStrOf]
theorem b3S(a b:Int):decide ((Sum.inl a:Key)=Sum.inl b)=(a==b):=by
 by_cases e:a=b
 ·subst e;simp
 ·have h:¬ (Sum.inl a:Key)=Sum.inl b:=fun q=>e (Sum.inl.inj q)
  rw[Zx h];exact(Jw.mpr e).symm
theorem b3T(a b:Str):decide ((Sum.inr a:Key)=Sum.inr b)=decide (a=b):=by
 by_cases e:a=b
 ·subst e;simp
 ·have h:¬ (Sum.inr a:Key)=Sum.inr b:=fun q=>e (Sum.inr.inj q)
  rw[Zx h,Zx e]
theorem b3U(a:Int)(b:Str):decide ((Sum.inl a:Key)=Sum.inr b)=false:=Zx (fun q=>nomatch q)
theorem b3V(a:Str)(b:Int):decide ((Sum.inr a:Key)=Sum.inl b)=false:=Zx (fun q=>nomatch q)
def w2_(prog:Program)(w:World):PySem.KeyKind prog w Key where
 is:=a3H
 hash:=b3P w
 inj:=fun v a b ha hb=>by
  rcases a1L ha with⟨i,t,rfl,rfl⟩|⟨x,t,rfl,rfl⟩
  ·rcases a1L hb with⟨j,u,rfl,e⟩|⟨y,u,rfl,e⟩
   ·injection e with e1 _;rw[e1]
   ·exact nomatch e
  ·rcases a1L hb with⟨j,u,rfl,e⟩|⟨y,u,rfl,e⟩
   ·exact nomatch e
   ·injection e with e1 _;rw[e1]
 byValue:=fun k v h=>by
  rcases a1L h with⟨i,t,rfl,rfl⟩|⟨x,t,rfl,rfl⟩<;>rfl
 pyHash:=fun hv h=>by
  rcases a1L hv with⟨i,t,rfl,rfl⟩|⟨x,t,rfl,rfl⟩
  ·exact wpAny_pyHash_int h
  ·exact wpAny_pyHash_str h
 eqBool:=fun hu hv h=>by
  rcases a1L hu with⟨i,t,rfl,rfl⟩|⟨x,t,rfl,rfl⟩
  ·rcases a1L hv with⟨j,u,rfl,rfl⟩|⟨y,u,rfl,rfl⟩
   ·rw[b3S]at h;exact wpAny_eqBool_int h
   ·rw[b3U]at h;exact SeqAt.EqAt.int_str i t y u _ _ _ _ h
  ·rcases a1L hv with⟨j,u,rfl,rfl⟩|⟨y,u,rfl,rfl⟩
   ·rw[b3V]at h;exact SeqAt.EqAt.str_int x t j u _ _ _ _ h
   ·rw[b3T]at h;exact wpAny_eqBool_str h
 «strs»:=fun k x t v h=>by
  rcases a1L h with⟨i,u,rfl,e⟩|⟨y,u,rfl,e⟩
  ·exact nomatch e
  ·injection e with e1 _
   subst e1;cases v<;>rfl
theorem b3W(prog:Program)(w:World)(i:Int)(t:Tok):(w2_ prog w).is (.inl i) (.int i t)=true:=b3Q i t
theorem b3X(prog:Program)(w:World)(x:Str)(t:Tok):(w2_ prog w).is (.inr x) (.str x t)=true:=b3R x t
inductive V where
 |non|bl (b:Bool)|int (i:Int)|str (x:Str)|byt (b:Array UInt8)|flt (b:UInt64)|ref (a:Addr)|ty (n:String)
 deriving DecidableEq
def v4_:V->Value->Prop
 |.non,u=>u=Value.none
 |.bl b,u=>u=Value.bool b
 |.int i,u=>∃t,u=Value.int i t
 |.str x,u=>∃t,u=Value.str x t
 |.byt b,u=>∃t,u=Value.bytes b t
 |.flt b,u=>∃t,u=Value.float b t
 |.ref a,u=>u=Value.ref a
 |.ty n,u=>u=Value.type n
abbrev q5_:List V->List Value->Prop:=Paired v4_
theorem q5_.length{xs:List V}{us:List Value}(r:q5_ xs us):xs.length=us.length:=Paired.length r
theorem q5_.get:∀{xs:List V}{us:List Value}{i:Nat}{x:V},q5_ xs us->xs[i]? =some x->∃u,us[i]? =some u/\v4_ x u
 |_,_,_,_,.nil,e=>by simp at e
 |_,_,0,_,.cons r _,e=>by simp at e;subst e;exact⟨_,rfl,r⟩
 |_,_,i+1,x,.cons _ t,e=>by
  obtain⟨u,h1,h2⟩:=q5_.get (i:=i) (x:=x) t (by simpa using e)
  exact⟨u,by simpa using h1,h2⟩
theorem q5_.set{x:V}{u:Value}(r:v4_ x u):∀{xs:List V}{us:List Value}(i:Nat),q5_ xs us->q5_ (xs.set i x) (us.set i u)
 |_,_,_,.nil=>.nil
 |_,_,0,.cons _ t=>.cons r t
 |_,_,i+1,.cons q t=>.cons q (q5_.set r i t)
theorem q5_.append:∀{xs ys:List V}{us ws:List Value},q5_ xs us->q5_ ys ws->q5_ (xs++ys) (us++ws)
 |_,_,_,_,.nil,s=>s
 |_,_,_,_,.cons r t,s=>.cons r (q5_.append t s)
theorem q5_.take:∀{xs:List V}{us:List Value}(n:Nat),q5_ xs us->q5_ (xs.take n) (us.take n)
 |_,_,0,_=>.nil
 |_,_,_+1,.nil=>.nil
 |_,_,n+1,.cons r t=>.cons r (q5_.take n t)
theorem q5_.drop:∀{xs:List V}{us:List Value}(n:Nat),q5_ xs us->q5_ (xs.drop n) (us.drop n)
 |_,_,0,r=>r
 |_,_,_+1,.nil=>.nil
 |_,_,n+1,.cons _ t=>q5_.drop n t
def a0Q:Option V->Option Value->Prop
 |some v,some u=>v4_ v u
 |none,none=>True
 |_,_=>False
def KV{κ:Type}:List (κ×V)->List (κ×Value)->Prop:=Paired fun(p:κ×V) (q:κ×Value)=>p.1=q.1/\v4_ p.2 q.2
def kV:Key->V
 |.inl i=>.int i
 |.inr x=>.str x
inductive HO where
 |lst (xs:List V)
 |tup (xs:List V)
 |dK (kvs:List (Key×V))|dT (C:Addr->List Key->Prop) (kvs:List (List Key×V))
 |set (S:Int->Bool) (n:Nat)
 |ins (C dx:Addr) (fs:List (Str×V))
 |own (x:Addr)
 |xd (fs:List (Str×V))
 |met (f x:Addr)
 |rng (lo hi:Int)
 |frz (o:Obj) (u:HO)
 |tbl (ps:Array Value)
 |ext (φ:Heap->Prop)
abbrev Hp:=Addr->Option HO
def upd(H:Hp)(a:Addr)(o:HO):Hp:=fun b=>if b=a then some o else H b
theorem y6_{H:Hp}{a:Addr}{o:HO}:upd H a o a=some o:=by unfold upd;rw[Qc rfl]
theorem q4_{H:Hp}{a b:Addr}{o:HO}(h:b≠a):upd H a o b=H b:=by unfold upd;rw[Ql h]
theorem b3Y{H:Hp}{a:Addr}{o u:HO}:upd (upd H a o) a u=upd H a u:=by
 funext b;unfold upd;split<;>rfl
theorem j3_{H:Hp}{a b:Addr}{o:HO}(h:H a=some o)(h':H b=none):a≠b:=by
 intro e;subst e;rw[h]at h';cases h'
def a0A(h:Heap)(a:Addr)(items:Array Value):Prop:=∃o,h.get? a=some o/\o.cls=.type "tuple"/\o.dict=none/\∃n,o.data=.seq items n
theorem a0A.tup{h:Heap}{a:Addr}{items:Array Value}:a0A h a items->IsTup h a items:=fun⟨o,e,c,_,d⟩=>⟨o,e,c,d⟩
theorem a0A.lt{h:Heap}{a:Addr}{items:Array Value}(p:a0A h a items):a<h.objs.size:=p.tup.lt
theorem a0A.new(h:Heap)(items:Array Value):a0A (h.push {cls:=.type "tuple",data:=.seq items}) h.objs.size items:=⟨_,Qn _ rfl,rfl,rfl,_,rfl⟩
section
variable(P:Program)(w:World)
def k1_(H:Hp)(h:Heap)(a:Addr):HO->Prop
 |.lst xs=>xs.length≤sizeLine/\∃(its:List Value) (n:Nat),q5_ xs its/\h.get? a=some {cls:=.type "list",data:=.seq its.toArray n}
 |.tup xs=>xs.length≤sizeLine/\∃its:List Value,q5_ xs its/\a0A h a its.toArray
 |.dK kvs=>kvs.length≤sizeLine/\(a==sysModules)=false/\∃vs,KV kvs vs/\h.DictOf (w2_ P w) a vs
 |.dT C kvs=>kvs.length≤sizeLine/\(a==sysModules)=false/\∃xs:List (List Key×Addr×Value),
   Paired (fun(p:List Key×V) (q:List Key×Addr×Value)=>p.1=q.1/\(H q.2.1=some (.tup (p.1.map kV))∨C q.2.1 p.1)/\v4_ p.2 q.2.2) kvs xs/\
   ∃o es ep,h.get? a=some o/\o.ExactDict/\o.data=.dict es ep/\es.toList=xs.map (entryOfKey (tupleKind (w2_ P w)))/\(xs.map (·.1)).Nodup
 |.set S n=>h.SetOf (intKind P w) a S n
 |.ins C dx fs=>H dx=some (.own a)/\fs.length≤1000/\dx≠a/\h.get? a=some (PySem.W.instObj C dx)/\
   ∃mA,h.Ns1 dx mA/\(∀f,a0Q (fs.lookup f) (mA f))/\PySem.Within mA (fs.map (·.1))
 |.own _=>∃o,h.get? a=some o
 |.xd fs=>∃mA,h.Ns1 a mA/\∀f,a0Q (fs.lookup f) (mA f)
 |.rng lo hi=>∃t u v,h.get? a=some {cls:=.type "range",data:=.fields #[.int lo t,.int hi u,.int 1 v]}
 |.frz o u=>h.get? a=some o/\k1_ H h a u
 |.tbl ps=>h.get? a=some {cls:=.none,data:=.fields ps}
 |.met f x=>h.get? a=some (PySem.W.methodObj (.ref f) (.ref x))
 |.ext φ=>φ h/\(∃o,h.get? a=some o)/\∀h1 h2:Heap,φ h1->(∀o,h1.get? a=some o->h2.get? a=some o)->φ h2
def HOk(H:Hp)(h:Heap):Prop:=∀a o,H a=some o->k1_ P w H h a o
end
section
variable{P:Program}{w:World}{H H':Hp}{h h':Heap}{a:Addr}{o:HO}
theorem k1_.lt(x:k1_ P w H h a o):a<h.objs.size:=by
 cases o with
 |lst xs=>obtain⟨_,_,_,_,e⟩:=x;exact Qu e
 |tup xs=>obtain⟨_,_,_,p⟩:=x;exact p.lt
 |dK kvs=>obtain⟨_,_,_,_,o,_,_,e,_⟩:=x;exact Qu e
 |dT C kvs=>obtain⟨_,_,_,_,o,_,_,e,_⟩:=x;exact Qu e
 |set S n=>obtain⟨o,_,_,_,e,_⟩:=x;exact Qu e
 |ins C dx fs=>obtain⟨_,_,_,e,_⟩:=x;exact Qu e
 |own y=>obtain⟨_,e⟩:=x;exact Qu e
 |xd fs=>obtain⟨_,⟨_,_,_,e,_⟩,_⟩:=x;exact Qu e
 |rng lo hi=>obtain⟨_,_,_,e⟩:=x;exact Qu e
 |frz ob u=>obtain⟨e,_⟩:=x;exact Qu e
 |tbl ps=>exact Qu (show h.get? a=some _ from x)
 |met f y=>exact Qu (show h.get? a=some _ from x)
 |ext φ=>obtain⟨_,⟨_,e⟩,_⟩:=x;exact Qu e
theorem Paired.mapP{α β:Type}{F G:α->β->Prop}:∀{l₁:List α}{l₂:List β},Paired F l₁ l₂->(∀a b,F a b->G a b)->Paired G l₁ l₂
 |_,_,.nil,_=>.nil
 |_,_,.cons r t,f=>.cons (f _ _ r) (Paired.mapP t f)
theorem k1_.stay(x:k1_ P w H h a o)(k:∀b u,(b=a∨H b=some (.own a))->h.get? b=some u->h'.get? b=some u)
  (ho:∀b,H b=some (.own a)->H' b=some (.own a))(ht:∀b xs,H b=some (.tup xs)->H' b=some (.tup xs)):k1_ P w H' h' a o:=by
 induction o with
 |lst xs=>obtain⟨z,its,n,r,e⟩:=x;exact⟨z,its,n,r,k _ _ (.inl rfl) e⟩
 |tup xs=>obtain⟨z,its,r,ob,e,c⟩:=x;exact⟨z,its,r,ob,k _ _ (.inl rfl) e,c⟩
 |dK kvs=>obtain⟨z,y,vs,r,ob,es,ep,e,c⟩:=x;exact⟨z,y,vs,r,ob,es,ep,k _ _ (.inl rfl) e,c⟩
 |dT C kvs=>
  obtain⟨z,y,xs,r,ob,es,ep,e,c⟩:=x;exact⟨z,y,xs,Paired.mapP r fun p q z=>⟨z.1,z.2.1.imp (ht _ _) id,z.2.2⟩,ob,es,ep,k _ _ (.inl rfl) e,c⟩
 |set S n=>obtain⟨ob,es,ep,t,e,c⟩:=x;exact⟨ob,es,ep,t,k _ _ (.inl rfl) e,c⟩
 |ins C dx fs=>
  obtain⟨d,z,ne,e,mA,⟨od,es,ep,e2,c⟩,r⟩:=x;exact⟨ho _ d,z,ne,k _ _ (.inl rfl) e,mA,⟨od,es,ep,k _ _ (.inr d) e2,c⟩,r⟩
 |own y=>obtain⟨ob,e⟩:=x;exact⟨ob,k _ _ (.inl rfl) e⟩
 |xd fs=>obtain⟨mA,⟨od,es,ep,e,c⟩,r⟩:=x;exact⟨mA,⟨od,es,ep,k _ _ (.inl rfl) e,c⟩,r⟩
 |rng lo hi=>obtain⟨t,u,v,e⟩:=x;exact⟨t,u,v,k _ _ (.inl rfl) e⟩
 |frz ob u ih=>obtain⟨e,q⟩:=x;exact⟨k _ _ (.inl rfl) e,ih q⟩
 |tbl ps=>
  have e:h.get? a=some {cls:=.none,data:=.fields ps}:=x
  show h'.get? a=some {cls:=.none,data:=.fields ps};exact k a _ (.inl rfl) e
 |met f y=>
  have e:h.get? a=some (PySem.W.methodObj (.ref f) (.ref y)):=x
  show h'.get? a=some (PySem.W.methodObj (.ref f) (.ref y));exact k a _ (.inl rfl) e
 |ext φ=>obtain⟨p,⟨o,e⟩,st⟩:=x;exact⟨st _ _ p fun o q=>k _ _ (.inl rfl) q,⟨o,k _ _ (.inl rfl) e⟩,st⟩
theorem HOk.lt(x:HOk P w H h)(e:H a=some o):a<h.objs.size:=(x a o e).lt
theorem HOk.fresh(x:HOk P w H h)(e:h.objs.size≤a):H a=none:=by
 cases q:H a with
 |none=>rfl
 |some u=>exact absurd (Qd (x.lt q) e) (Yh _)
theorem HOk.kept(x:HOk P w H h)(k:∀b u,h.get? b=some u->h'.get? b=some u):HOk P w H h':=fun a o e=>
 (x a o e).stay (fun b u _ q=>k b u q) (fun _ q=>q) fun _ _ q=>q
theorem HOk.laid(x:HOk P w H h)(k:∀b u,h.get? b=some u->h'.get? b=some u)(hp:h.objs.size≤a)(new:k1_ P w (upd H a o) h' a o):HOk P w (upd H a o) h':=fun b u e=>by
 have hn:=x.fresh hp
 by_cases hb:b=a
 ·subst hb;rw[y6_]at e;cases e;exact new
 ·rw[q4_ hb]at e
  exact(x b u e).stay (fun c v _ q=>k c v q) (fun c q=>by rw[q4_ (j3_ q hn)];exact q) fun c xs q=>by rw[q4_ (j3_ q hn)];exact q
end
def Rd(H:Hp)(a:Addr)(u:HO):Prop:=H a=some u∨ ∃o,H a=some (.frz o u)
theorem Rd.of{H:Hp}{a:Addr}{u:HO}(h:H a=some u):Rd H a u:=.inl h
theorem Rd.ok{P:Program}{w:World}{H:Hp}{h:Heap}{a:Addr}{u:HO}(r:Rd H a u)(x:HOk P w H h):k1_ P w H h a u:=by
 rcases r with r|⟨o,r⟩
 ·exact x a u r
 ·obtain⟨_,q⟩:=x a _ r
  exact q
def Mut:Option HO->Prop
 |some (.lst _)=>True
 |some (.dK _)=>True
 |some (.dT _ _)=>True
 |some (.set _ _)=>True
 |some (.ins _ _ _)=>True
 |some (.ext _)=>True
 |_=>False
section
variable{P:Program}{w:World}{H:Hp}{h h':Heap}{x e:Addr}{o':HO}
theorem HOk.write(ok:HOk P w H h)(mu:Mut (H x))(he:e=x∨H e=some (.own x))(k:∀b u,b≠e->h.get? b=some u->h'.get? b=some u)(heo:∃u,h'.get? e=some u)
  (new:k1_ P w (upd H x o') h' x o'):HOk P w (upd H x o') h':=fun b u q=>by
 have nown:∀c y,H c=some (.own y)->c≠x:=fun c y r z=>by subst z;rw[r]at mu;exact mu
 have ntup:∀c xs,H c=some (.tup xs)->c≠x:=fun c xs r z=>by subst z;rw[r]at mu;exact mu
 by_cases hb:b=x
 ·subst hb;rw[y6_]at q;cases q;exact new
 ·rw[q4_ hb]at q
  by_cases hbe:b=e
  ·have q':H b=some (.own x):=by
    rcases he with z|z
    ·exact absurd (hbe.trans z) hb
    ·rw[hbe];exact z
   rw[q]at q';cases q';obtain⟨v,hv⟩:=heo;exact⟨v,by rw[hbe];exact hv⟩
  ·refine(ok b u q).stay (fun c v hc r=>k c v ?_ r) (fun c r=>by rw[q4_ (nown c b r)];exact r) fun c xs r=>by rw[q4_ (ntup c xs r)];exact r
   rcases hc with rfl|hc
   ·exact hbe
   ·rintro rfl
    rcases he with z|z
    ·exact nown c b hc z
    ·rw[hc]at z;cases z;exact hb rfl
end
structure Un(fs ex:List Addr)(H H':Hp)(h h':Heap):Prop where
 keep:∀b o,h.get? b=some o->H b=none->b∉fs->b∉ex->h'.get? b=some o
 slot:∀b o,h.get? b=some o->H b=none->b∈fs->b∉ex->∃sl,h'.get? b=some {o with slots:=sl}
 free:∀b o,h.get? b=some o->H b=none->b∉ex->H' b=none
 there:∀b o,h.get? b=some o->b∉ex->∃o',h'.get? b=some o'
 tups:∀b xs,H b=some (.tup xs)->H' b=some (.tup xs)
 frzs:∀b o u,H b=some (.frz o u)->H' b=some (.frz o u)
 tbls:∀b ps,H b=some (.tbl ps)->∃more,H' b=some (.tbl (ps++more))
section
variable{fs fs' ex ex':List Addr}{H H1 H2:Hp}{h h1 h2 h':Heap}{a x e:Addr}{o:HO}
theorem Un.any(u:Un fs ex H H1 h h1){b:Addr}{ob:Obj}(q:h.get? b=some ob)(n:H b=none)(hx:b∉ex):∃sl,h1.get? b=some {ob with slots:=sl}:=by
 by_cases hb:b∈fs
 ·exact u.slot b ob q n hb hx
 ·exact⟨ob.slots,u.keep b ob q n hb hx⟩
theorem Un.trans(a:Un fs ex H H1 h h1)(b:Un fs ex H1 H2 h1 h2):Un fs ex H H2 h h2 where
 keep:=fun c ob q n hc hx=>b.keep c ob (a.keep c ob q n hc hx) (a.free c ob q n hx) hc hx
 slot:=fun c ob q n hc hx=>by
  obtain⟨sl,e1⟩:=a.slot c ob q n hc hx;obtain⟨sl',e2⟩:=b.slot c _ e1 (a.free c ob q n hx) hc hx;exact⟨sl',e2⟩
 free:=fun c ob q n hx=>by
  obtain⟨o',e1⟩:=a.there c ob q hx;exact b.free c o' e1 (a.free c ob q n hx) hx
 there:=fun c ob q hx=>by
  obtain⟨o',e1⟩:=a.there c ob q hx;exact b.there c o' e1 hx
 tups:=fun c xs q=>b.tups c xs (a.tups c xs q)
 frzs:=fun c ob xs q=>b.frzs c ob xs (a.frzs c ob xs q)
 tbls:=fun c ps q=>by
  obtain⟨m1,e1⟩:=a.tbls c ps q;obtain⟨m2,e2⟩:=b.tbls c _ e1;exact⟨m1++m2,by rw[e2,Vn]⟩
theorem Un.kept(k:∀b u,h.get? b=some u->h'.get? b=some u):Un fs ex H H h h':=
 ⟨fun b ob q _ _ _=>k b ob q,fun b ob q _ _ _=>⟨ob.slots,k b ob q⟩,fun _ _ _ n _=>n,fun b ob q _=>⟨ob,k b ob q⟩,fun _ _ q=>q,fun _ _ _ q=>q,fun _ ps q=>⟨#[],by rw[q];simp⟩⟩
theorem Un.refl:Un fs ex H H h h:=Un.kept fun _ _ q=>q
theorem Un.laid(k:∀b u,h.get? b=some u->h'.get? b=some u)(hp:h.objs.size≤a)(hn:H a=none):Un fs ex H (upd H a o) h h' where
 keep:=fun b u q _ _ _=>k b u q
 slot:=fun b u q _ _ _=>⟨u.slots,k b u q⟩
 free:=fun b u q n _=>by rw[q4_ (Qr (Qd (Qu q) hp))];exact n
 there:=fun b u q _=>⟨u,k b u q⟩
 tups:=fun b xs q=>by rw[q4_ (j3_ q hn)];exact q
 frzs:=fun b u xs q=>by rw[q4_ (j3_ q hn)];exact q
 tbls:=fun b ps q=>⟨#[],by rw[q4_ (j3_ q hn),q];simp⟩
theorem Un.write(mu:Mut (H x))(he:e=x∨H e=some (.own x))(k:∀b u,b≠e->h.get? b=some u->h'.get? b=some u)(heo:∃u,h'.get? e=some u):Un fs ex H (upd H x o) h h':=by
 have hx:∀b,H b=none->b≠x:=fun b n z=>by subst z;rw[n]at mu;exact mu
 have hb:∀b,H b=none->b≠e:=fun b n z=>by
  subst z
  rcases he with r|r
  ·exact hx b n r
  ·rw[n]at r;cases r
 have hm:∀b u,H b=some u-> ¬ Mut (some u)->b≠x:=fun b u q nm z=>by subst z;rw[q]at mu;exact nm mu
 refine⟨fun b u q n _ _=>k b u (hb b n) q,fun b u q n _ _=>⟨u.slots,k b u (hb b n) q⟩,fun b u q n _=>by rw[q4_ (hx b n)];exact n,fun b u q _=>?_,
  fun b xs q=>by rw[q4_ (hm b _ q fun z=>z)];exact q,fun b u xs q=>by rw[q4_ (hm b _ q fun z=>z)];exact q,fun b ps q=>⟨#[],by rw[q4_ (hm b _ q fun z=>z),q];simp⟩⟩
 by_cases hbe:b=e
 ·subst hbe;exact heo
 ·exact⟨u,k b u hbe q⟩
theorem Un.mono(u:Un fs ex H H1 h h1)(hs:∀b∈fs,b∈fs')(hx:∀b∈ex,b∈ex'):Un fs' ex' H H1 h h1:=
 ⟨fun b ob q n hb he=>u.keep b ob q n (fun z=>hb (hs b z)) fun z=>he (hx b z),fun _ _ q n _ he=>u.any q n fun z=>he (hx _ z),fun b ob q n he=>u.free b ob q n fun z=>he (hx b z),fun b ob q he=>u.there b ob q fun z=>he (hx b z),u.tups,u.frzs,u.tbls⟩
end
def trk(h:Heap)(H:Hp):List Addr:=(List.range h.objs.size).filter fun a=>(H a).isSome
def a1s(h:Heap)(H:Hp):Heap:=PySem.W.hideAll h (trk h H)
theorem b3Z(h:Heap)(H:Hp):(a1s h H).objs.size=h.objs.size:=PySem.W.hideAll_size _ _
theorem b4a{h:Heap}{H:Hp}{b:Addr}{o:Obj}(e:h.get? b=some o)(n:H b=none):(a1s h H).get? b=some o:=
 Jp _ e fun hm=>by
  have q:(H b).isSome=true:=(List.mem_filter.mp hm).2
  rw[n]at q;simp at q
theorem b4b{h:Heap}{H:Hp}{b:Addr}{o:Obj}(e:(a1s h H).get? b=some o):h.get? b=some o/\H b=none:=by
 have e':h.get? b=some o:=PySem.W.of_hideAll (trk h H) e
 refine⟨e',?_⟩;cases q:H b with
 |none=>rfl
 |some x=>
  have hm:b∈trk h H:=List.mem_filter.mpr ⟨Yq.mpr (Qu e'),by simp[q]⟩
  have z:(a1s h H).get? b=none:=PySem.W.hideAll_none (trk h H) hm
  rw[z]at e;cases e
def a4q(g h:Heap)(L:Addr):OX:=(List.range h.objs.size).filterMap fun a=>if a=L∨(g.get? a).isSome=true then none else(h.get? a).map fun o=>(a,o)
theorem a9A{g h:Heap}{L a:Addr}{o:Obj}(h1:a≠L)(h2:g.get? a=none)(h3:h.get? a=some o):(a,o)∈a4q g h L:=
 Ye.mpr ⟨a,Yq.mpr (Qu h3),by simp[h1,h2,h3]⟩
theorem b4c{g h:Heap}{L:Addr}{p:Addr×Obj}(hp:p∈a4q g h L):p.1≠L/\g.get? p.1=none/\h.get? p.1=some p.2:=by
 obtain⟨b,_,e⟩:=Ye.mp hp;split at e
 ·cases e
 ·rename_i hn
  cases q:h.get? b with
  |none=>rw[q]at e;simp at e
  |some u=>
   rw[q]at e;simp only[Xj,Zb]at e;subst e;refine⟨fun z=>hn (.inl z),?_,q⟩
   show g.get? b=none;cases r:g.get? b with
   |none=>rfl
   |some v=>exact(hn (.inr (by simp[r]))).elim
def rest(g h:Heap)(L d:Addr):OX:=(a4q g h L).filter fun p=>decide (p.1≠d)
theorem a9B{g h:Heap}{L:Addr}:News g L h (a4q g h L):=fun p hp=>let ⟨a,b,c⟩:=b4c hp;⟨c,a,b⟩
structure Mod(K:Qq)(mg:OU)(base:Heap):Prop where
 kin:K.In base
 glob:base.Ns mainGlobals mg
 blt:∃mb,base.Ns builtinsNs mb/\∀x:Str,x≠"__name__"->mb x=bootBuiltins x
 nolimit:base.NoLimit
structure Cx where
 prog:Program
 w:World
 K:Qq
 mg:OU
 base:Heap
 A:Around
 N:List Str
 s₀:Shared
 H₀:Hp
 env:Env
 outer:List Env
 stack:List Env
 ex:List Addr
 fn:Str->Bool
 calm:Bool
 pn:OX
 xe:OE
def frs(l:List Env):List Addr:=l.filterMap (·.frame)
abbrev Cx.fs(X:Cx):List Addr:=frs X.outer
def Vis(sc:Scope)(x:Str):Prop:=sc.names.lookup x=some .local∨sc.names.lookup x=some .cell∨sc.names.lookup x=some .free
def Loc(sc:Scope)(x:Str):Prop:=sc.names.lookup x=some .local∨sc.names.lookup x=some .cell
def a9C(env:Env)(h:Heap)(m:OU)(x:Str)(u:Value):Prop:=
 (env.kindOf x=some .local/\m x=some u)∨((env.kindOf x=some .cell∨env.kindOf x=some .free)/\∃c,env.cells.lookup x=some c/\h.IsCell c (some u))
structure Cx.Ok(X:Cx):Prop where
 mod:Mod X.K X.mg X.base
 kind:X.env.scope.kind=.function
 glob:X.env.globals=mainGlobals
 blt:X.env.builtins=builtinsNs
 above:X.s₀.heap.objs.size≤X.env.locals
 inj:∀x y c,X.env.cells.lookup x=some c->X.env.cells.lookup y=some c->x=y
 has:∀x,(X.env.kindOf x=some .cell∨X.env.kindOf x=some .free)->∃c,X.env.cells.lookup x=some c
 cab:∀x c,X.fn x=true->X.env.cells.lookup x=some c->X.s₀.heap.objs.size≤c
 hd:X.calm=true->X.A.handled=none
 frames:X.A.frames=some X.stack
 stk:X.stack=X.outer∨(X.stack=X.env::X.outer/\X.env.frame=some X.env.locals)
 exf:∀b∈X.ex,b≠X.env.locals/\∀x c,X.env.cells.lookup x=some c->c≠b
 bs:∀b o,X.base.get? b=some o->X.s₀.heap.get? b=some o/\X.H₀ b=none
 bsz:X.base.objs.size≤X.s₀.heap.objs.size
 noex:∀b o,X.base.get? b=some o->b∉X.ex
 exfs:∀b∈X.ex,b∉X.fs
 funs:X.s₀.heap.FunFrames X.base X.outer
 frf:∀b∈X.fs,X.H₀ b=none
structure Inv(X:Cx)(pins:OX)(σ:List (Option V))(H:Hp)(s:Shared):Prop where
 ok:X.Ok
 os:s.os=X.s₀.os
 bare:AllBare s.gens
 base:Un X.fs X.ex X.H₀ H X.s₀.heap s.heap
 loc:∃m,s.heap.Ns X.env.locals m/\∀(i:Nat) (x:Str) (v:V),X.N[i]? =some x->σ[i]? =some (some v)->Vis X.env.scope x->∃u,v4_ v u/\a9C X.env s.heap m x u
 cell:∀x c,X.env.cells.lookup x=some c->∃v,s.heap.IsCell c v
 free:H X.env.locals=none
 freeC:∀x c,X.env.cells.lookup x=some c->H c=none
 pin:∀p∈X.pn++pins,s.heap.get? p.1=some p.2/\H p.1=none/\p.1≠X.env.locals/\p.1∉X.fs/\∀v,p.2.data≠.cell v
 hok:HOk X.prog X.w H s.heap
 len:σ.length=X.N.length
section
variable{X:Cx}{pins:OX}{σ:List (Option V)}{H H':Hp}{s:Shared}{h':Heap}
theorem Cx.Ok.nofr(ok:X.Ok){b:Addr}{o:Obj}(e:X.base.get? b=some o):b∉X.fs:=fun hb=>by
 have:=(ok.funs.mem hb).1;rw[e]at this;cases this
theorem Inv.bs(I:Inv X pins σ H s):∀b o,X.base.get? b=some o->s.heap.get? b=some o/\H b=none:=fun b o e=>
 ⟨I.base.keep b o (I.ok.bs b o e).1 (I.ok.bs b o e).2 (I.ok.nofr e) (I.ok.noex b o e),I.base.free b o (I.ok.bs b o e).1 (I.ok.bs b o e).2 (I.ok.noex b o e)⟩
theorem Inv.bk(I:Inv X pins σ H s):∀b o,X.base.get? b=some o->s.heap.get? b=some o:=fun b o e=>(I.bs b o e).1
theorem Inv.mod(I:Inv X pins σ H s):Mod X.K X.mg X.base:=I.ok.mod
theorem Inv.kIn(I:Inv X pins σ H s):X.K.In s.heap:=I.ok.mod.kin.keeps I.bk
theorem Inv.nolimit(I:Inv X pins σ H s):s.heap.NoLimit:=I.ok.mod.nolimit.keeps I.bk
theorem Inv.fr(I:Inv X pins σ H s):∃m,Fr X.base X.env.locals s.heap m:=
 let ⟨m,hn,_⟩:=I.loc
 ⟨m,hn,I.bk,Qo I.ok.bsz I.ok.above⟩
theorem Inv.lt(I:Inv X pins σ H s):X.env.locals<s.heap.objs.size:=let ⟨_,hn,_⟩:=I.loc;hn.lt
theorem Inv.sz(I:Inv X pins σ H s):X.s₀.heap.objs.size≤s.heap.objs.size:=Qo I.ok.above (Jj I.lt)
theorem Inv.nofs(I:Inv X pins σ H s){a:Addr}(h:s.heap.objs.size≤a):a∉X.fs:=fun hb=>by
 obtain⟨_,o,ho,_⟩:=I.ok.funs.mem hb;exact absurd (Qd (Qu ho) (Qo I.sz h)) (Yh _)
theorem Inv.cne(I:Inv X pins σ H s):∀x c,X.env.cells.lookup x=some c->c≠X.env.locals:=fun x c e z=>by
 obtain⟨v,o,ho,hd⟩:=I.cell x c e;obtain⟨m,⟨o',es,ep,ho',hd',_⟩,_⟩:=I.loc;rw[z,ho']at ho;cases ho;rw[hd']at hd;cases hd
theorem Inv.funs(I:Inv X pins σ H s):s.heap.FunFrames X.base X.outer:=by
 have all:∀(l:List Env),(∀b∈frs l,b∈X.fs)->X.s₀.heap.FunFrames X.base l->s.heap.FunFrames X.base l:=by
  intro l
  induction l with
  |nil=>intro _ _;trivial
  |cons env r ih=>
   intro hs hl;obtain⟨hk,⟨L,o,hf,hn,ho,hd⟩,hr⟩:=hl;have hL:L∈X.fs:=hs L (by unfold frs;rw[Jy,hf];exact Yx)
   obtain⟨sl,e⟩:=I.base.slot L o ho (I.ok.frf L hL) hL fun z=>I.ok.exfs L z hL
   exact⟨hk,⟨L,_,hf,hn,e,hd⟩,ih (fun b hb=>hs b (by unfold frs;rw[Jy,hf];exact Yw _ hb)) hr⟩
 exact all X.outer (fun _ hb=>hb) I.ok.funs
theorem Inv.stack(I:Inv X pins σ H s):s.heap.FunFrames X.base X.stack:=by
 rcases I.ok.stk with e|⟨e,hf⟩
 ·rw[e];exact I.funs
 ·rw[e]
  obtain⟨m,hn,_⟩:=I.loc;refine .cons (by rw[I.ok.kind];decide) hf hn ?_ I.funs
  exact Heap.get?_none_of_le (Qo I.ok.bsz I.ok.above)
theorem Inv.stkSub(I:Inv X pins σ H s):∀b∈frs X.stack,b∈X.env.locals::X.fs:=fun b hb=>by
 rcases I.ok.stk with e|⟨e,hf⟩
 ·rw[e]at hb;exact Yw _ hb
 ·rw[e]at hb
  unfold frs at hb;rw[Jy,hf]at hb;exact hb
theorem Inv.stkFree(I:Inv X pins σ H s):∀b∈frs X.stack,H b=none:=fun b hb=>by
 rcases Qh.mp (I.stkSub b hb)with e|hb
 ·rw[e];exact I.free
 ·obtain⟨_,o,ho,_⟩:=I.ok.funs.mem hb
  exact I.base.free b o ho (I.ok.frf b hb) fun z=>I.ok.exfs b z hb
theorem Inv.step{g':Array GenState}{t':Nat}{d':Drawn}{ch:List Addr}(I:Inv X pins σ H s)
  (hch:∀b∈ch,(b∈X.ex∨X.s₀.heap.objs.size≤b)/\b≠X.env.locals/\(∀x c,X.env.cells.lookup x=some c->c≠b)/\∀p∈X.pn++pins,p.1≠b)
  (keep:∀b o,b≠X.env.locals->b∉X.fs->b∉ch->s.heap.get? b=some o->H b=none->h'.get? b=some o)
  (slot:∀b o,b≠X.env.locals->b∈X.fs->b∉ch->s.heap.get? b=some o->H b=none->∃sl,h'.get? b=some {o with slots:=sl})(free:∀b o,b∉ch->s.heap.get? b=some o->H b=none->H' b=none)
  (there:∀b o,b∉ch->s.heap.get? b=some o->∃o',h'.get? b=some o')
  (tups:∀b xs,H b=some (.tup xs)->H' b=some (.tup xs))(frzs:∀b o u,H b=some (.frz o u)->H' b=some (.frz o u))(tbls:∀b ps,H b=some (.tbl ps)->∃more,H' b=some (.tbl (ps++more)))
  (ns:∀m,s.heap.Ns X.env.locals m->h'.Ns X.env.locals m)(hok:HOk X.prog X.w H' h')(hg:AllBare g'):
  Inv X pins σ H' {s with heap:=h',gens:=g',drawn:=d',toks:=t'}:=by
 have neL:∀b o,X.s₀.heap.get? b=some o->b≠X.env.locals:=fun b o e=>Qr (Qd (Qu e) I.ok.above)
 have neC:∀b o,X.s₀.heap.get? b=some o->b∉X.ex->b∉ch:=fun b o e hx hb=>by
  rcases(hch b hb).1 with z|z
  ·exact hx z
  ·exact absurd (Qd (Qu e) z) (Yh _)
 have cellK:∀x c,X.env.cells.lookup x=some c->∀v,s.heap.IsCell c v->h'.IsCell c v:=fun x c e v ⟨o,ho,hd⟩=>by
  have nch:c∉ch:=fun z=>(hch c z).2.2.1 x c e rfl
  by_cases hc:c∈X.fs
  ·obtain⟨sl,q⟩:=slot c o (I.cne x c e) hc nch ho (I.freeC x c e)
   exact⟨_,q,hd⟩
  ·exact⟨o,keep c o (I.cne x c e) hc nch ho (I.freeC x c e),hd⟩
 refine⟨I.ok,I.os,hg,⟨fun b o e n hb hx=>?_,fun b o e n hb hx=>?_,fun b o e n hx=>?_,fun b o e hx=>?_,fun b xs e=>tups b xs (I.base.tups b xs e),fun b o xs e=>frzs b o xs (I.base.frzs b o xs e),fun b ps e=>?_⟩,?_,fun x c e=>?_,?_,fun x c e=>?_,fun p hp=>?_,hok,I.len⟩
 ·exact keep b o (neL b o e) hb (neC b o e hx) (I.base.keep b o e n hb hx) (I.base.free b o e n hx)
 ·obtain⟨sl,e1⟩:=I.base.slot b o e n hb hx
  obtain⟨sl',e2⟩:=slot b _ (neL b o e) hb (neC b o e hx) e1 (I.base.free b o e n hx);exact⟨sl',e2⟩
 ·obtain⟨o',e1⟩:=I.base.there b o e hx
  exact free b o' (neC b o e hx) e1 (I.base.free b o e n hx)
 ·obtain⟨o',e1⟩:=I.base.there b o e hx
  exact there b o' (neC b o e hx) e1
 ·obtain⟨m1,e1⟩:=I.base.tbls b ps e
  obtain⟨m2,e2⟩:=tbls b _ e1;exact⟨m1++m2,by rw[e2,Vn]⟩
 ·obtain⟨m,hn,hl⟩:=I.loc
  refine⟨m,ns m hn,fun i x v e1 e2 e3=>?_⟩
  obtain⟨u,r,l⟩:=hl i x v e1 e2 e3;refine⟨u,r,?_⟩
  rcases l with l|⟨k,c,e,z⟩
  ·exact .inl l
  ·exact .inr ⟨k,c,e,cellK x c e _ z⟩
 ·obtain⟨v,z⟩:=I.cell x c e
  exact⟨v,cellK x c e v z⟩
 ·obtain⟨m,⟨o,_,_,ho,_⟩,_⟩:=I.loc
  exact free _ o (fun z=>(hch _ z).2.1 rfl) ho I.free
 ·obtain⟨v,o,ho,hd⟩:=I.cell x c e
  exact free c o (fun z=>(hch c z).2.2.1 x c e rfl) ho (I.freeC x c e)
 ·obtain⟨e,n,ne,nf,d⟩:=I.pin p hp
  have nch:p.1∉ch:=fun z=>(hch p.1 z).2.2.2 p hp rfl
  exact⟨keep p.1 p.2 ne nf nch e n,free p.1 p.2 nch e n,ne,nf,d⟩
theorem Inv.un{t':Nat}(I:Inv X pins σ H s)(u:Un X.fs [] H H' s.heap h')(hok:HOk X.prog X.w H' h'):Inv X pins σ H' {s with heap:=h',toks:=t'}:=by
 obtain⟨m,⟨o,es,ep,ho,r⟩,_⟩:=id I.loc;obtain⟨sl,hL⟩:=u.any ho I.free (by simp)
 exact I.step (g':=s.gens) (d':=s.drawn) (ch:=[]) (fun _ z=>nomatch z) (fun b o _ hb _ e n=>u.keep b o e n hb (by simp)) (fun b o _ hb _ e n=>u.slot b o e n hb (by simp)) (fun b o _ e n=>u.free b o e n (by simp)) (fun b o _ e=>u.there b o e (by simp)) u.tups u.frzs u.tbls (fun m' hm=>by
  obtain⟨o',es',ep',ho',r'⟩:=hm;rw[ho]at ho';cases ho';exact⟨_,es',ep',hL,r'⟩) hok I.bare
theorem Inv.call{g':Array GenState}{t':Nat}{d':Drawn}{ch:List Addr}(I:Inv X pins σ H s)(u:Un (frs X.stack) ch H H' s.heap h')(hok:HOk X.prog X.w H' h')(hg:AllBare g')
  (hch:∀b∈ch,(b∈X.ex∨X.s₀.heap.objs.size≤b)/\b≠X.env.locals/\(∀x c,X.env.cells.lookup x=some c->c≠b)/\∀p∈X.pn++pins,p.1≠b):
  Inv X pins σ H' {s with heap:=h',gens:=g',drawn:=d',toks:=t'}:=by
 obtain⟨m,⟨o,es,ep,ho,r⟩,_⟩:=id I.loc;obtain⟨sl,hL⟩:=u.any ho I.free fun z=>(hch _ z).2.1 rfl
 exact I.step (ch:=ch) hch (fun b o hL hb hc e n=>u.keep b o e n (fun z=>(Qh.mp (I.stkSub b z)).elim hL hb) hc) (fun b o _ _ hc e n=>u.any e n hc) (fun b o hc e n=>u.free b o e n hc) (fun b o hc e=>u.there b o e hc) u.tups u.frzs u.tbls (fun m' hm=>by
  obtain⟨o',es',ep',ho',r'⟩:=hm;rw[ho]at ho';cases ho';exact⟨_,es',ep',hL,r'⟩) hok hg
theorem Inv.turned{t':Nat}{it:Addr}(I:Inv X pins σ H s)(k:∀b o,b≠it->s.heap.get? b=some o->h'.get? b=some o)(hn:H it=none)(hL:it≠X.env.locals)
  (h1:it∈X.ex∨X.s₀.heap.objs.size≤it)(h2:∀x c,X.env.cells.lookup x=some c->c≠it)(h3:∀p∈X.pn++pins,p.1≠it):Inv X pins σ H {s with heap:=h',toks:=t'}:=by
 have nit:∀b u,H b=some u->b≠it:=fun b u e z=>by rw[z,hn]at e;cases e
 refine I.step (g':=s.gens) (d':=s.drawn) (ch:=[it]) (fun b hb=>?_) (fun b o _ _ hc e _=>k b o (fun z=>hc (by simp[z])) e) (fun b o _ _ hc e _=>⟨o.slots,k b o (fun z=>hc (by simp[z])) e⟩) (fun _ _ _ _ n=>n)
  (fun b o hc e=>⟨o,k b o (fun z=>hc (by simp[z])) e⟩) (fun _ _ e=>e) (fun _ _ _ e=>e) (fun b ps e=>⟨#[],by rw[e];simp⟩) (fun m hm=>?_) (fun b u e=>?_) I.bare
 ·have e:b=it:=by simpa using hb
  subst e;exact⟨h1,hL,h2,h3⟩
 ·obtain⟨o,es,ep,ho,r⟩:=hm
  exact⟨o,es,ep,k _ o (Zy hL) ho,r⟩
 ·refine(I.hok b u e).stay (fun c v hc q=>k c v ?_ q) (fun _ q=>q) fun _ _ q=>q
  rcases hc with z|z
  ·rw[z];exact nit b u e
  ·exact nit c _ z
theorem Inv.tok(I:Inv X pins σ H s)(t:Nat):Inv X pins σ H {s with toks:=t}:=I.un (h':=s.heap) (t':=t) Un.refl I.hok
theorem Inv.kept{t':Nat}(I:Inv X pins σ H s)(k:∀b u,s.heap.get? b=some u->h'.get? b=some u):Inv X pins σ H {s with heap:=h',toks:=t'}:=I.un (Un.kept k) (I.hok.kept k)
theorem Inv.laid{a:Addr}{o:HO}{t':Nat}(I:Inv X pins σ H s)(k:∀b u,s.heap.get? b=some u->h'.get? b=some u)(hp:s.heap.objs.size≤a)(new:k1_ X.prog X.w (upd H a o) h' a o):
  Inv X pins σ (upd H a o) {s with heap:=h',toks:=t'}:=I.un (Un.laid k hp (I.hok.fresh hp)) (I.hok.laid k hp new)
theorem Inv.write{x e:Addr}{o:HO}{t':Nat}(I:Inv X pins σ H s)(mu:Mut (H x))(he:e=x∨H e=some (.own x))(k:∀b u,b≠e->s.heap.get? b=some u->h'.get? b=some u)(heo:∃u,h'.get? e=some u)
  (new:k1_ X.prog X.w (upd H x o) h' x o):Inv X pins σ (upd H x o) {s with heap:=h',toks:=t'}:=I.un (Un.write mu he k heo) (I.hok.write mu he k heo new)
theorem Inv.pins_of{pins':OX}(I:Inv X pins σ H s)(h:∀p∈pins',s.heap.get? p.1=some p.2/\H p.1=none/\p.1≠X.env.locals/\p.1∉X.fs/\∀v,p.2.data≠.cell v):Inv X pins' σ H s:=
 ⟨I.ok,I.os,I.bare,I.base,I.loc,I.cell,I.free,I.freeC,fun p hp=>(Vk.mp hp).elim (fun z=>I.pin p (List.mem_append_left _ z)) (h p),I.hok,I.len⟩
theorem a6r{N:List Str}(hN:N.Nodup){i j:Nat}{x:Str}(a:N[i]? =some x)(b:N[j]? =some x):i=j:=by
 obtain⟨h1,e1⟩:=Qg.mp a;obtain⟨h2,e2⟩:=Qg.mp b;exact(List.getElem_inj hN).mp (e1.trans e2.symm)
theorem a9D{M:Model}{A:Around}{E:OE}{i:Nat}{x:Str}{v:V}{u:Value}{Q:Unit->Shared->Prop}(I:Inv X pins σ H s)(hN:X.N.Nodup)(hi:X.N[i]? =some x)(hx:Loc X.env.scope x)(r:v4_ v u)
  (h:∀s',Inv X pins (σ.set i (some v)) H s'->(∃a,Heap.SameBut a s.heap s'.heap/\(a=X.env.locals∨X.env.cells.lookup x=some a))->Q () s')(hf:X.fn x=true∨X.env.scope.names.lookup x=some .local:=by first|exact .inl rfl|exact .inr rfl|assumption):wpAny M A (storeName X.env x u) Q E s:=by
 obtain⟨m,hn,hl⟩:=id I.loc;have hcls:(X.env.scope.kind==.class||(X.env.scope.kind==.module&&X.env.locals !=X.env.globals))=false:=by rw[I.ok.kind];rfl
 have hiσ:i<σ.length:=by rw[I.len];exact(Qg.mp hi).1
 have cne:=I.cne
 have tracked:∀{a:Addr}{h':Heap},(∃o,s.heap.get? a=some o/\H a=none)->Heap.SameBut a s.heap h'->HOk X.prog X.w H h':=fun{a h'} ha hs b ob e=>by
  obtain⟨_,_,hfree⟩:=ha;refine(I.hok b ob e).stay (fun c w' hc q=>(hs.2 c ?_).trans q) (fun _ q=>q) fun _ _ q=>q
  rintro rfl
  rcases hc with rfl|hc
  ·rw[hfree]at e;cases e
  ·rw[hfree]at hc;cases hc
 rcases hx with hk|hk
 ·refine wpAny_storeName_local hk hn (fun h' hn' hs=>?_) hcls
  obtain⟨oL,_,_,hoL,_⟩:=id hn;refine h _ ⟨I.ok,I.os,I.bare,⟨fun b o e n hb hx=>?_,fun b o e n hb hx=>?_,I.base.free,fun b o e hx=>?_,I.base.tups,I.base.frzs,I.base.tbls⟩,⟨_,hn',fun j y v' e1 e2 e3=>?_⟩,fun y c e=>?_,I.free,I.freeC,fun p hp=>?_,tracked ⟨oL,hoL,I.free⟩ hs,by simpa using I.len⟩ ⟨_,hs,.inl rfl⟩
  ·exact(hs.2 b (Qr (Qd (Qu e) I.ok.above))).trans (I.base.keep b o e n hb hx)
  ·obtain⟨sl,e1⟩:=I.base.slot b o e n hb hx
   exact⟨sl,(hs.2 b (Qr (Qd (Qu e) I.ok.above))).trans e1⟩
  ·obtain⟨o',e1⟩:=I.base.there b o e hx
   exact⟨o',(hs.2 b (Qr (Qd (Qu e) I.ok.above))).trans e1⟩
  ·by_cases hj:j=i
   ·subst hj
    rw[hi]at e1;cases e1;rw[Zg hiσ]at e2;cases e2;exact⟨u,r,.inl ⟨hk,by simp⟩⟩
   ·rw[Qm (Zy hj)]at e2
    obtain⟨u',r',q⟩:=hl j y v' e1 e2 e3;refine⟨u',r',?_⟩
    rcases q with⟨k,e⟩|⟨k,c,e,z⟩
    ·refine .inl ⟨k,?_⟩
     have:y≠x:=fun e=>hj (a6r hN e1 (e ▸ hi))
     simp[this,e]
    ·exact .inr ⟨k,c,e,z.sameBut hs (cne y c e)⟩
  ·obtain⟨w',z⟩:=I.cell y c e
   exact⟨w',z.sameBut hs (cne y c e)⟩
  ·obtain⟨e,n,ne,nf,d⟩:=I.pin p hp
   exact⟨(hs.2 p.1 ne).trans e,n,ne,nf,d⟩
 ·have hfn:X.fn x=true:=by
   rcases hf with z|z
   ·exact z
   ·rw[z]at hk;cases hk
  obtain⟨c,hc⟩:=I.ok.has x (.inl hk);obtain⟨w',z⟩:=I.cell x c hc;refine wpAny_storeName_cell I.ok.kind hk hc z (fun h' hc' hs=>?_)
  obtain⟨oc,hoc,hocd⟩:=id z;refine h {s with heap:=h'} ⟨I.ok,I.os,I.bare,⟨fun b o e n hb hx=>?_,fun b o e n hb hx=>?_,I.base.free,fun b o e hx=>?_,I.base.tups,I.base.frzs,I.base.tbls⟩,⟨m,hn.sameBut hs (Zy (cne x c hc)),fun j y v' e1 e2 e3=>?_⟩,fun y c' e=>?_,I.free,I.freeC,fun p hp=>?_,tracked ⟨oc,hoc,I.freeC x c hc⟩ hs,by simpa using I.len⟩ ⟨c,hs,.inr hc⟩
  ·exact(hs.2 b (Qr (Qd (Qu e) (I.ok.cab x c hfn hc)))).trans (I.base.keep b o e n hb hx)
  ·obtain⟨sl,e1⟩:=I.base.slot b o e n hb hx
   exact⟨sl,(hs.2 b (Qr (Qd (Qu e) (I.ok.cab x c hfn hc)))).trans e1⟩
  ·obtain⟨o',e1⟩:=I.base.there b o e hx
   exact⟨o',(hs.2 b (Qr (Qd (Qu e) (I.ok.cab x c hfn hc)))).trans e1⟩
  ·by_cases hj:j=i
   ·subst hj
    rw[hi]at e1;cases e1;rw[Zg hiσ]at e2;cases e2;exact⟨u,r,.inr ⟨.inl hk,c,hc,hc'⟩⟩
   ·rw[Qm (Zy hj)]at e2
    obtain⟨u',r',q⟩:=hl j y v' e1 e2 e3;refine⟨u',r',?_⟩
    rcases q with q|⟨k,c',e,z'⟩
    ·exact .inl q
    ·refine .inr ⟨k,c',e,z'.sameBut hs ?_⟩
     rintro rfl;exact hj (a6r hN e1 (I.ok.inj _ _ _ e hc ▸ hi))
  ·by_cases hcc:c'=c
   ·subst hcc;exact⟨_,hc'⟩
   ·obtain⟨w2,z2⟩:=I.cell y c' e
    exact⟨w2,z2.sameBut hs hcc⟩
  ·obtain⟨e,n,ne,nf,d⟩:=I.pin p hp
   refine⟨(hs.2 p.1 ?_).trans e,n,ne,nf,d⟩;intro q;rw[q,hoc]at e;have q':oc=p.2:=Yj e;exact d w' (by rw[←q'];exact hocd)
theorem a4r{M:Model}{A:Around}{E:OE}{i:Nat}{x:Str}{v:V}{u:Value}{Q:Unit->Shared->Prop}(I:Inv X pins σ H s)(hN:X.N.Nodup)(hi:X.N[i]? =some x)(hx:Loc X.env.scope x)(r:v4_ v u)
  (h:∀s',Inv X pins (σ.set i (some v)) H s'->Q () s')(hf:X.fn x=true∨X.env.scope.names.lookup x=some .local:=by first|exact .inl rfl|exact .inr rfl|assumption):wpAny M A (storeName X.env x u) Q E s:=
 a9D I hN hi hx r (fun s' I' _=>h s' I') hf
theorem Inv.call'{s':Shared}{ch:List Addr}(I:Inv X pins σ H s)(ho:s'.os=s.os)(u:Un (frs X.stack) ch H H' s.heap s'.heap)(hok:HOk X.prog X.w H' s'.heap)(hg:AllBare s'.gens)
  (hch:∀b∈ch,(b∈X.ex∨X.s₀.heap.objs.size≤b)/\b≠X.env.locals/\(∀x c,X.env.cells.lookup x=some c->c≠b)/\∀p∈X.pn++pins,p.1≠b):Inv X pins σ H' s':=by
 obtain⟨h',g',d',t',o'⟩:=s';have e:o'=s.os:=ho;subst e;exact I.call (g':=g') (t':=t') (d':=d') u hok hg hch
end
abbrev XK:=Value->Option Addr->Hp->Prop
abbrev St:=List (Option V)
abbrev VK:=V->Hp->Prop
abbrev TE:=St->Hp->VK->Prop
abbrev TT:=St->Hp->(Bool->Hp->Prop)->Prop
abbrev TA:=St->Hp->(List V->Hp->Prop)->Prop
structure Ends where
 nx:St->Hp->Prop
 rt:VK
 bk:St->Hp->Prop:=fun _ _=>False
 ct:St->Hp->Prop:=fun _ _=>False
abbrev TS:=Ends->St->Hp->Prop
def EP(X:Cx)(pins:OX)(σ:St)(Q:VK)(u:Value)(s':Shared):Prop:=∃v H',Inv X pins σ H' s'/\v4_ v u/\Q v H'
def TP(X:Cx)(pins:OX)(σ:St)(Q:Bool->Hp->Prop)(b:Bool)(s':Shared):Prop:=∃H',Inv X pins σ H' s'/\Q b H'
def AP(X:Cx)(pins:OX)(σ:St)(Q:List V->Hp->Prop)(us:List Value)(s':Shared):Prop:=∃vs H',Inv X pins σ H' s'/\q5_ vs us/\Q vs H'
def SP(X:Cx)(pins:OX)(D:Ends)(f:Flow)(s':Shared):Prop:=
 match f with
 |.next=>∃σ' H',Inv X pins σ' H' s'/\D.nx σ' H'
 |.brk=>∃σ' H',Inv X pins σ' H' s'/\D.bk σ' H'
 |.cont=>∃σ' H',Inv X pins σ' H' s'/\D.ct σ' H'
 |.ret u=>∃v σ' H',Inv X pins σ' H' s'/\v4_ v u/\D.rt v H'
def PE(X:Cx)(e:Expr)(t:TE):Prop:=
 ∀(pins:OX) (s:Shared) (σ:St) (H:Hp) (Q:VK),Inv X pins σ H s->t σ H Q->wpAny (model X.prog X.w) X.A (eval e X.env) (EP X pins σ Q) X.xe s
def PT(X:Cx)(e:Expr)(t:TT):Prop:=
 ∀(pins:OX) (s:Shared) (σ:St) (H:Hp) (Q:Bool->Hp->Prop),Inv X pins σ H s->t σ H Q->wpAny (model X.prog X.w) X.A (isTrue e X.env (eval e X.env)) (TP X pins σ Q) X.xe s
def PW(X:Cx)(e:Expr)(t:TT):Prop:=
 ∀(whole:Sem Value) (pins:OX) (s:Shared) (σ:St) (H:Hp) (Q:Bool->Hp->Prop),Inv X pins σ H s->t σ H Q->wpAny (model X.prog X.w) X.A (isTrue e X.env whole) (TP X pins σ Q) X.xe s
theorem PW.pt{X:Cx}{e:Expr}{t:TT}(h:PW X e t):PT X e t:=h _
def PA(X:Cx)(es:List Expr)(t:TA):Prop:=
 ∀(pos:Pos) (pins:OX) (s:Shared) (σ:St) (H:Hp) (Q:List V->Hp->Prop),Inv X pins σ H s->t σ H Q->wpAny (model X.prog X.w) X.A (spliced (backTo pos (starEach es X.env))) (AP X pins σ Q) X.xe s
def PS(X:Cx)(st:Stmt)(t:TS):Prop:=
 ∀(pins:OX) (s:Shared) (σ:St) (H:Hp) (D:Ends),Inv X pins σ H s->t D σ H->wpAny (model X.prog X.w) X.A (exec st X.env) (SP X pins D) X.xe s
def PSs(X:Cx)(st:List Stmt)(t:TS):Prop:=
 ∀(pins:OX) (s:Shared) (σ:St) (H:Hp) (D:Ends),Inv X pins σ H s->t D σ H->wpAny (model X.prog X.w) X.A (execs st X.env) (SP X pins D) X.xe s
theorem thn{α:Type}{t:Sem α}{Q Q':α->Shared->Prop}{M:Model}{A:Around}{E:OE}{s:Shared}(h:wpAny M A t Q E s)(hQ:∀a s,Q a s->Q' a s):wpAny M A t Q' E s:=Zv h hQ fun _ _ x=>x
section
variable{X:Cx}
theorem bin{a b:Expr}{ta tb:TE}(ha:PE X a ta)(hb:PE X b tb){pins:OX}{s:Shared}{σ:St}{H:Hp}{R:V->V->Hp->Prop}(I:Inv X pins σ H s)(h:ta σ H fun x H1=>tb σ H1 fun y H2=>R x y H2)
  {α:Type}{Q:α->Shared->Prop}{f:Value->Value->Sem α}
  (hf:∀v u s2 x y H2,Inv X pins σ H2 s2->v4_ x v->v4_ y u->R x y H2->wpAny (model X.prog X.w) X.A (f v u) Q X.xe s2):
  wpAny (model X.prog X.w) X.A (eval a X.env) (fun v s₁=>wpAny (model X.prog X.w) X.A (eval b X.env) (fun u s₂=>wpAny (model X.prog X.w) X.A (f v u) Q X.xe s₂) X.xe s₁) X.xe s:=by
 refine thn (ha pins s σ H _ I h) fun v s1 ⟨x,H1,I1,r1,q1⟩=>?_
 refine thn (hb pins s1 σ H1 _ I1 q1) fun u s2 ⟨y,H2,I2,r2,q2⟩=>?_
 exact hf v u s2 x y H2 I2 r1 r2 q2
def a1t(i:Nat):TE:=fun σ H Q=>∃v,σ[i]? =some (some v)/\Q v H
def tC(v:V):TE:=fun _ H Q=>Q v H
theorem a6s{i:Nat}{x:Str}{pos:Pos}(hN:X.N[i]? =some x)(hv:Vis X.env.scope x)(hd:(x==("__debug__":Str))=false:=by decide)(hcd:(x==("__classdict__":Str))=false:=by decide):PE X (.Name x pos) (a1t i):=by
 intro pins s σ H Q I h;obtain⟨v,e,h⟩:=h;obtain⟨m,hn,hl⟩:=I.loc;obtain⟨u,r,l⟩:=hl i x v hN e hv;have fin:EP X pins σ Q u s:=⟨v,H,I,r,h⟩
 rcases l with⟨hk,hm⟩|⟨hk,c,hc,hcell⟩
 ·exact wpAny_Name (wpAny_loadName_local I.ok.kind hk hn hm fin) hd
 ·rcases hk with hk|hk
  ·exact wpAny_Name (wpAny_loadName_cell I.ok.kind hk hc hcell fin) hd
  ·exact wpAny_Name (wpAny_loadName_free I.ok.kind hk hc hcell fin hcd) hd
theorem a9E{i j pos}:PE X (.Constant (.int i) j pos) (tC (.int i)):=fun _ _ _ H _ I h=>wpAny_Constant_int ⟨.int i,H,I.tok _,⟨_,rfl⟩,h⟩
theorem b4d{b j pos}:PE X (.Constant (.bool b) j pos) (tC (.bl b)):=fun _ _ _ H _ I h=>Constant_bool ⟨.bl b,H,I,rfl,h⟩
theorem a9F{j pos}:PE X (.Constant .none j pos) (tC .non):=fun _ _ _ H _ I h=>Constant_none ⟨.non,H,I,rfl,h⟩
theorem a1M{x j pos}:PE X (.Constant (.str x) j pos) (tC (.str x)):=fun _ _ _ H _ I h=>Calls.Constant_str ⟨.str x,H,I.tok _,⟨_,rfl⟩,h⟩
def Gl(X:Cx)(x:Str):Prop:=X.env.kindOf x=some .globalImplicit
theorem a3I{E:OE}{pins:OX}{s:Shared}{σ:St}{H:Hp}{x:Str}{u:Value}{pos:Pos}{Q:OE}(I:Inv X pins σ H s)(hg:Gl X x)(hm:X.mg x=some u)(h:Q u s)
  (hd:(x==("__debug__":Str))=false:=by decide):wpAny (model X.prog X.w) X.A (eval (.Name x pos) X.env) Q E s:=
 Calls.Name_function_global I.ok.kind hg (Calls.loadGlobal_global (by rw[I.ok.glob];exact I.mod.glob.keeps I.bk) hm h) hd
theorem a4s{E:OE}{pins:OX}{s:Shared}{σ:St}{H:Hp}{x:Str}{u:Value}{pos:Pos}{Q:OE}(I:Inv X pins σ H s)(hg:Gl X x)(hm:X.mg x=none)(hv:bootBuiltins x=some u)(h:Q u s)
  (hn:x≠"__name__":=by decide)(hd:(x==("__debug__":Str))=false:=by decide):wpAny (model X.prog X.w) X.A (eval (.Name x pos) X.env) Q E s:=by
 obtain⟨mb,h1,h2⟩:=I.mod.blt;exact Calls.Name_function_global I.ok.kind hg (Calls.loadGlobal_builtin (by rw[I.ok.glob];exact I.mod.glob.keeps I.bk) hm (by rw[I.ok.blt];exact h1.keeps I.bk) ((h2 x hn).trans hv) h) hd
theorem a5h{x:Str}{v:V}{u:Value}{pos:Pos}(hg:Gl X x)(hm:X.mg x=some u)(r:v4_ v u)(hd:(x==("__debug__":Str))=false:=by decide):PE X (.Name x pos) (tC v):=
 fun _ _ _ H _ I h=>a3I I hg hm ⟨v,H,I,r,h⟩ hd
theorem a5i{x:Str}{v:V}{u:Value}{pos:Pos}(hg:Gl X x)(hm:X.mg x=none)(hv:bootBuiltins x=some u)(r:v4_ v u)(hn:x≠"__name__":=by decide)(hd:(x==("__debug__":Str))=false:=by decide):PE X (.Name x pos) (tC v):=
 fun _ _ _ H _ I h=>a4s I hg hm hv ⟨v,H,I,r,h⟩ hn hd
variable{a b:Expr}{ta tb:TE}{pos:Pos}
def PC(X:Cx)(op:CmpOp)(a b:Expr)(t:TE):Prop:=
 ∀(pins:OX) (s:Shared) (σ:St) (H:Hp) (Q:VK),Inv X pins σ H s->t σ H Q->
  wpAny (model X.prog X.w) X.A (eval a X.env) (fun v s₁=>wpAny (model X.prog X.w) X.A (eval b X.env) (fun u s₂=>wpAny (model X.prog X.w) X.A (compareOp op v u) (EP X pins σ Q) X.xe s₂) X.xe s₁) X.xe s
theorem nobehind(b:Expr){op:CmpOp}(h:op≠.In)(h2:op≠.NotIn):behindInMarks op b=false:=by
 have e1:(op==CmpOp.In)=false:=by cases op<;>first|rfl|exact absurd rfl h
 have e2:(op==CmpOp.NotIn)=false:=by cases op<;>first|rfl|exact absurd rfl h2
 cases b<;>simp[behindInMarks,e1,e2]
def tB(t:TE):TT:=fun σ H Q=>t σ H fun x H1=>∃c,x=.bl c/\Q c H1
theorem b4e{op:CmpOp}{t:TE}(h:PC X op a b t)(h1:behindInMarks op b=false:=by first|exact nobehind _ (by decide) (by decide)|rfl):PE X (.Compare a [op] [b] pos) t:=fun pins s σ H Q I hw=>wpAny_Compare1 (h pins s σ H Q I hw) h1
theorem c2h{op:CmpOp}{t:TE}(h:PC X op a b t)(h1:behindInMarks op b=false:=by first|exact nobehind _ (by decide) (by decide)|rfl):PT X (.Compare a [op] [b] pos) (tB t):=by
 intro pins s σ H Q I hw;refine wpAny_isTrue_Compare1 (thn (h pins s σ H _ I hw) fun v s1 h1=>thn h1 fun u s2 h2=>thn h2 fun c s3 ⟨x,H1,I1,r1,q1⟩=>?_) h1
 obtain⟨d,rfl,q⟩:=q1;cases r1;exact Yy ⟨H1,I1,q⟩
theorem b4f{e:Expr}{t:TE}(h:PE X e t)(he:∀whole,isTrue e X.env whole=(do let v←whole;standAt e.pos;holding [v] (truthy v)):=by intro _;rfl):PT X e (tB t):=by
 intro pins s σ H Q I hw;refine isTrue_plain (thn (h pins s σ H _ I hw) fun v s1 ⟨x,H1,I1,r1,q1⟩=>?_) (he _)
 obtain⟨d,rfl,q⟩:=q1;cases r1;exact Yy ⟨H1,I1,q⟩
variable{tA tB':TT}{rest:List Expr}
def a9G(t u:TT):TT:=fun σ H Q=>t σ H fun c H1=>if c=true then u σ H1 Q else Q false H1
def tOr(t u:TT):TT:=fun σ H Q=>t σ H fun c H1=>if c=true then Q true H1 else u σ H1 Q
def b4g(t:TT):TT:=fun σ H Q=>t σ H fun c H1=>Q (!c) H1
theorem b4h(ha:PT X a tA):PW X (.BoolOp .And [a] pos) tA:=by
 intro wh pins s σ H Q I h;refine isTrue_and (thn (ha pins s σ H Q I h) fun c s1 e=>?_)
 cases c with
 |true=>exact isTrue_and_nil e
 |false=>exact e
theorem b4i(ha:PT X a tA):PW X (.BoolOp .Or [a] pos) tA:=by
 intro wh pins s σ H Q I h;refine isTrue_or (thn (ha pins s σ H Q I h) fun c s1 e=>?_)
 cases c with
 |false=>exact isTrue_or_nil e
 |true=>exact e
theorem b4j(ha:PT X a tA)(hb:PW X (.BoolOp .And (b::rest) pos) tB'):PW X (.BoolOp .And (a::b::rest) pos) (a9G tA tB'):=by
 intro wh pins s σ H Q I h;refine isTrue_and (thn (ha pins s σ H _ I h) fun c s1 ⟨H1,I1,q1⟩=>?_)
 cases c with
 |true=>exact hb wh pins s1 σ H1 Q I1 q1
 |false=>exact⟨H1,I1,q1⟩
theorem b4k(ha:PT X a tA)(hb:PW X (.BoolOp .Or (b::rest) pos) tB'):PW X (.BoolOp .Or (a::b::rest) pos) (tOr tA tB'):=by
 intro wh pins s σ H Q I h;refine isTrue_or (thn (ha pins s σ H _ I h) fun c s1 ⟨H1,I1,q1⟩=>?_)
 cases c with
 |true=>exact⟨H1,I1,q1⟩
 |false=>exact hb wh pins s1 σ H1 Q I1 q1
theorem b4l(ha:PT X a tA):PT X (.UnaryOp .Not a pos) (b4g tA):=by
 intro pins s σ H Q I h;exact isTrue_not (ha pins s σ H (fun c H1=>Q (!c) H1) I h)
def b4m(ta tb:TE):TE:=fun σ H Q=>ta σ H fun x H1=>∃c,x=.bl c/\if c=true then tb σ H1 Q else Q (.bl false) H1
def b4n(ta:TE):TE:=fun σ H Q=>ta σ H fun x H1=>∃c,x=.bl c/\Q (.bl (!c)) H1
theorem b4o{op}{t:TE}(h:PE X a t):PE X (.BoolOp op [a] pos) t:=fun pins s σ H Q I hw=>BoolOp_one (h pins s σ H Q I hw)
theorem b4p(ha:PE X a ta)(hb:PE X (.BoolOp .And (b::rest) pos) tb):PE X (.BoolOp .And (a::b::rest) pos) (b4m ta tb):=by
 intro pins s σ H Q I h;refine BoolOp_and (thn (ha pins s σ H _ I h) fun v s1 ⟨x,H1,I1,r1,q1⟩=>?_)
 obtain⟨c,rfl,q1⟩:=q1;cases r1;refine Yy ?_
 cases c with
 |true=>exact hb pins s1 σ H1 Q I1 q1
 |false=>exact⟨.bl false,H1,I1,rfl,q1⟩
theorem b4q(ha:PE X a ta):PE X (.UnaryOp .Not a pos) (b4n ta):=by
 intro pins s σ H Q I h;refine UnaryOp_ (thn (ha pins s σ H _ I h) fun v s1 ⟨x,H1,I1,r1,q1⟩=>?_)
 obtain⟨c,rfl,q1⟩:=q1;cases r1;exact not_of (Yy ⟨.bl (!c),H1,I1,rfl,q1⟩)
end
def SqL(K:Qq)(H:Hp)(a:Addr)(xs:List V):Prop:=
 Rd H a (.lst xs)∨
  ∃(o:Obj) (its:Array Value) (n:Nat),K.lookup a=some o/\o.cls=.type "list"/\o.dict=none/\o.data=.seq its n/\its.size≤sizeLine/\q5_ xs its.toList
def SqT(K:Qq)(H:Hp)(a:Addr)(xs:List V):Prop:=
 Rd H a (.tup xs)∨
  ∃(o:Obj) (its:Array Value) (n:Nat),K.lookup a=some o/\o.cls=.type "tuple"/\o.dict=none/\o.data=.seq its n/\its.size≤sizeLine/\q5_ xs its.toList
def b4r:Value->Option V
 |.none=>some .non
 |.bool b=>some (.bl b)
 |.int i _=>some (.int i)
 |.str x _=>some (.str x)
 |.bytes b _=>some (.byt b)
 |.float b _=>some (.flt b)
 |.ref a=>some (.ref a)
 |.type n=>some (.ty n)
 |_=>none
theorem v4_.abs{x:V}{u:Value}(r:v4_ x u):b4r u=some x:=by
 cases x with
 |non=>cases r;rfl
 |bl _=>cases r;rfl
 |int _=>obtain⟨t,rfl⟩:=r;rfl
 |str _=>obtain⟨t,rfl⟩:=r;rfl
 |byt _=>obtain⟨t,rfl⟩:=r;rfl
 |flt _=>obtain⟨t,rfl⟩:=r;rfl
 |ref _=>cases r;rfl
 |ty _=>cases r;rfl
theorem v4_.inj{x y:V}{u:Value}(r:v4_ x u)(q:v4_ y u):x=y:=Yj (r.abs.symm.trans q.abs)
theorem q5_.inj:∀{xs ys:List V}{us:List Value},q5_ xs us->q5_ ys us->xs=ys
 |_,_,_,.nil,.nil=>rfl
 |_,_,_,.cons r t,.cons r' t'=>by rw[r.inj r',q5_.inj t t']
section
variable{X:Cx}{pins:OX}{σ:St}{H:Hp}{s:Shared}{a:Addr}{xs ys:List V}
theorem SqL.of{K:Qq}(h:H a=some (.lst xs)):SqL K H a xs:=.inl (.inl h)
theorem SqT.of{K:Qq}(h:H a=some (.tup xs)):SqT K H a xs:=.inl (.inl h)
theorem Inv.list(I:Inv X pins σ H s)(h:SqL X.K H a xs):∃its:List Value,q5_ xs its/\PlainL s.heap a its.toArray/\xs.length≤sizeLine:=by
 rcases h with h|⟨o,its,n,hk,hc,hd,hs,hz,r⟩
 ·obtain⟨z,its,n,r,e⟩:=h.ok I.hok
  exact⟨its,r,⟨_,n,e,rfl,rfl,rfl⟩,z⟩
 ·refine⟨its.toList,r,⟨o,n,I.kIn a o hk,hc,hd,by simpa using hs⟩,?_⟩
  have e:=r.length
  simp only[Vg]at e
  omega
theorem Inv.tupleD(I:Inv X pins σ H s)(h:SqT X.K H a xs):∃its:List Value,q5_ xs its/\a0A s.heap a its.toArray/\xs.length≤sizeLine:=by
 rcases h with h|⟨o,its,n,hk,hc,hd,hs,hz,r⟩
 ·obtain⟨z,its,r,p⟩:=h.ok I.hok
  exact⟨its,r,p,z⟩
 ·refine⟨its.toList,r,⟨o,I.kIn a o hk,hc,hd,n,by simpa using hs⟩,?_⟩
  have e:=r.length
  simp only[Vg]at e
  omega
theorem Inv.tuple(I:Inv X pins σ H s)(h:SqT X.K H a xs):∃its:List Value,q5_ xs its/\IsTup s.heap a its.toArray/\xs.length≤sizeLine:=
 let ⟨its,r,p,z⟩:=I.tupleD h
 ⟨its,r,p.tup,z⟩
theorem Inv.list_inj(I:Inv X pins σ H s)(h:SqL X.K H a xs)(h':SqL X.K H a ys):xs=ys:=by
 obtain⟨its,r,⟨o,n,e,_,_,d⟩,_⟩:=I.list h;obtain⟨its',r',⟨o',n',e',_,_,d'⟩,_⟩:=I.list h';rw[e]at e';cases e';rw[d]at d';injection d' with d1 _
 have:its=its':=by simpa using Jf Array.toList d1
 subst this;exact r.inj r'
theorem Inv.tuple_inj(I:Inv X pins σ H s)(h:SqT X.K H a xs)(h':SqT X.K H a ys):xs=ys:=by
 obtain⟨its,r,⟨o,e,_,n,d⟩,_⟩:=I.tuple h;obtain⟨its',r',⟨o',e',_,n',d'⟩,_⟩:=I.tuple h';rw[e]at e';cases e';rw[d]at d';injection d' with d1 _
 have:its=its':=by simpa using Jf Array.toList d1
 subst this;exact r.inj r'
end
abbrev Cx.wish(X:Cx)(E:OE):Cx:={X with xe:=E}
abbrev Cx.nox(X:Cx):Cx:=X.wish fun _ _=>False
theorem Cx.Ok.wish{X:Cx}(ok:X.Ok)(E:OE):(X.wish E).Ok:=
 ⟨ok.mod,ok.kind,ok.glob,ok.blt,ok.above,ok.inj,ok.has,ok.cab,ok.hd,ok.frames,ok.stk,ok.exf,ok.bs,ok.bsz,ok.noex,ok.exfs,ok.funs,ok.frf⟩
theorem Cx.Ok.unwish{X:Cx}{E:OE}(ok:(X.wish E).Ok):X.Ok:=
 ⟨ok.mod,ok.kind,ok.glob,ok.blt,ok.above,ok.inj,ok.has,ok.cab,ok.hd,ok.frames,ok.stk,ok.exf,ok.bs,ok.bsz,ok.noex,ok.exfs,ok.funs,ok.frf⟩
section
variable{X:Cx}{pins:OX}{σ:St}{H:Hp}{s:Shared}{E:OE}
theorem Inv.wish(I:Inv X pins σ H s)(E:OE):Inv (X.wish E) pins σ H s:=⟨I.ok.wish E,I.os,I.bare,I.base,I.loc,I.cell,I.free,I.freeC,I.pin,I.hok,I.len⟩
theorem Inv.unwish(I:Inv (X.wish E) pins σ H s):Inv X pins σ H s:=⟨I.ok.unwish,I.os,I.bare,I.base,I.loc,I.cell,I.free,I.freeC,I.pin,I.hok,I.len⟩
theorem SP.unwish{D:Ends}{f:Flow}{s':Shared}(h:SP (X.wish E) pins D f s'):SP X pins D f s':=by
 cases f with
 |next=>obtain⟨σ',H',I,q⟩:=h;exact⟨σ',H',I.unwish,q⟩
 |brk=>obtain⟨σ',H',I,q⟩:=h;exact⟨σ',H',I.unwish,q⟩
 |cont=>obtain⟨σ',H',I,q⟩:=h;exact⟨σ',H',I.unwish,q⟩
 |ret u=>obtain⟨v,σ',H',I,r,q⟩:=h;exact⟨v,σ',H',I.unwish,r,q⟩
theorem PE.nox{e:Expr}{t:TE}(h:PE X.nox e t):PE X e t:=fun pins s σ H Q I hw=>
 Zv (h pins s σ H Q (I.wish _) hw) (fun _ _ ⟨v,H',I',r,q⟩=>⟨v,H',I'.unwish,r,q⟩) fun _ _ z=>False.elim z
theorem PT.nox{e:Expr}{t:TT}(h:PT X.nox e t):PT X e t:=fun pins s σ H Q I hw=>
 Zv (h pins s σ H Q (I.wish _) hw) (fun _ _ ⟨H',I',q⟩=>⟨H',I'.unwish,q⟩) fun _ _ z=>False.elim z
theorem PSs.nox{st:List Stmt}{t:TS}(h:PSs X.nox st t):PSs X st t:=fun pins s σ H D I hw=>
 Zv (h pins s σ H D (I.wish _) hw) (fun _ _ q=>q.unwish) fun _ _ z=>False.elim z
end
section
variable{X:Cx}{st:Stmt}{rest:List Stmt}{t u:TS}{e:Expr}{te:TE}{pos:Pos}
def b4s:TS:=fun D σ H=>D.nx σ H
def b4t(t u:TS):TS:=fun D σ H=>t {D with nx:=u D} σ H
theorem b4u:PSs X [] b4s:=fun _ _ σ H _ I h=>Uf ⟨σ,H,I,h⟩
theorem a3J(h1:PS X st t)(h2:PSs X rest u):PSs X (st::rest) (b4t t u):=by
 intro pins s σ H D I h;refine wpAny_execs_cons (thn (h1 pins s σ H {D with nx:=u D} I h) fun f s1 q=>?_)
 cases f with
 |next=>
  obtain⟨σ',H',I',q⟩:=q;exact h2 pins s1 σ' H' D I' q
 |ret v=>exact q
 |brk=>exact q
 |cont=>exact q
theorem a9H(h1:PS X st t):PSs X [st] t:=by
 intro pins s σ H D I h;refine wpAny_execs_cons (thn (h1 pins s σ H D I h) fun f s1 q=>?_)
 cases f with
 |next=>exact Uf q
 |ret v=>exact q
 |brk=>exact q
 |cont=>exact q
theorem Inv.quiet{pins:OX}{σ:St}{H:Hp}{s:Shared}(I:Inv X pins σ H s):interactive X.env=false:=by simp[interactive,I.ok.kind]
def b4v(te:TE):TS:=fun D σ H=>te σ H fun _ H1=>D.nx σ H1
theorem a6t(he:PE X e te)(hs:swapsWith e none pos.line X.env=pure false:=by rfl):PS X (.Expr e pos) (b4v te):=by
 intro pins s σ H D I h;exact wpAny_Expr_any (thn (he pins s σ H _ I h) fun v s1 ⟨x,H1,I1,r1,q1⟩=>⟨σ,H1,I1,q1⟩) I.quiet hs
def b4w(te:TE):TS:=fun D σ H=>te σ H D.rt
theorem a9I(he:PE X e te):PS X (.Return (some e) pos) (b4w te):=by
 intro pins s σ H D I h;exact wpAny_Return_some (thn (he pins s σ H _ I h) fun v s1 ⟨x,H1,I1,r1,q1⟩=>⟨x,σ,H1,I1,r1,q1⟩)
def b4x(c:TT)(t u:TS):TS:=fun D σ H=>c σ H fun b H1=>if b=true then t D σ H1 else u D σ H1
theorem a9J{c:Expr}{a b:List Stmt}{tc:TT}(hc:PT X c tc)(ha:PSs X a t)(hb:PSs X b u):PS X (.If c a b pos) (b4x tc t u):=by
 intro pins s σ H D I h;refine wpAny_If (thn (hc pins s σ H _ I h) fun d s1 ⟨H1,I1,q1⟩=>?_)
 cases d with
 |true=>exact ha pins s1 σ H1 D I1 q1
 |false=>exact hb pins s1 σ H1 D I1 q1
def a9K:TS:=fun _ _ _=>False
theorem b4y:PS X st a9K:=fun _ _ _ _ _ _ h=>h.elim
theorem a9L{sts:List Stmt}:PSs X sts a9K:=fun _ _ _ _ _ _ h=>h.elim
end
abbrev TG:=V->St->Hp->(St->Hp->Prop)->Prop
abbrev TGs:=List V->St->Hp->(St->Hp->Prop)->Prop
def PG(X:Cx)(target:Expr)(t:TG):Prop:=
 ∀(pins:OX) (s:Shared) (σ:St) (H:Hp) (v:V) (u:Value) (Q:St->Hp->Prop),Inv X pins σ H s->v4_ v u->t v σ H Q->
  wpAny (model X.prog X.w) X.A (assign target X.env u) (fun _ s'=>∃σ' H',Inv X pins σ' H' s'/\Q σ' H') X.xe s
def PGs(X:Cx)(ts:List Expr)(t:TGs):Prop:=
 ∀(pins:OX) (s:Shared) (σ:St) (H:Hp) (vs:List V) (us:List Value) (Q:St->Hp->Prop),Inv X pins σ H s->q5_ vs us->t vs σ H Q->
  wpAny (model X.prog X.w) X.A (assignInOrder ((assignEach ts X.env).map (·.2)) us) (fun _ s'=>∃σ' H',Inv X pins σ' H' s'/\Q σ' H') X.xe s
abbrev a6u:=V->V->V->Hp->(Hp->Prop)->Prop
def a9M(X:Cx)(t:a6u):Prop:=
 ∀(pins:OX) (s:Shared) (σ:St) (H:Hp) (o i v:V) (ov iv u:Value) (Q:Hp->Prop),Inv X pins σ H s->v4_ o ov->v4_ i iv->v4_ v u->t o i v H Q->
  wpAny (model X.prog X.w) X.A (setItem ov iv u) (fun _ s'=>∃H',Inv X pins σ H' s'/\Q H') X.xe s
abbrev TIp:=V->V->Hp->VK->Prop
def PIp(X:Cx)(op:Operator)(t:TIp):Prop:=
 ∀(pins:OX) (s:Shared) (σ:St) (H:Hp) (x y:V) (v u:Value) (Q:VK),Inv X pins σ H s->v4_ x v->v4_ y u->t x y H Q->
  wpAny (model X.prog X.w) X.A (inplaceOp op v u) (EP X pins σ Q) X.xe s
section
variable{X:Cx}{pos:Pos}
def a6v(i:Nat):TG:=fun v σ H Q=>Q (σ.set i (some v)) H
theorem b4z{i:Nat}{x:Str}(hN:X.N.Nodup)(hi:X.N[i]? =some x)(hx:Loc X.env.scope x)(hf:X.fn x=true∨X.env.scope.names.lookup x=some .local:=by first|exact .inl rfl|exact .inr rfl|assumption):PG X (.Name x pos) (a6v i):=by
 intro pins s σ H v u Q I r h;exact wpAny_assign_Name (a4r I hN hi hx r (fun s' I'=>⟨_,H,I',h⟩) hf)
def b4A:TGs:=fun vs σ H Q=>vs=[]/\Q σ H
def b4B(t:TG)(u:TGs):TGs:=fun vs σ H Q=>∃v r,vs=v::r/\t v σ H fun σ' H'=>u r σ' H' Q
theorem b4C:PGs X [] b4A:=by
 intro pins s σ H vs us Q I r h;obtain⟨e,h⟩:=h;subst e;cases r;exact assignInOrder_nil ⟨σ,H,I,h⟩
theorem b4D{e:Expr}{es:List Expr}{t:TG}{u:TGs}(h1:PG X e t)(h2:PGs X es u)
  (hs:(assignEach (e::es) X.env).map (·.2)=assign e X.env::(assignEach es X.env).map (·.2):=by rfl):PGs X (e::es) (b4B t u):=by
 intro pins s σ H vs us Q I r h;obtain⟨v,vr,e1,h⟩:=h;subst e1;cases r with
 |cons r rr=>
  rw[hs];refine assignInOrder_cons (thn (h1 pins s σ H _ _ _ I r h) fun _ s1 ⟨σ1,H1,I1,q1⟩=>?_)
  exact h2 pins s1 σ1 H1 _ _ Q I1 rr q1
def b4E(K:Qq)(n:Nat)(t:TGs):TG:=fun v σ H Q=>∃a xs,v=.ref a/\SqT K H a xs/\xs.length=n/\t xs σ H Q
theorem b4F{es:List Expr}{k:Nat}{t:TGs}{n:Nat}(hc:X.calm=true)(h:PGs X es t)
  (hn:(assignEach es X.env).length=n:=by rfl)(hst:(assignEach es X.env).findIdx? (·.1)=none:=by rfl):PG X (.Tuple es k pos) (b4E X.K n t):=by
 intro pins s σ H v u Q I r hw;obtain⟨a,xs,e1,hq,hl,hw⟩:=hw;subst e1;cases r;obtain⟨its,rv,ht,hz⟩:=I.tuple hq;refine assign_Tuple_tuple (I.ok.hd hc) ht (by simp[hn,←hl,rv.length]) hst fun h' hx=>?_
 have I1:Inv X pins σ H {s with heap:=h'}:=I.kept (t':=s.toks) fun b o e=>hx b o (Qr (Qu e)) e
 exact h pins _ σ H xs _ Q I1 (by simpa using rv) hw
def b4G(to ti:TE)(t:a6u):TG:=fun v σ H Q=>to σ H fun o H1=>ti σ H1 fun i H2=>t o i v H2 fun H3=>Q σ H3
theorem b4H{o i:Expr}{to ti:TE}{t:a6u}(ho:PE X o to)(hi:PE X i ti)(hs:a9M X t)
  (ha:∀v,assign (.Subscript o i pos) X.env v=(do
   let ov←holding [v] (eval o X.env)
   let iv←holding [v,ov] (eval i X.env)
   standAt pos
   holding [v,ov,iv] (setItem ov iv v)
   release [v,ov,iv] []):=by intro _;rfl):PG X (.Subscript o i pos) (b4G to ti t):=by
 intro pins s σ H v u Q I r h;rw[ha];refine Qz (Jh (thn (ho pins s σ H _ I h) fun ov s1 ⟨x,H1,I1,r1,q1⟩=>?_))
 refine Qz (Jh (thn (hi pins s1 σ H1 _ I1 q1) fun iv s2 ⟨y,H2,I2,r2,q2⟩=>?_))
 refine Qz (wpAny_standAt (Qz (Jh (thn (hs pins s2 σ H2 x y v ov iv u _ I2 r1 r2 r q2) fun _ s3 ⟨H3,I3,q3⟩=>?_))))
 exact wpAny_release ⟨σ,H3,I3,q3⟩
def a6w(te:TE)(g:TG):TS:=fun D σ H=>te σ H fun x H1=>g x σ H1 D.nx
theorem b4I{tg e:Expr}{te:TE}{g:TG}(he:PE X e te)(hg:PG X tg g)(hs:swapsWithSole [tg] e pos.line X.env=pure false:=by rfl)(hw:swappedStores [tg] e X.env=pure none:=by rfl)
  (h1:(assignEach [tg] X.env).map (·.2)=[assign tg X.env]:=by rfl):PS X (.Assign [tg] e pos) (a6w te g):=by
 intro pins s σ H D I h;refine wpAny_Assign_stores (thn (he pins s σ H _ I h) fun v s1 ⟨x,H1,I1,r1,q1⟩=>?_) hs hw
 rw[h1];exact thn (hg pins s1 σ H1 x v _ I1 r1 q1) fun _ s2 q=>q
theorem a5j{i:Nat}{x:Str}{e:Expr}{te:TE}{pos':Pos}(hN:X.N.Nodup)(hi:X.N[i]? =some x)(hx:Loc X.env.scope x)(he:PE X e te)(hs:swapsWith e (some (.Name x pos')) pos.line X.env=pure false:=by rfl)(hf:X.fn x=true∨X.env.scope.names.lookup x=some .local:=by first|exact .inl rfl|exact .inr rfl|assumption):
  PS X (.Assign [.Name x pos'] e pos) (a6w te (a6v i)):=by
 intro pins s σ H D I h;refine wpAny_Assign_Name (thn (he pins s σ H _ I h) fun v s1 ⟨y,H1,I1,r1,q1⟩=>?_) hs
 exact a4r I1 hN hi hx r1 (fun s2 I2=>⟨_,H1,I2,q1⟩) hf
def b4J(i:Nat)(te:TE)(ti:TIp):TS:=fun D σ H=>∃x,σ[i]? =some (some x)/\te σ H fun y H1=>ti x y H1 fun z H2=>D.nx (σ.set i (some z)) H2
theorem b4K{i:Nat}{x:Str}{e:Expr}{te:TE}{op:Operator}{ti:TIp}{pos':Pos}(hN:X.N.Nodup)(hi:X.N[i]? =some x)(hx:Loc X.env.scope x)(he:PE X e te)(ho:PIp X op ti)(hf:X.fn x=true∨X.env.scope.names.lookup x=some .local:=by first|exact .inl rfl|exact .inr rfl|assumption):
  PS X (.AugAssign (.Name x pos') op e pos) (b4J i te ti):=by
 intro pins s σ H D I h;obtain⟨v,e1,h⟩:=h;obtain⟨m,hn,hl⟩:=I.loc;have vis:Vis X.env.scope x:=by rcases hx with k|k;exact .inl k;exact .inr (.inl k)
 obtain⟨u,r,l⟩:=hl i x v hi e1 vis;refine wpAny_AugAssign_Name ?_
 have go:wpAny (model X.prog X.w) X.A (eval e X.env) (fun w s₂=>wpAny (model X.prog X.w) X.A (inplaceOp op u w) (fun r s₃=>wpAny (model X.prog X.w) X.A (storeName X.env x r) (fun _=>SP X pins D .next) X.xe s₃) X.xe s₂) X.xe s:=by
  refine thn (he pins s σ H _ I h) fun w s1 ⟨y,H1,I1,r1,q1⟩=>?_
  refine thn (ho pins s1 σ H1 v y u w _ I1 r r1 q1) fun z s2 ⟨zv,H2,I2,r2,q2⟩=>?_
  exact a4r I2 hN hi hx r2 (fun s3 I3=>⟨_,H2,I3,q2⟩) hf
 rcases l with⟨hk,hm⟩|⟨hk,c,hc,hcell⟩
 ·exact wpAny_loadName_local I.ok.kind hk hn hm go
 ·rcases hk with hk|hk
  ·exact wpAny_loadName_cell I.ok.kind hk hc hcell go
  ·rcases hx with k|k
   ·have:X.env.scope.names.lookup x=some .free:=hk
    rw[k]at this;cases this
   ·have:X.env.scope.names.lookup x=some .free:=hk
    rw[k]at this;cases this
end
section
variable{X:Cx}{pos:Pos}
end
structure It where
 go:Nat->Hp->Prop
 yld:Nat->Hp->V->Hp->Prop
 stop:Nat->Hp->Prop
def a0s(X:Cx)(pins:OX)(H:Hp)(b:Addr):Prop:=
 H b=none/\b≠X.env.locals/\b∉X.fs/\(b∈X.ex∨X.s₀.heap.objs.size≤b)/\(∀x c,X.env.cells.lookup x=some c->c≠b)/\∀p∈X.pn++pins,p.1≠b
theorem Inv.fpOk{X:Cx}{pins:OX}{σ:St}{H H':Hp}{s:Shared}{b:Addr}(I:Inv X pins σ H s)(hb:s.heap.objs.size≤b)(hn:H' b=none):a0s X pins H' b:=by
 refine⟨hn,Ve (Qd I.lt hb),I.nofs hb,.inr (Qo I.sz hb),fun x c e z=>?_,fun p hp z=>?_⟩
 ·obtain⟨v,q⟩:=I.cell x c e
  exact absurd (Qd q.lt (by rw[z];exact hb)) (Yh _)
 ·exact absurd (Qd (Qu (I.pin p hp).1) (by rw[z];exact hb)) (Yh _)
structure Turn(P:Program)(w:World)(K:Qq)(tg:Expr)(J:It)(fp:List Addr)(it:Addr)(tn:Nat->Heap->Prop):Prop where
 mem:it∈fp
 obj:∀i h,tn i h->∀b∈fp,∃o,h.get? b=some o/\∀v,o.data≠.cell v
 keep:∀i h h',tn i h->(∀b∈fp,∀o,h.get? b=some o->h'.get? b=some o)->tn i h'
 item:∀(X:Cx),X.prog=P->X.w=w->X.K=K->X.calm=true->∀(i:Nat) (pins:OX) (s:Shared) (σ:St) (H:Hp) (E:OE),Inv X pins σ H s->(∀b∈fp,a0s X pins H b)->tn i s.heap->J.go i H->
  wpAny (model P w) X.A (pyNext (.ref it)) (fun r s1=>∃u,r=some u/\
   wpAny (model P w) X.A (letOwnedTupleGo tg (.ref it) u) (fun _ s2=>∃x H',Inv X pins σ H' s2/\v4_ x u/\J.yld i H x H'/\tn (i+1) s2.heap/\∀b∈fp,H' b=none) E s1) E s
 done:∀(X:Cx),X.prog=P->X.w=w->X.K=K->X.calm=true->∀(i:Nat) (pins:OX) (s:Shared) (σ:St) (H:Hp) (E:OE),Inv X pins σ H s->(∀b∈fp,a0s X pins H b)->tn i s.heap->J.stop i H->
  wpAny (model P w) X.A (pyNext (.ref it)) (fun r s1=>r=none/\Inv X pins σ H s1) E s
 self:∀(A:Around) (i:Nat) (s:Shared) (Q:OE) (E:OE),tn i s.heap->Q (.ref it) s->wpAny (model P w) A (pyIter (.ref it)) Q E s
abbrev TI:=St->Hp->(It->Hp->Prop)->Prop
def PIE(X:Cx)(pins:OX)(σ:St)(tg:Expr)(R:It->Hp->Prop)(itv:Value)(s2:Shared):Prop:=
 ∃(it:Addr) (fp:List Addr) (tn:Nat->Heap->Prop) (J:It) (H':Hp),itv=.ref it/\Inv X pins σ H' s2/\Turn X.prog X.w X.K tg J fp it tn/\tn 0 s2.heap/\(∀b∈fp,a0s X pins H' b)/\R J H'
def PI(X:Cx)(tg iter:Expr)(wi:TI):Prop:=
 ∀(pins:OX) (s:Shared) (σ:St) (H:Hp) (R:It->Hp->Prop),Inv X pins σ H s->wi σ H R->
  wpAny (model X.prog X.w) X.A (eval iter X.env) (fun v s1=>wpAny (model X.prog X.w) X.A (pyIter v) (PIE X pins σ tg R) X.xe s1) X.xe s
theorem a6x{M:Model}{A:Around}{E:OE}{s:Shared}{tg:Expr}{it:Addr}{u:Value}{o:Obj}{n:String}{vs:Array Value}{Q:Unit->Shared->Prop}(ho:s.heap.get? it=some o)(hc:o.cls=.type n)(hd:o.data=.fields vs)
    (hn:["enumerate","zip","dict_itemiterator","dict_reverseitemiterator","odict_iterator","itertools.zip_longest","itertools.pairwise"].contains n=false)(hQ:Q () s):wpAny M A (letOwnedTupleGo tg (.ref it) u) Q E s:=by
  unfold letOwnedTupleGo;cases tg<;>first
    |exact Qv hQ
    | (cases u<;>first
        |exact Qv hQ
        | (refine Qz (wpAny_load ho ?_)
           rw[hc,hd];show wpAny M A (if(["enumerate","zip","dict_itemiterator","dict_reverseitemiterator","odict_iterator","itertools.zip_longest","itertools.pairwise"].contains n&&vs[0]? ==some (rawInt _))=true then _ else _) Q E s
           rw[Ql (by intro h;rw[hn,Jr]at h;cases h)]
           exact Qv hQ))
def Itl(K:Qq)(a:Addr):It:=
 ⟨fun i H=>∃xs x,SqL K H a xs/\xs[i]? =some x,fun i H x H'=>H'=H/\∀xs,SqL K H a xs->xs[i]? =some x,fun i H=>∃xs,SqL K H a xs/\xs.length≤i⟩
def Itt(K:Qq)(a:Addr):It:=
 ⟨fun i H=>∃xs x,SqT K H a xs/\xs[i]? =some x,fun i H x H'=>H'=H/\∀xs,SqT K H a xs->xs[i]? =some x,fun i H=>∃xs,SqT K H a xs/\xs.length≤i⟩
def Itr(lo:Int)(n:Nat):It:=⟨fun i _=>i<n,fun i H x H'=>H'=H/\x=.int (lo+i),fun i _=>n≤i⟩
theorem b4L{P:Program}{w:World}{K:Qq}{tg:Expr}(a it:Addr):Turn P w K tg (Itl K a) [it] it (fun i h=>h.IsListIter it a i)where
 mem:=by simp
 obj:=fun i h st b hb=>by
  have e:b=it:=by simpa using hb
  subst e;obtain⟨o,e,c,d⟩:=st;exact⟨o,e,fun v z=>by rw[d]at z;cases z⟩
 keep:=fun i h h' st k=>st.at fun o e=>k it (by simp) o e
 item:=by
  intro X hP hw hK hc i pins s σ H E I hf st hg;subst hP hw hK;obtain⟨xs,x,hq,hx⟩:=hg;obtain⟨its,rv,p,hz⟩:=I.list hq;obtain⟨u,hu,ru⟩:=rv.get hx;obtain⟨f0,f1,f2,f3,f4,f5⟩:=hf it (by simp)
  refine wpAny_pyNext_list_item st p.isList (x:=u) (by simpa using hu) fun h' st' sb=>?_
  have I1:Inv X pins σ H {s with heap:=h'}:=I.turned (t':=s.toks) (fun b o hb e=>(sb.2 b hb).trans e) f0 f1 f3 f4 f5
  obtain⟨o,e,c,d⟩:=id st';exact⟨u,rfl,a6x (s:={s with heap:=h'}) e c d (by decide) ⟨x,H,I1,ru,⟨rfl,fun ys hy=>by rw[I.list_inj hy hq];exact hx⟩,st',fun b hb=>(hf b hb).1⟩⟩
 done:=by
  intro X hP hw hK hc i pins s σ H E I hf st hg;subst hP hw hK;obtain⟨xs,hq,hx⟩:=hg;obtain⟨its,rv,p,hz⟩:=I.list hq;obtain⟨f0,f1,f2,f3,f4,f5⟩:=hf it (by simp)
  have hl:=rv.length
  exact wpAny_pyNext_list_end (I.ok.hd hc) st p.isList (by simp;omega) fun h' eb=>⟨rfl,I.turned (t':=s.toks) (fun b o hb e=>eb b o hb e) f0 f1 f3 f4 f5⟩
 self:=fun _ _ _ _ _ st h=>wpAny_pyIter_listiter st h
theorem b4M{P:Program}{w:World}{K:Qq}{tg:Expr}(a it:Addr):Turn P w K tg (Itt K a) [it] it (fun i h=>h.IsTupleIter it a i)where
 mem:=by simp
 obj:=fun i h st b hb=>by
  have e:b=it:=by simpa using hb
  subst e;obtain⟨o,e,c,d⟩:=st;exact⟨o,e,fun v z=>by rw[d]at z;cases z⟩
 keep:=fun i h h' st k=>st.at fun o e=>k it (by simp) o e
 item:=by
  intro X hP hw hK hc i pins s σ H E I hf st hg;subst hP hw hK;obtain⟨xs,x,hq,hx⟩:=hg;obtain⟨its,rv,p,hz⟩:=I.tuple hq;obtain⟨u,hu,ru⟩:=rv.get hx;obtain⟨f0,f1,f2,f3,f4,f5⟩:=hf it (by simp)
  refine wpAny_pyNext_tuple_item st (show s.heap.IsTuple a its.toArray from p) (x:=u) (by simpa using hu) fun h' st' sb=>?_
  have I1:Inv X pins σ H {s with heap:=h'}:=I.turned (t':=s.toks) (fun b o hb e=>(sb.2 b hb).trans e) f0 f1 f3 f4 f5
  obtain⟨o,e,c,d⟩:=id st';exact⟨u,rfl,a6x (s:={s with heap:=h'}) e c d (by decide) ⟨x,H,I1,ru,⟨rfl,fun ys hy=>by rw[I.tuple_inj hy hq];exact hx⟩,st',fun b hb=>(hf b hb).1⟩⟩
 done:=by
  intro X hP hw hK hc i pins s σ H E I hf st hg;subst hP hw hK;obtain⟨xs,hq,hx⟩:=hg;obtain⟨its,rv,p,hz⟩:=I.tuple hq;obtain⟨f0,f1,f2,f3,f4,f5⟩:=hf it (by simp)
  have hl:=rv.length
  exact wpAny_pyNext_tuple_end (I.ok.hd hc) st (show s.heap.IsTuple a its.toArray from p) (by simp;omega) fun h' eb=>⟨rfl,I.turned (t':=s.toks) (fun b o hb e=>eb b o hb e) f0 f1 f3 f4 f5⟩
 self:=fun _ _ _ _ _ st h=>wpAny_pyIter_tupleiter st h
theorem b4N{P:Program}{w:World}{K:Qq}{tg:Expr}(it:Addr)(lo:Int)(n:Nat):Turn P w K tg (Itr lo n) [it] it (fun i h=>IsRangeIter h it (lo+(i:Nat) * 1) ((n:Int)-(i:Nat)) 1)where
 mem:=by simp
 obj:=fun i h st b hb=>by
  have e:b=it:=by simpa using hb
  subst e;exact⟨_,st,fun v z=>by
   have z':Data.fields _=Data.cell v:=z
   cases z'⟩
 keep:=fun i h h' st k=>k it (by simp) _ st
 item:=by
  intro X hP hw hK hc i pins s σ H E I hf st hg;subst hP hw hK;obtain⟨f0,f1,f2,f3,f4,f5⟩:=hf it (by simp)
  have W:=Walks.range (prog:=X.prog) (w:=X.w) (I.ok.hd hc) it lo 1 n
  refine W.item i s _ _ hg st fun v h' tk hv st' kk=>?_
  obtain⟨t,rfl⟩:=hv;have I1:Inv X pins σ H {s with heap:=h',toks:=tk}:=I.turned (fun b o hb e=>kk b o (by simpa using hb) e) f0 f1 f3 f4 f5
  refine⟨_,rfl,a6x (s:={s with heap:=h',toks:=tk}) (n:="range_iterator") st' rfl rfl (by decide) ⟨.int (lo+i),H,I1,⟨t,?_⟩,⟨rfl,rfl⟩,st',fun b hb=>(hf b hb).1⟩⟩
  rw[Int.mul_one]
 done:=by
  intro X hP hw hK hc i pins s σ H E I hf st hg;subst hP hw hK;obtain⟨f0,f1,f2,f3,f4,f5⟩:=hf it (by simp)
  exact wpAny_pyNext_range_end (I.ok.hd hc) st (by have:n≤i:=hg;omega) fun h' eb=>⟨rfl,I.turned (t':=s.toks) (fun b o hb e=>eb b o hb e) f0 f1 f3 f4 f5⟩
 self:=fun _ _ _ _ _ st h=>wpAny_pyIter_rangeiter st h
section
variable{X:Cx}{tg:Expr}
theorem b4O{pins:OX}{σ:St}{H:Hp}{s:Shared}{R:It->Hp->Prop}{E:OE}{lo hi:Int}{t u v:Tok}{tk:Nat}(I:Inv X pins σ H s)(h1: -(2^62)≤lo)(h2:lo<2^62)(h3: -(2^62)≤hi)(h4:hi<2^62)
  (q:R (Itr lo (hi-lo).toNat) H):wpAny (model X.prog X.w) X.A (pyIter (.ref s.heap.objs.size)) (PIE X pins σ tg R) E {s with heap:=s.heap.push {cls:=.type "range",data:=.fields #[.int lo t,.int hi u,.int 1 v]},toks:=tk}:=by
 refine wpAny_pyIter_range (IsRange.new ..) (small_one h1 h2 h3 h4) ?_
 have I1:Inv X pins σ H {s with heap:=s.heap.push {cls:=.type "range",data:=.fields #[.int lo t,.int hi u,.int 1 v]},toks:=tk}:=I.kept fun b o e=>Qj _ e
 refine⟨(s.heap.push {cls:=.type "range",data:=.fields #[.int lo t,.int hi u,.int 1 v]}).objs.size,[(s.heap.push {cls:=.type "range",data:=.fields #[.int lo t,.int hi u,.int 1 v]}).objs.size],_,_,H,rfl,
  I1.kept (t':=tk) fun b o e=>Qj _ e,b4N _ lo (hi-lo).toNat,?_,fun b hb=>?_,q⟩
 ·have e1:lo+((0:Nat):Int) * 1=lo:=by simp
  have e2:(((hi-lo).toNat:Nat):Int)-((0:Nat):Int)=Builtin.Range.rangeSize lo hi 1:=by rw[rangeSize_one];split<;>omega
  show IsRangeIter _ _ (lo+((0:Nat):Int) * 1) ((((hi-lo).toNat:Nat):Int)-((0:Nat):Int)) 1;rw[e1,e2];exact Qn _ rfl
 ·have e:b=(s.heap.push {cls:=.type "range",data:=.fields #[.int lo t,.int hi u,.int 1 v]}).objs.size:=by simpa using hb
  subst e;exact I1.fpOk (Qb _) (I1.hok.fresh (Qb _))
def b4P(ta:TA):TI:=fun σ H R=>ta σ H fun vs H1=>∃j:Int,vs=[.int j]/\ -(2^62)≤j/\j<2^62/\R (Itr 0 j.toNat) H1
theorem b4Q{a:Expr}{ta:TA}{p pos:Pos}(hg:Gl X "range")(hm:X.mg "range"=none)(ha:PA X [a] ta)(hs:starEach [a] X.env=[(false,eval a X.env)]:=by rfl):PI X tg (.Call (.Name "range" p) [a] [] pos) (b4P ta):=by
 intro pins s σ H R I h;refine Call_ (a4s I hg hm boot_range (Uw (thn (ha pos pins s σ H _ I h) fun us s1 ⟨vs,H1,I1,r1,q1⟩=>?_) hs rfl))
 obtain⟨j,e,q1,q2,q⟩:=q1;subst e;cases r1 with
 |cons r rr=>
  cases rr;obtain⟨t,rfl⟩:=r;exact call_range_1 (b4O I1 (by omega) (by omega) q1 q2 (by simpa using q))
def b4R(wi:TI)(g:TG)(tb:TS):TS:=fun D σ H=>wi σ H fun J H1=>∃W:Nat->Nat->St->Hp->Prop,(∃m,W 0 m σ H1)/\∀i m σ H,W i m σ H->
 (J.stop i H/\D.nx σ H)∨(J.go i H/\∃N:St->Hp->Prop,(∀σ' H',N σ' H'->∃m',m'<m/\W (i+1) m' σ' H')/\∀x H',J.yld i H x H'->g x σ H' fun σ2 H2=>tb {D with nx:=N,ct:=N,bk:=D.nx} σ2 H2)
def a4t(fp:List Addr)(h:Heap):OX:=fp.filterMap fun b=>(h.get? b).map fun o=>(b,o)
theorem a5k{fp:List Addr}{h:Heap}{b:Addr}{o:Obj}(hb:b∈fp)(e:h.get? b=some o):(b,o)∈a4t fp h:=Ye.mpr ⟨b,hb,by rw[e];rfl⟩
theorem b4S{fp:List Addr}{h:Heap}{p:Addr×Obj}(hp:p∈a4t fp h):p.1∈fp/\h.get? p.1=some p.2:=by
 obtain⟨b,hb,e⟩:=Ye.mp hp;cases q:h.get? b with
 |none=>rw[q]at e;cases e
 |some o=>
  rw[q]at e;have e':(b,o)=p:=Yj e;subst e';exact⟨hb,q⟩
theorem Inv.pinned{pins:OX}{σ:St}{H:Hp}{s:Shared}{fp:List Addr}(I:Inv X pins σ H s)(hf:∀b∈fp,a0s X pins H b)(ho:∀b∈fp,∃o,s.heap.get? b=some o/\∀v,o.data≠.cell v):Inv X (pins++a4t fp s.heap) σ H s:=
 I.pins_of fun p hp=>(Vk.mp hp).elim (fun z=>I.pin p (Zu _ z)) fun z=>by
  obtain⟨hb,e⟩:=b4S z;obtain⟨f0,f1,f2,_⟩:=hf p.1 hb;obtain⟨o,e',d⟩:=ho p.1 hb;rw[e]at e';cases e';exact⟨e,f0,f1,f2,d⟩
theorem Inv.unpinned{pins pl:OX}{σ:St}{H:Hp}{s:Shared}(I:Inv X (pins++pl) σ H s):Inv X pins σ H s:=I.pins_of fun p hp=>I.pin p (Zu _ (List.mem_append_left _ hp))
theorem b4T{iter:Expr}{body:List Stmt}{wi:TI}{g:TG}{tb:TS}{pos:Pos}(hp:PassesOwn (model X.prog X.w) X.A X.env X.xe)(hc:X.calm=true)(hi:PI X tg iter wi)(hg:PG X tg g)(hb:PSs X body tb)
  (hs:∀x,foldedSetIterable iter X.env x=pure x:=by intro _;rfl):PS X (.For tg iter body [] pos) (b4R wi g tb):=by
 intro pins s σ H D I h;refine wpAny_For (thn (hi pins s σ H _ I h) fun v s1 h1=>thn h1 fun itv s2 h2=>?_) hs
 obtain⟨it,fp,tn,J,H2,e,I2,T,st2,f2,W,⟨m0,w0⟩,turn⟩:=h2;subst e;have stat:∀{H':Hp},(∀b∈fp,H' b=none)->∀b∈fp,a0s X pins H' b:=fun hn b hb=>⟨hn b hb,(f2 b hb).2⟩
 refine codeAny_forLoop_any (fun n s'=>∃i σ' H',Inv X pins σ' H' s'/\tn i s'.heap/\(∀b∈fp,H' b=none)/\W i n σ' H') ?_ m0 ⟨0,σ,H2,I2,st2,fun b hb=>(f2 b hb).1,w0⟩
 rintro n s3 ⟨i,σ3,H3,I3,st3,fr3,w3⟩
 rcases turn i n σ3 H3 w3 with⟨stop,qn⟩|⟨go,N,hN,step⟩
 ·refine Uh hp (thn (T.done X rfl rfl rfl hc i pins s3 σ3 H3 X.xe I3 (stat fr3) st3 stop) fun r s4 ⟨hr,I4⟩=>?_)
  subst hr;exact Uf ⟨σ3,H3,I4,qn⟩
 ·refine Uh hp (thn (T.item X rfl rfl rfl hc i pins s3 σ3 H3 X.xe I3 (stat fr3) st3 go) fun r s4 ⟨u,hr,h4⟩=>?_)
  subst hr;refine Uh hp (thn h4 fun _ s5 ⟨x,H5,I5,r5,y5,st5,fr5⟩=>?_)
  have I5':=I5.pinned (stat fr5) (T.obj _ _ st5)
  refine Uh hp (thn (hg _ s5 σ3 H5 x u _ I5' r5 (step x H5 y5)) fun _ s6 ⟨σ6,H6,I6,q6⟩=>?_)
  refine Uh hp (thn (hb _ s6 σ6 H6 _ I6 q6) fun f s7 q7=>?_)
  have again:∀{σ7:St}{H7:Hp},Inv X (pins++a4t fp s5.heap) σ7 H7 s7->N σ7 H7->∃m,m<n/\∃i σ' H',Inv X pins σ' H' s7/\tn i s7.heap/\(∀b∈fp,H' b=none)/\W i m σ' H':=fun{σ7 H7} I7 n7=>by
   obtain⟨m',hm,w7⟩:=hN σ7 H7 n7;refine⟨m',hm,i+1,σ7,H7,I7.unpinned,T.keep _ _ _ st5 fun b hb o e=>(I7.pin (b,o) (Zu _ (Zu _ (a5k hb e)))).1,fun b hb=>?_,w7⟩
   obtain⟨o,e,d⟩:=T.obj _ _ st5 b hb;exact(I7.pin (b,o) (Zu _ (Zu _ (a5k hb e)))).2.1
  cases f with
  |next=>obtain⟨σ7,H7,I7,n7⟩:=q7;exact again I7 n7
  |cont=>obtain⟨σ7,H7,I7,n7⟩:=q7;exact again I7 n7
  |brk=>obtain⟨σ7,H7,I7,q7⟩:=q7;exact⟨σ7,H7,I7.unpinned,q7⟩
  |ret v=>obtain⟨x7,σ7,H7,I7,r7,q7⟩:=q7;exact⟨x7,σ7,H7,I7.unpinned,r7,q7⟩
end
abbrev R2:=V->V->Hp->VK->Prop
def OpR(X:Cx)(f:Value->Value->Sem Value)(r:R2):Prop:=
 ∀(pins:OX) (s:Shared) (σ:St) (H:Hp) (x y:V) (v u:Value) (Q:VK),Inv X pins σ H s->v4_ x v->v4_ y u->r x y H Q->
  wpAny (model X.prog X.w) X.A (f v u) (EP X pins σ Q) X.xe s
def UnR(X:Cx)(f:Value->Sem Value)(r:V->Hp->VK->Prop):Prop:=
 ∀(pins:OX) (s:Shared) (σ:St) (H:Hp) (x:V) (v:Value) (Q:VK),Inv X pins σ H s->v4_ x v->r x H Q->
  wpAny (model X.prog X.w) X.A (f v) (EP X pins σ Q) X.xe s
def w1_(X:Cx)(f:Value)(r:List V->Hp->VK->Prop):Prop:=
 ∀(pins:OX) (s:Shared) (σ:St) (H:Hp) (xs:List V) (us:List Value) (Q:VK),Inv X pins σ H s->q5_ xs us->r xs H Q->
  wpAny (model X.prog X.w) X.A (call f us) (EP X pins σ Q) X.xe s
def tOp(r:R2)(ta tb:TE):TE:=fun σ H Q=>ta σ H fun x H1=>tb σ H1 fun y H2=>r x y H2 Q
def tUn(r:V->Hp->VK->Prop)(ta:TE):TE:=fun σ H Q=>ta σ H fun x H1=>r x H1 Q
def rI(C:Int->Int->Prop)(g:Int->Int->V):R2:=fun x y H Q=>∃i j,x=.int i/\y=.int j/\C i j/\Q (g i j) H
def rI0(g:Int->Int->V):R2:=fun x y H Q=>∃i j,x=.int i/\y=.int j/\Q (g i j) H
def rU(g:Int->V):V->Hp->VK->Prop:=fun x H Q=>∃i,x=.int i/\Q (g i) H
section
variable{X:Cx}{a b c:Expr}{ta tb tc:TE}{pos:Pos}
theorem a6y(ha:PE X a ta)(hb:PE X b tb){pins:OX}{s:Shared}{σ:St}{H:Hp}{R:V->V->Hp->Prop}(I:Inv X pins σ H s)
  (h:ta σ H fun x H1=>tb σ H1 fun y H2=>R x y H2){Q:OE}{f:Value->Value->Sem Value}
  (hf:∀v u s2 x y H2,Inv X pins σ H2 s2->v4_ x v->v4_ y u->R x y H2->wpAny (model X.prog X.w) X.A (f v u) Q X.xe s2):
  wpAny (model X.prog X.w) X.A (eval a X.env) (fun v s₁=>wpAny (model X.prog X.w) X.A (eval b X.env) (fun u s₂=>wpAny (model X.prog X.w) X.A (f v u) Q X.xe s₂) X.xe s₁) X.xe s:=by
 refine thn (ha pins s σ H _ I h) fun v s1 ⟨x,H1,I1,r1,q1⟩=>?_
 refine thn (hb pins s1 σ H1 _ I1 q1) fun u s2 ⟨y,H2,I2,r2,q2⟩=>?_
 exact hf v u s2 x y H2 I2 r1 r2 q2
theorem a9N{op:Operator}{r:R2}(ho:OpR X (binaryOp op) r)(ha:PE X a ta)(hb:PE X b tb):PE X (.BinOp a op b pos) (tOp r ta tb):=by
 intro pins s σ H Q I h;exact wpAny_BinOp (a6y ha hb I h fun v u s2 x y H2 I2 rx ry q=>ho pins s2 σ H2 x y v u Q I2 rx ry q)
theorem a9O{op:UnaryOp}{r:V->Hp->VK->Prop}(ho:UnR X (unaryOp op) r)(ha:PE X a ta):PE X (.UnaryOp op a pos) (tUn r ta):=by
 intro pins s σ H Q I h;exact UnaryOp_ (thn (ha pins s σ H _ I h) fun v s1 ⟨x,H1,I1,r1,q1⟩=>ho pins s1 σ H1 x v Q I1 r1 q1)
theorem opI{f:Value->Value->Sem Value}{C:Int->Int->Prop}{g:Int->Int->Int}
  (rule:∀(i j:Int) (t u:Tok) (s:Shared) (Q:OE) (E:OE),C i j->Q (.int (g i j) s.toks) {s with toks:=s.toks+1}->wpAny (model X.prog X.w) X.A (f (.int i t) (.int j u)) Q E s):
  OpR X f (rI C fun i j=>.int (g i j)):=by
 intro pins s σ H x y v u Q I rx ry h;obtain⟨i,j,rfl,rfl,hc,q⟩:=h;obtain⟨t,rfl⟩:=rx;obtain⟨t',rfl⟩:=ry;exact rule i j t t' s _ _ hc ⟨.int (g i j),H,I.tok _,⟨_,rfl⟩,q⟩
theorem a6z{f:Value->Value->Sem Value}{g:Int->Int->Int}
  (rule:∀(i j:Int) (t u:Tok) (s:Shared) (Q:OE) (E:OE),Q (.int (g i j) s.toks) {s with toks:=s.toks+1}->wpAny (model X.prog X.w) X.A (f (.int i t) (.int j u)) Q E s):
  OpR X f (rI0 fun i j=>.int (g i j)):=by
 intro pins s σ H x y v u Q I rx ry h;obtain⟨i,j,rfl,rfl,q⟩:=h;obtain⟨t,rfl⟩:=rx;obtain⟨t',rfl⟩:=ry;exact rule i j t t' s _ _ ⟨.int (g i j),H,I.tok _,⟨_,rfl⟩,q⟩
theorem a6A{f:Value->Value->Sem Value}{g:Int->Int->Bool}
  (rule:∀(i j:Int) (t u:Tok) (s:Shared) (Q:OE) (E:OE),Q (.bool (g i j)) s->wpAny (model X.prog X.w) X.A (f (.int i t) (.int j u)) Q E s):
  OpR X f (rI0 fun i j=>.bl (g i j)):=by
 intro pins s σ H x y v u Q I rx ry h;obtain⟨i,j,rfl,rfl,q⟩:=h;obtain⟨t,rfl⟩:=rx;obtain⟨t',rfl⟩:=ry;exact rule i j t t' s _ _ ⟨.bl (g i j),H,I,rfl,q⟩
def a6B(i j:Int):Prop:=0<j/\j<1073741824
def a6C(i j:Int):Prop:=0≤j/\j≤1000000/\i.natAbs<2^64
def a2N(i j:Int):Prop:=(-(2^64)<i/\i<2^64)∨(-(2^64)<j/\j<2^64)
theorem a2N.ok{i j:Int}(h:a2N i j):IntMulOk i j:=by
 rcases h with⟨h1,h2⟩|⟨h1,h2⟩
 ·exact .of_left (intBits_le_64 h1 h2)
 ·exact .of_right (intBits_le_64 h1 h2)
theorem b4U:OpR X (binaryOp .Add) (rI0 fun i j=>.int (i+j)):=a6z fun _ _ _ _ _ _ _ q=>add_int q
theorem u0_:OpR X (binaryOp .Sub) (rI0 fun i j=>.int (i-j)):=a6z fun _ _ _ _ _ _ _ q=>sub_int q
theorem b4V:OpR X (binaryOp .Mult) (rI a2N fun i j=>.int (i * j)):=opI fun _ _ _ _ _ _ _ hc q=>mul_int q hc.ok
theorem a9P:OpR X (binaryOp .FloorDiv) (rI a6B fun i j=>.int (i/j)):=opI fun i j _ _ _ _ _ hc q=>by
 have h1:(0:Int)<j:=hc.1
 have h2:j<1073741824:=hc.2
 exact floordiv_int (by omega) (by rw[Int.fdiv_eq_ediv_of_nonneg i (by omega)];exact q) (.inl (PyProof.noPylong_small (by omega)))
theorem a2b:OpR X (binaryOp .Mod) (rI (fun _ j=>0<j) fun i j=>.int (i%j)):=opI fun i j _ _ _ _ _ hc q=>by
 have h1:(0:Int)<j:=hc
 exact mod_int' (by omega) (by rw[Int.fmod_eq_emod_of_nonneg i (by omega)];exact q)
theorem a6D:OpR X (binaryOp .Pow) (rI a6C fun i j=>.int (i^j.toNat)):=opI fun _ _ _ _ _ _ _ hc q=>pow_int_small hc.1 hc.2.1 hc.2.2 q
theorem b4W:OpR X (inplaceOp .Add) (rI0 fun i j=>.int (i+j)):=a6z fun _ _ _ _ _ _ _ q=>iadd_int q
theorem unI{f:Value->Sem Value}{g:Int->Int}
  (rule:∀(i:Int) (t:Tok) (s:Shared) (Q:OE) (E:OE),Q (.int (g i) s.toks) {s with toks:=s.toks+1}->wpAny (model X.prog X.w) X.A (f (.int i t)) Q E s):
  UnR X f (rU fun i=>.int (g i)):=by
 intro pins s σ H x v Q I rx h;obtain⟨i,rfl,q⟩:=h;obtain⟨t,rfl⟩:=rx;exact rule i t s _ _ ⟨.int (g i),H,I.tok _,⟨_,rfl⟩,q⟩
theorem a9Q:UnR X (unaryOp .USub) (rU fun i=>.int (-i)):=unI fun _ _ _ _ _ q=>neg_int q
end
section
variable{X:Cx}{a b c:Expr}{ta tb tc:TE}{pos:Pos}
theorem b4X{pins:OX}{σ:St}{H:Hp}{s:Shared}{Q:VK}{k k':Bool}(I:Inv X pins σ H s)(q:Q (.bl k) H)(e:k=k'):EP X pins σ Q (.bool k') s:=by
 subst e;exact⟨.bl k,H,I,rfl,q⟩
theorem b4Y:OpR X (compareOp .Lt) (rI0 fun i j=>.bl (decide (i<j))):=a6A fun _ _ _ _ _ _ _ q=>lt_int q
theorem a1u:OpR X (compareOp .LtE) (rI0 fun i j=>.bl (decide (i≤j))):=a6A fun _ _ _ _ _ _ _ q=>le_int q
theorem b4Z:OpR X (compareOp .GtE) (rI0 fun i j=>.bl (decide (j≤i))):=a6A fun _ _ _ _ _ _ _ q=>ge_int q
theorem b5a:OpR X (compareOp .Is) (fun x y H Q=>y=.non/\Q (.bl (decide (x=.non))) H):=by
 intro pins s σ H x y v u Q I rx ry h;obtain⟨rfl,q⟩:=h;cases ry;refine is_none_gen (b4X I q ?_);cases x<;>first
  |(cases rx;rfl)
  |(obtain⟨t,rfl⟩:=rx;rfl)
theorem OpR.or{f:Value->Value->Sem Value}{r r':R2}(h:OpR X f r)(h':OpR X f r'):OpR X f (fun x y H Q=>r x y H Q∨r' x y H Q):=by
 intro pins s σ H x y v u Q I rx ry q
 rcases q with q|q
 ·exact h pins s σ H x y v u Q I rx ry q
 ·exact h' pins s σ H x y v u Q I rx ry q
theorem nomark(b:Expr){op:CmpOp}(h:op≠.In:=by decide)(h2:op≠.NotIn:=by decide):behindInMarks op b=false:=by
 have e1:(op==CmpOp.In)=false:=by cases op<;>first|rfl|exact absurd rfl h
 have e2:(op==CmpOp.NotIn)=false:=by cases op<;>first|rfl|exact absurd rfl h2
 cases b<;>simp[behindInMarks,e1,e2]
theorem b5b{op:CmpOp}{r:R2}(ho:OpR X (compareOp op) r)(ha:PE X a ta)(hb:PE X b tb)(hm:behindInMarks op b=false):PE X (.Compare a [op] [b] pos) (tOp r ta tb):=by
 intro pins s σ H Q I h;exact wpAny_Compare1 (a6y ha hb I h fun v u s2 x y H2 I2 rx ry q=>ho pins s2 σ H2 x y v u Q I2 rx ry q) hm
def a9R(t:TE):TT:=fun σ H Q=>t σ H fun x H'=>∃k,x=.bl k/\Q k H'
theorem b5c{op:CmpOp}{r:R2}(ho:OpR X (compareOp op) r)(ha:PE X a ta)(hb:PE X b tb)(hm:behindInMarks op b=false):PT X (.Compare a [op] [b] pos) (a9R (tOp r ta tb)):=by
 intro pins s σ H Q I h;refine wpAny_isTrue_Compare1 (thn (ha pins s σ H _ I h) fun v s1 ⟨x,H1,I1,r1,q1⟩=>thn (hb pins s1 σ H1 _ I1 q1) fun u s2 ⟨y,H2,I2,r2,q2⟩=>
  thn (ho pins s2 σ H2 x y v u _ I2 r1 r2 q2) fun c s3 ⟨z,H3,I3,r3,k,e,q3⟩=>?_) hm
 subst e;cases r3;exact Yy ⟨H3,I3,q3⟩
def a6E(r r':R2)(ta tb tc:TE):TE:=fun σ H Q=>ta σ H fun x H1=>tb σ H1 fun y H2=>r x y H2 fun z H3=>∃k,z=.bl k/\
 (if k=true then tc σ H3 fun w' H4=>r' y w' H4 Q else Q (.bl false) H3)
theorem b5d{op op':CmpOp}{r r':R2}(ho:OpR X (compareOp op) r)(ho':OpR X (compareOp op') r')(ha:PE X a ta)(hb:PE X b tb)(hc:PE X c tc)
  (hm:lastMarks [op,op'] [b,c]=false:=by with_unfolding_all rfl):PE X (.Compare a [op,op'] [b,c] pos) (a6E r r' ta tb tc):=by
 intro pins s σ H Q I h;refine Compare_chain (thn (ha pins s σ H _ I h) fun v s1 ⟨x,H1,I1,r1,q1⟩=>chain_link (thn (hb pins s1 σ H1 _ I1 q1) fun u s2 ⟨y,H2,I2,r2,q2⟩=>
  thn (ho pins s2 σ H2 x y v u _ I2 r1 r2 q2) fun d s3 ⟨z,H3,I3,r3,k,e,q3⟩=>?_)) hm
 subst e;cases r3;refine Yy ?_
 cases k with
 |false=>exact ite_ff ⟨.bl false,H3,I3,rfl,q3⟩
 |true=>exact ite_tt (chain_last (thn (hc pins s3 σ H3 _ I3 q3) fun w' s4 ⟨z',H4,I4,r4,q4⟩=>ho' pins s4 σ H4 y z' u w' Q I4 r2 r4 q4))
theorem b5e{op op':CmpOp}{r r':R2}(ho:OpR X (compareOp op) r)(ho':OpR X (compareOp op') r')(ha:PE X a ta)(hb:PE X b tb)(hc:PE X c tc)
  (hm:lastMarks [op,op'] [b,c]=false:=by with_unfolding_all rfl):PT X (.Compare a [op,op'] [b,c] pos) (a9R (a6E r r' ta tb tc)):=by
 intro pins s σ H Q I h;refine isTrue_chain (thn (ha pins s σ H _ I h) fun v s1 ⟨x,H1,I1,r1,q1⟩=>test_link (thn (hb pins s1 σ H1 _ I1 q1) fun u s2 ⟨y,H2,I2,r2,q2⟩=>
  thn (ho pins s2 σ H2 x y v u _ I2 r1 r2 q2) fun d s3 ⟨z,H3,I3,r3,k,e,q3⟩=>?_)) hm
 subst e;cases r3;refine Yy ?_
 cases k with
 |false=>
  obtain⟨k',e',q'⟩:=q3;cases e';exact ite_ff ⟨H3,I3,q'⟩
 |true=>
  refine ite_tt (test_last (thn (hc pins s3 σ H3 _ I3 q3) fun w' s4 ⟨z',H4,I4,r4,q4⟩=>thn (ho' pins s4 σ H4 y z' u w' _ I4 r2 r4 q4) fun d' s5 ⟨z2,H5,I5,r5,k2,e2,q5⟩=>?_))
  subst e2;cases r5;exact Yy ⟨H5,I5,q5⟩
theorem a3K:(sizeLine:Nat)<2^63:=by rw[Jd];decide
theorem b5f:OpR X (binaryOp .Add) (fun x y H Q=>∃i j,x=.str i/\y=.str j/\i.length+j.length≤sizeLine/\Q (.str (i++j)) H):=by
 intro pins s σ H x y v u Q I rx ry h;obtain⟨i,j,rfl,rfl,hz,q⟩:=h;obtain⟨t,rfl⟩:=rx;obtain⟨t',rfl⟩:=ry;exact add_str (fun t' tk=>⟨.str (i++j),H,I.tok _,⟨_,rfl⟩,q⟩) hz
theorem a1v{x:V}{us:List Value}(r:q5_ [x] us):∃u,us=[u]/\v4_ x u:=by
 cases r with
 |cons r1 r2=>cases r2;exact⟨_,rfl,r1⟩
theorem a2c{x y:V}{us:List Value}(r:q5_ [x,y] us):∃u w',us=[u,w']/\v4_ x u/\v4_ y w':=by
 cases r with
 |cons r1 r2=>
  cases r2 with
  |cons r3 r4=>cases r4;exact⟨_,_,rfl,r1,r3⟩
theorem b5g(hc:X.calm=true):w1_ X (.builtin "max") (fun xs H Q=>∃i j,xs=[.int i,.int j]/\Q (.int (if j>i then j else i)) H):=by
 intro pins s σ H xs us Q I r h;obtain⟨i,j,rfl,q⟩:=h;obtain⟨u,w',rfl,⟨t,rfl⟩,⟨t',rfl⟩⟩:=a2c r;refine max_two_ints (I.ok.hd hc) fun h' tk k=>⟨_,H,I.kept k,?_,q⟩
 by_cases hj:j>i
 ·rw[Qc hj,Qc hj];exact⟨_,rfl⟩
 ·rw[Ql hj,Ql hj];exact⟨_,rfl⟩
theorem b5h(hc:X.calm=true):w1_ X (.builtin "min") (fun xs H Q=>∃i j,xs=[.int i,.int j]/\Q (.int (if j<i then j else i)) H):=by
 intro pins s σ H xs us Q I r h;obtain⟨i,j,rfl,q⟩:=h;obtain⟨u,w',rfl,⟨t,rfl⟩,⟨t',rfl⟩⟩:=a2c r;refine min_two_ints (I.ok.hd hc) fun h' tk k=>⟨_,H,I.kept k,?_,q⟩
 by_cases hj:j<i
 ·rw[Qc hj,Qc hj];exact⟨_,rfl⟩
 ·rw[Ql hj,Ql hj];exact⟨_,rfl⟩
theorem b5i:w1_ X (.type "int") (fun xs H Q=>(∃i,xs=[.int i]/\Q (.int i) H)∨ ∃k,xs=[.bl k]/\Q (.int (if k then 1 else 0)) H):=by
 intro pins s σ H xs us Q I r h
 rcases h with⟨i,rfl,q⟩|⟨k,rfl,q⟩
 ·obtain⟨u,rfl,t,rfl⟩:=a1v r
  exact call_int_int ⟨.int i,H,I,⟨_,rfl⟩,q⟩
 ·obtain⟨u,rfl,r1⟩:=a1v r
  cases r1;exact call_int_bool ⟨.int (if k then 1 else 0),H,I.tok _,⟨_,rfl⟩,q⟩
end
structure ObjM(h:Heap)(x dx C:Addr)(mA:OU):Prop where
 obj:h.get? x=some (PySem.W.instObj C dx)
 ns:h.Ns1 dx mA
 ne:dx≠x
theorem b5j{h:Heap}{dx:Addr}{mA:OU}(n:h.Ns1 dx mA):∃od,h.get? dx=some od/\∀name,PySem.W.lookIn name od=some (mA name):=by
 obtain⟨o,es,ep,ho,hd,hk,_,hm⟩:=n;refine⟨o,ho,fun name=>?_⟩
 have e:=hm name
 unfold nsFind findBy at e;rw[←Array.find?_toList]at e;unfold PySem.W.lookIn;rw[hd];dsimp only;split
 ·rename_i y q
  rw[q]at e;exact Jf some e
 ·rename_i q
  rw[q]at e;have a:es.toList.any (·.refKey)=false:=by
   rw[List.any_eq_false];intro y hy;obtain⟨z,t,hkey⟩:=hk y (Array.mem_toList_iff.mp hy)
   simp[DictEntry.refKey,hkey]
  have a':¬ es.toList.any (·.refKey)=true:=by rw[a];exact Yk
  rw[Ql a'];exact Jf some e
theorem ObjM.look{h:Heap}{x dx C:Addr}{mA:OU}(I:ObjM h x dx C mA):∃od,PySem.W.InstAt h x (PySem.W.instObj C dx) C (some od)/\∀name,PySem.W.lookIn name od=some (mA name):=
 let ⟨od,ho,hl⟩:=b5j I.ns
 ⟨od,⟨I.obj,rfl,rfl,ho⟩,hl⟩
section
variable{prog:Program}{w:World}{A:Around}{E:OE}{s:Shared}{K:Qq}{x dx C f:Addr}{mA:OU}{name:Str}{v:Value}
end
theorem a0Q.some_of{v:V}{o:Option Value}(r:a0Q (some v) o):∃u,o=some u/\v4_ v u:=by
 cases o with
 |none=>exact(show False from r).elim
 |some u=>exact⟨u,rfl,r⟩
section
variable{P:Program}{w:World}{H H':Hp}{h h':Heap}{a C dx:Addr}{fs fs':List (Str×V)}
theorem b5k(hok:HOk P w H h)(e:H a=some (.ins C dx fs)):∃mA,ObjM h a dx C mA/\(∀f,a0Q (fs.lookup f) (mA f))/\PySem.Within mA (fs.map (·.1))/\fs.length≤1000/\H dx=some (.own a):=by
 obtain⟨d,z,ne,ob,mA,n,r,q⟩:=(show k1_ P w H h a (.ins C dx fs)from hok a _ e)
 exact⟨mA,⟨ob,n,ne⟩,r,q,z,d⟩
end
structure Cls(K:Qq)(C:Addr):Prop where
 pg:PySem.W.plainGet K C Str.empty=true
 hd:PySem.W.hasDictIn K C=true
 po:PySem.W.plainOver K C=true
 sa:PySem.W.findIn K (.ref C) "__setattr__"=some (some (.builtin "object.__setattr__"))
theorem Cls.get{K:Qq}{C:Addr}(c:Cls K C)(f:Str):PySem.W.plainGet K C f=true:=c.pg
structure Con(K:Qq)(C:Addr)(f:Str)(v:V)(u:Value):Prop where
 at_:PySem.W.findIn K (.ref C) f=some (some u)
 rel:v4_ v u
 get:PySem.W.specialIn K u "__get__"=some none
 cp:PySem.W.copiedNames.contains f=false
structure Meth(K:Qq)(C:Addr)(m:Str)(f:Addr):Prop where
 at_:PySem.W.findIn K (.ref C) m=some (some (.ref f))
 fn:PySem.W.isFn K (.ref f)=true
 kp:PySem.W.keepIn K (.ref f)=true
section
variable{X:Cx}{pins:OX}{σ:St}{H:Hp}{s:Shared}{a C dx:Addr}{fs:List (Str×V)}{f:Str}{v:V}{A:Around}{E:OE}
theorem Inv.made(I:Inv X pins σ H s):Inv X pins σ (upd (upd H s.heap.objs.size (.own (s.heap.objs.size+1))) (s.heap.objs.size+1) (.ins C s.heap.objs.size []))
  {s with heap:=(s.heap.push PySem.W.emptyDict).push (PySem.W.instObj C s.heap.objs.size)}:=by
 have e1:(s.heap.push PySem.W.emptyDict).get? s.heap.objs.size=some PySem.W.emptyDict:=Qn s.heap rfl
 have e2:((s.heap.push PySem.W.emptyDict).push (PySem.W.instObj C s.heap.objs.size)).get? (s.heap.objs.size+1)=some (PySem.W.instObj C s.heap.objs.size):=by
  have:=Qn (s.heap.push PySem.W.emptyDict) (o:=PySem.W.instObj C s.heap.objs.size) rfl;rwa [Zr]at this
 have e3:(s.heap.push PySem.W.emptyDict).Ns s.heap.objs.size (fun _=>none):=⟨PySem.W.emptyDict,#[],_,e1,rfl,(fun e he=>absurd he (by simp)),fun _=>rfl⟩
 have I1:=I.laid (a:=s.heap.objs.size) (o:=.own (s.heap.objs.size+1)) (h':=s.heap.push PySem.W.emptyDict) (t':=s.toks) (fun b u q=>Qj _ q) (Qb _) ⟨_,e1⟩
 refine I1.laid (a:=s.heap.objs.size+1) (o:=.ins C s.heap.objs.size []) (t':=s.toks) (fun b u q=>Qj _ q) (Vo (Zr _ _)) ?_
 have ne:s.heap.objs.size≠s.heap.objs.size+1:=Qr (Nat.lt_succ_self _)
 refine⟨by rw[q4_ ne,y6_],Ub _,ne,e2,fun _=>none,(Heap.Ns1.of_empty e3).at fun o q=>Qj _ q,fun _=>True.intro,fun y hy=>absurd rfl hy⟩
end
section
variable{X:Cx}{o e value:Expr}{f:Str}{pos pos' tpos:Pos}{ta tv:TE}
end
section
variable{X:Cx}{pins:OX}{σ:St}{H:Hp}{s:Shared}{A:Around}{E:OE}{Q:OE}{c:Value}{b:Bool}
inductive TyOf (K:Qq) (H:Hp):V->Value->Prop where
 |non:TyOf K H .non (.type "NoneType")
 |bl (x:Bool):TyOf K H (.bl x) (.type "bool")
 |int (i:Int):TyOf K H (.int i) (.type "int")
 |str (x:Str):TyOf K H (.str x) (.type "str")
 |flt (x:UInt64):TyOf K H (.flt x) (.type "float")
 |lst {a:Addr}{xs:List V}(e:H a=some (.lst xs)):TyOf K H (.ref a) (.type "list")
 |frz {a:Addr}{o:Obj}{xs:List V}(e:H a=some (.frz o (.lst xs))):TyOf K H (.ref a) (.type "list")
 |tup {a:Addr}{xs:List V}(e:H a=some (.tup xs)):TyOf K H (.ref a) (.type "tuple")
 |dK {a:Addr}{kvs:List (Key×V)}(e:H a=some (.dK kvs)):TyOf K H (.ref a) (.type "dict")
 |dT {a:Addr}{C:Addr->List Key->Prop}{kvs:List (List Key×V)}(e:H a=some (.dT C kvs)):TyOf K H (.ref a) (.type "dict")
 |ins {a C dx:Addr}{fs:List (Str×V)}(e:H a=some (.ins C dx fs)) (cl:Cls K C) (ha:PySem.W.findIn K (.ref C) "__class__"=some (some (.builtin "object.__class__")))
   (hn:PySem.W.specialIn K (.builtin "object.__class__") "__get__"=some (some (.builtin "getset_descriptor.__get__"))) (htk:PySem.W.takesIn K (.builtin "object.__class__")=some true)
   (hm:PySem.W.mroIn K C (.type "object")=some true):TyOf K H (.ref a) (.ref C)
theorem a3L{x:V}{u t:Value}(I:Inv X pins σ H s)(rx:v4_ x u)(ty:TyOf X.K H x t)(e:PySem.W.kitOne X.K t c=some b)(h:∀tk,Q (.bool b) {s with toks:=tk}):
  wpAny (model X.prog X.w) A (call (.builtin "isinstance") [u,c]) Q E s:=by
 cases ty with
 |non=>cases (show u=Value.none from rx);exact Zj PySem.W.kitx_none I.kIn True.intro e (fun z=>nomatch z) h
 |bl y=>cases (show u=Value.bool y from rx);exact Zj PySem.W.kitx_bool I.kIn True.intro e (fun z=>nomatch z) h
 |int i=>obtain⟨t,q⟩:=(show∃t,u=Value.int i t from rx);cases q;exact Zj PySem.W.kitx_int I.kIn True.intro e (fun z=>nomatch z) h
 |str y=>obtain⟨t,q⟩:=(show∃t,u=Value.str y t from rx);cases q;exact Zj PySem.W.kitx_str I.kIn True.intro e (fun z=>nomatch z) h
 |flt y=>obtain⟨t,q⟩:=(show∃t,u=Value.float y t from rx);cases q;exact Zj PySem.W.kitx_float I.kIn True.intro e (fun z=>nomatch z) h
 |@lst a xs ea=>
  cases (show u=Value.ref a from rx)
  obtain⟨_,_,n,_,h1⟩:=(show k1_ X.prog X.w H s.heap a (.lst xs)from I.hok a _ ea)
  exact Zj Us I.kIn ⟨_,h1,rfl⟩ e (fun z=>nomatch z) h
 |@frz a ob xs ea=>
  cases (show u=Value.ref a from rx)
  obtain⟨_,_,_,n,_,h1⟩:=(show k1_ X.prog X.w H s.heap a (.frz ob (.lst xs))from I.hok a _ ea)
  exact Zj Us I.kIn ⟨_,h1,rfl⟩ e (fun z=>nomatch z) h
 |@tup a xs ea=>
  cases (show u=Value.ref a from rx)
  obtain⟨_,_,_,p⟩:=(show k1_ X.prog X.w H s.heap a (.tup xs)from I.hok a _ ea)
  obtain⟨o,h1,h2,_⟩:=p;exact Zj Vc I.kIn ⟨o,h1,h2⟩ e (fun z=>nomatch z) h
 |@dK a kvs ea=>
  cases (show u=Value.ref a from rx)
  obtain⟨_,_,vs,_,p⟩:=(show k1_ X.prog X.w H s.heap a (.dK kvs)from I.hok a _ ea)
  obtain⟨o,es,ep,h1,h2,_⟩:=p;exact Zj Yc I.kIn ⟨o,h1,h2.1⟩ e (fun z=>nomatch z) h
 |@dT a C kvs ea=>
  cases (show u=Value.ref a from rx)
  obtain⟨_,_,xs,_,o,es,ep,h1,h2,_⟩:=(show k1_ X.prog X.w H s.heap a (.dT C kvs)from I.hok a _ ea)
  exact Zj Yc I.kIn ⟨o,h1,h2.1⟩ e (fun z=>nomatch z) h
 |@ins a C dx fs ea cl ha hn htk hm=>
  cases (show u=Value.ref a from rx)
  obtain⟨mA,O,_⟩:=b5k I.hok ea;obtain⟨od,J,_⟩:=O.look;exact Zj (PySem.W.kitx_own (cl.get _) cl.hd ha hn htk hm) I.kIn J e (fun z=>nomatch z) h
end
structure Room(k:Nat)(A:Around):Prop where
 hd:A.handled=none
 dp:A.depth+3 * k+5<recursionLimit
 un:A.units+16 * k+200<cLine
theorem Room.mono{j k:Nat}{A:Around}(r:Room k A)(h:j≤k):Room j A:=⟨r.hd,by have:=r.dp;omega,by have:=r.un;omega⟩
theorem Room.deeper{k:Nat}{A:Around}(r:Room (k+1) A)(env:Env):Room k (A.deeper env):=
 ⟨r.hd,by have:=r.dp;show A.depth+1+3 * k+5<_;omega,by have:=r.un;show A.units+3+16 * k+200<_;omega⟩
theorem Room.in1{k:Nat}{A:Around}(r:Room (k+1) A):Room k A.in1:=
 ⟨r.hd,by have:=r.dp;show A.depth+3 * k+5<_;omega,by have:=r.un;show A.units+1+16 * k+200<_;omega⟩
theorem Room.depth{k:Nat}{A:Around}(r:Room k A):A.depth<recursionLimit:=by have:=r.dp;omega
theorem Room.units{k:Nat}{A:Around}(r:Room k A):A.units+64<cLine:=by have:=r.un;omega
def a6F:TA:=fun _ H Q=>Q [] H
def a6G(ta:TE)(tr:TA):TA:=fun σ H Q=>ta σ H fun x H1=>tr σ H1 fun xs H2=>Q (x::xs) H2
section
variable{X:Cx}{e:Expr}{es:List Expr}{te:TE}{t:TA}{pos:Pos}
theorem a2d:PA X [] a6F:=fun _ _ _ _ H Q I h=>Calls.spliced_nil ⟨[],H,I,.nil,h⟩
theorem a0t(ha:PE X e te)(hr:PA X es t)(hs:starEach (e::es) X.env=(false,eval e X.env)::starEach es X.env:=by rfl):PA X (e::es) (a6G te t):=by
 intro pos pins s σ H Q I h;rw[hs];show wpAny _ _ (spliced ((false,eval e X.env)::backTo pos (starEach es X.env))) _ _ s;refine Calls.spliced_cons (thn (ha pins s σ H _ I h) fun u s1 ⟨x,H1,I1,r1,q1⟩=>?_)
 exact thn (hr pos pins s1 σ H1 _ I1 q1) fun us s2 ⟨xs,H2,I2,r2,q2⟩=>⟨x::xs,H2,I2,.cons r1 r2,q2⟩
def a9S(t:TA):TE:=fun σ H Q=>t σ H fun xs H1=>xs.length≤sizeLine/\∀p,H1 p=none->Q (.ref p) (upd H1 p (.tup xs))
def b5l(t:TA):TE:=fun σ H Q=>t σ H fun xs H1=>xs.length≤sizeLine/\∀p,H1 p=none->Q (.ref p) (upd H1 p (.lst xs))
theorem a9T{x1}(h:PA X es t):PE X (.Tuple es x1 pos) (a9S t):=by
 intro pins s σ H Q I hq;refine wpAny_Tuple_spliced (thn (h pos pins s σ H _ I hq) fun us s1 ⟨xs,H1,I1,r,z,q⟩=>⟨by rw[←r.length];exact z,?_⟩)
 have hf:H1 s1.heap.objs.size=none:=I1.hok.fresh (Qb _)
 refine⟨.ref s1.heap.objs.size,upd H1 s1.heap.objs.size (.tup xs),I1.laid (t':=s1.toks) (fun b u e=>Qj _ e) (Qb _) ?_,rfl,q _ hf⟩
 exact⟨z,us,r,⟨_,Qn _ rfl,rfl,rfl,_,rfl⟩⟩
theorem b5m(h:PA X es t):PE X (.List es pos) (b5l t):=by
 intro pins s σ H Q I hq;refine wpAny_List_spliced (thn (h pos pins s σ H _ I hq) fun us s1 ⟨xs,H1,I1,r,z,q⟩=>⟨by rw[←r.length];exact z,?_⟩)
 have hf:H1 s1.heap.objs.size=none:=I1.hok.fresh (Qb _)
 refine⟨.ref s1.heap.objs.size,upd H1 s1.heap.objs.size (.lst xs),I1.laid (t':=s1.toks) (fun b u e=>Qj _ e) (Qb _) ?_,rfl,q _ hf⟩
 exact⟨z,us,0,r,Qn _ rfl⟩
end
abbrev Sp:=List V->Hp->VK->XK->Prop
abbrev CXT:=List Env->Hp->Shared->XK->OE
structure Env0(P:Program)(w:World)(K:Qq)(mg:OU)(base:Heap)(A:Around)(outer:List Env)(s:Shared)(H:Hp):Prop where
 frames:A.frames=some outer
 mod:Mod K mg base
 bs:∀b o,base.get? b=some o->s.heap.get? b=some o/\H b=none
 bsz:base.objs.size≤s.heap.objs.size
 funs:s.heap.FunFrames base outer
 frf:∀b∈frs outer,H b=none
 hok:HOk P w H s.heap
 bare:AllBare s.gens
def CE(outer:List Env)(P:Program)(w:World)(H:Hp)(s:Shared)(Q:VK)(u:Value)(s':Shared):Prop:=
 ∃v H',s'.os=s.os/\AllBare s'.gens/\Un (frs outer) [] H H' s.heap s'.heap/\HOk P w H' s'.heap/\v4_ v u/\Q v H'
def CR(CX:CXT)(outer:List Env)(P:Program)(w:World)(H:Hp)(s:Shared)(Q:VK)(E:XK)(r:Result)(s':Shared):Prop:=
 match r with
 |.ok (.ret u)=>CE outer P w H s Q u s'
 |.ok _=>False
 |.error e=>CX outer H s E e s'
structure FnOk(P:Program)(w:World)(K:Qq)(mg:OU)(base:Heap)(CX:CXT)(k:Nat)(f:Addr)(fd:FuncData)(ps:List Str)(sp:Sp):Prop where
 len:∀vs H Q E,sp vs H Q E->vs.length=ps.length
 run:∀(A:Around) (outer:List Env) (s:Shared) (H:Hp) (args:Args) (us:List Value) (vs:List V) (Q:VK) (E:XK),Room k A->Env0 P w K mg base A outer s H->BindsTo s fd args (ps.zip us)->q5_ vs us->sp vs H Q E->
  codeAny (model P w) A (.call (.ref f) args) (CR CX outer P w H s Q E) s
theorem FnOk.mono{P:Program}{w:World}{K:Qq}{mg:OU}{base:Heap}{CX:CXT}{j k:Nat}{f:Addr}{fd:FuncData}{ps:List Str}{sp:Sp}(F:FnOk P w K mg base CX j f fd ps sp)(h:j≤k):
  FnOk P w K mg base CX k f fd ps sp:=⟨F.len,fun A outer s H args us vs Q E hr=>F.run A outer s H args us vs Q E (hr.mono h)⟩
theorem FnOk.imp{P:Program}{w:World}{K:Qq}{mg:OU}{base:Heap}{CX:CXT}{k:Nat}{f:Addr}{fd:FuncData}{ps:List Str}{sp sp':Sp}(F:FnOk P w K mg base CX k f fd ps sp)
  (h:∀vs H Q E,sp' vs H Q E->sp vs H Q E):FnOk P w K mg base CX k f fd ps sp':=
 ⟨fun vs H Q E q=>F.len vs H Q E (h _ _ _ _ q),fun A outer s H args us vs Q E hr he hb hv hs=>F.run A outer s H args us vs Q E hr he hb hv (h _ _ _ _ hs)⟩
theorem Env0.in1{P:Program}{w:World}{K:Qq}{mg:OU}{base:Heap}{A:Around}{outer:List Env}{s:Shared}{H:Hp}(e:Env0 P w K mg base A outer s H):
  Env0 P w K mg base A.in1 outer s H:=⟨e.frames,e.mod,e.bs,e.bsz,e.funs,e.frf,e.hok,e.bare⟩
section
variable{X:Cx}{pins:OX}{σ:St}{H:Hp}{s s':Shared}
theorem Inv.env0(I:Inv X pins σ H s):Env0 X.prog X.w X.K X.mg X.base X.A X.stack s H:=
 ⟨I.ok.frames,I.ok.mod,I.bs,Qo I.ok.bsz I.sz,I.stack,I.stkFree,I.hok,I.bare⟩
theorem Inv.after{Q:VK}{u:Value}(I:Inv X pins σ H s)(h:CE X.stack X.prog X.w H s Q u s'):EP X pins σ Q u s':=by
 obtain⟨v,H',os,bare,un,hok,r,q⟩:=h;obtain⟨hh,g,d,t,os'⟩:=s';obtain rfl:os'=s.os:=os;exact⟨v,H',I.call (h':=hh) (g':=g) (d':=d) (t':=t) (ch:=[]) un hok bare (fun b z=>absurd z (by simp)),r,q⟩
end
def a5l(sp:Sp)(dvs:List V)(E:XK)(t:TA):TE:=fun σ H Q=>t σ H fun vs H1=>sp (vs++dvs) H1 Q E
def a0j(K:Qq)(fd:FuncData)(ps:List Str)(ds:List Value):Prop:=
 ∀(s:Shared) (us:List Value),K.In s.heap->(us++ds).length=ps.length->BindsTo s fd ⟨us,[]⟩ (ps.zip (us++ds))
theorem a0j.all{K:Qq}{fd:FuncData}{ps:List Str}(h:∀us:List Value,us.length=ps.length->bindArgs fd ⟨us,[]⟩=pure (ps.zip us)):a0j K fd ps []:=fun s us _ hl=>by
 rw[Um]at hl ⊢;exact .of_eq (h us hl)
def a3M(CX:CXT)(X:Cx)(E:XK):Prop:=∀(pins:OX) (σ:St) (H:Hp) (s:Shared) (e:Value) (s':Shared),Inv X pins σ H s->CX X.stack H s E e s'->X.xe e s'
section
variable{X:Cx}{CX:CXT}{k:Nat}{f C:Addr}{fd:FuncData}{ps:List Str}{sp:Sp}{dvs:List V}{ds:List Value}{E:XK}{x m:Str}{p pos apos:Pos}{e o:Expr}{es:List Expr}{ta:TE}{t:TA}
theorem a6H{pins:OX}{σ:St}{H:Hp}{s:Shared}{Q:VK}{us:List Value}{vs:List V}(F:FnOk X.prog X.w X.K X.mg X.base CX k f fd ps sp)(hr:Room k X.A)(hb:a0j X.K fd ps ds)(hd:q5_ dvs ds)(hx:a3M CX X E)
  (I:Inv X pins σ H s)(r:q5_ vs us)(h:sp (vs++dvs) H Q E):wpAny (model X.prog X.w) X.A (call (.ref f) us) (EP X pins σ Q) X.xe s:=by
 have r2:q5_ (vs++dvs) (us++ds):=r.append hd
 have hl:(us++ds).length=ps.length:=by rw[←r2.length];exact F.len _ _ _ _ h
 refine wpAny_call (Vv (F.run X.A X.stack s H ⟨us,[]⟩ (us++ds) (vs++dvs) Q E hr I.env0 (hb s us I.kIn hl) r2 h) fun r s' hq=>?_)
 cases r with
 |error e=>exact hx pins σ H s e s' I hq
 |ok fl=>
  cases fl with
  |ret u=>exact I.after hq
  |next=>exact False.elim hq
  |brk=>exact False.elim hq
  |cont=>exact False.elim hq
theorem a6I(F:FnOk X.prog X.w X.K X.mg X.base CX k f fd ps sp)(hr:Room k X.A)(hg:Gl X x)(hm:X.mg x=some (.ref f))(hk:PySem.W.keepIn X.K (.ref f)=true)(hb:a0j X.K fd ps ds)(hd:q5_ dvs ds)(hx:a3M CX X E)
  (ha:PA X (e::es) t)(hdb:(x==("__debug__":Str))=false:=by decide)(he:starEach (e::es) X.env=(false,eval e X.env)::starEach es X.env:=by rfl)(hpl:(backTo pos (starEach es X.env)).any (·.1)=false:=by rfl):
  PE X (.Call (.Name x p) (e::es) [] pos) (a5l sp dvs E t):=by
 intro pins s σ H Q I h;refine Yo (a3I I hg hm ?_ hdb);refine PySem.W.callWith_K (h₀:=X.base) I.ok.mod.kin hk (thn (ha pos pins s σ H _ I h) fun us s1 ⟨vs,H1,I1,r,q⟩=>⟨I1.kIn,?_⟩) he hpl
 exact a6H F hr hb hd hx I1 r q
theorem b5n(F:FnOk X.prog X.w X.K X.mg X.base CX k f fd ps sp)(hr:Room k X.A)(hg:Gl X x)(hm:X.mg x=some (.ref f))(hk:PySem.W.keepIn X.K (.ref f)=true)(hb:a0j X.K fd ps ds)(hd:q5_ dvs ds)(hx:a3M CX X E)
  (hdb:(x==("__debug__":Str))=false:=by decide):PE X (.Call (.Name x p) [] [] pos) (a5l sp dvs E a6F):=by
 intro pins s σ H Q I h;refine Yo (a3I I hg hm ?_ hdb);exact PySem.W.callWith_K0 I.kIn hk (a6H (us:=[]) F hr hb hd hx I .nil h)
structure Mk(K:Qq)(C f:Addr):Prop where
 makes:PySem.W.makesIn K C=true
 init:PySem.W.findIn K (.ref C) "__init__"=some (some (.ref f))
 fn:PySem.W.isFn K (.ref f)=true
 kp:PySem.W.keepIn K (.ref C)=true
end
section
variable{X:Cx}{CX:CXT}{k:Nat}{f C:Addr}{fd:FuncData}{ps ks:List Str}{sp:Sp}{E:XK}{x m:Str}{p pos apos kpos:Pos}{e o:Expr}{es:List Expr}{kws:List Keyword}{te ta:TE}{t tk:TA}{nm:Option Str}
structure KBinds(K:Qq)(fd:FuncData)(ps ks:List Str)(g:List Value->List Value->List Value)(gV:List V->List V->List V):Prop where
 to:∀(s:Shared) (us ws:List Value),K.In s.heap->(g us ws).length=ps.length->BindsTo s fd ⟨us,ks.zip ws⟩ (ps.zip (g us ws))
 rel:∀{vs:List V}{us:List Value}{zs:List V}{ws:List Value},q5_ vs us->q5_ zs ws->q5_ (gV vs zs) (g us ws)
variable{g:List Value->List Value->List Value}{gV:List V->List V->List V}
end
structure FnScope(N P:List Str)(sc:Scope):Prop where
 kind:sc.kind=.function
 co:sc.isCoroutine=false
 gen:sc.isGenerator=false
 nd:N.Nodup
 pre:N.take P.length=P
 par:∀x∈P,sc.names.lookup x=some .local∨sc.names.lookup x=some .cell
 nofree:∀y∈sc.names,y.2≠.free
theorem a9U{kindOf:Str->Option NameKind}{x:Str}:∀{binds:List (Str×Value)}{m:OU},(∀v,(x,v)∉binds)->bindL kindOf binds m x=m x
 |[],_,_=>rfl
 |(n,v)::r,m,h=>by
  unfold bindL;rw[a9U fun w hw=>h w (Yw _ hw)]
  split
  ·have:x≠n:=by rintro rfl;exact h v Yx
   simp[this]
  ·rfl
theorem a9V{kindOf:Str->Option NameKind}{x:Str}:∀{binds:List (Str×Value)}{m:OU},(∀v,(x,v)∉binds)->bindC kindOf binds m x=m x
 |[],_,_=>rfl
 |(n,v)::r,m,h=>by
  unfold bindC;rw[a9V fun w hw=>h w (Yw _ hw)]
  split
  ·rfl
  ·have:x≠n:=by rintro rfl;exact h v Yx
   simp[this]
theorem a9W{kindOf:Str->Option NameKind}{x:Str}{v:Value}:∀{P:List Str}{vs:List Value}{i:Nat}{m:OU},P.Nodup->P[i]? =some x->vs[i]? =some v->kindOf x=some .local->
  bindL kindOf (P.zip vs) m x=some v
 |[],_,_,_,_,h,_,_=>by simp at h
 |_::_,[],_,_,_,_,h,_=>by simp at h
 |p::P,w::vs,0,m,nd,h1,h2,hk=>by
  simp at h1 h2;subst h1;subst h2
  show bindL kindOf ((p,w)::P.zip vs) m p=_;unfold bindL;rw[a9U fun v hv=>(Vw.mp nd).1 (Vy hv).1,Qc hk]
  simp
 |p::P,w::vs,i+1,m,nd,h1,h2,hk=>by
  show bindL kindOf ((p,w)::P.zip vs) m x=_;unfold bindL;exact a9W (i:=i) (Vw.mp nd).2 (by simpa using h1) (by simpa using h2) hk
theorem a9X{kindOf:Str->Option NameKind}{x:Str}{v:Value}:∀{P:List Str}{vs:List Value}{i:Nat}{m:OU},P.Nodup->P[i]? =some x->vs[i]? =some v->kindOf x≠some .local->
  bindC kindOf (P.zip vs) m x=some v
 |[],_,_,_,_,h,_,_=>by simp at h
 |_::_,[],_,_,_,_,h,_=>by simp at h
 |p::P,w::vs,0,m,nd,h1,h2,hk=>by
  simp at h1 h2;subst h1;subst h2
  show bindC kindOf ((p,w)::P.zip vs) m p=_;unfold bindC;rw[a9V fun v hv=>(Vw.mp nd).1 (Vy hv).1,Ql hk]
  simp
 |p::P,w::vs,i+1,m,nd,h1,h2,hk=>by
  show bindC kindOf ((p,w)::P.zip vs) m x=_;unfold bindC;exact a9X (i:=i) (Vw.mp nd).2 (by simpa using h1) (by simpa using h2) hk
def start(N:List Str)(vs:List V):St:=vs.map some++List.replicate (N.length-vs.length) none
def j5_(CX:CXT)(P:Program)(w:World)(K:Qq)(mg:OU)(base:Heap)(N:List Str)(qual:Str)(scope:Scope)(f:Addr)(cd:Value)(A:Around)(outer:List Env)(s:Shared)(H:Hp)(E:XK):Cx where
 prog:=P
 w:=w
 K:=K
 mg:=mg
 base:=base
 A:=A.deeper (envOfC qual scope s.heap.objs.size f cd)
 N:=N
 s₀:=s
 H₀:=H
 env:=envOfC qual scope s.heap.objs.size f cd
 outer:=outer
 stack:=envOfC qual scope s.heap.objs.size f cd::outer
 ex:=[]
 calm:=true
 fn:=fun _=>true
 pn:=[]
 xe:=fun e s'=>wpAny (model P w) (A.deeper (envOfC qual scope s.heap.objs.size f cd)) (leaving (envOfC qual scope s.heap.objs.size f cd) e) (fun _ s''=>CX outer H s E e s'') (fun e' s''=>CX outer H s E e' s'') s'
theorem a9Y{sc:Scope}{n:Nat}{x:Str}(h:sc.names.lookup x=some .cell):∃c,(cellsFrom n sc.names []).lookup x=some c:=by
 have q:=Uj sc.names n [] (.inl h)
 exact Yz.mp q
theorem a9Z{CX:CXT}{P:Program}{w:World}{K:Qq}{mg:OU}{base:Heap}{N ps:List Str}{qual:Str}{scope:Scope}{f:Addr}{cd:Value}{A:Around}{outer:List Env}{s s1:Shared}{H:Hp}{E:XK}{us:List Value}{vs:List V}
  (S:FnScope N ps scope)(hd:A.handled=none)(e0:Env0 P w K mg base A outer s H)(hl:vs.length=ps.length)(r:q5_ vs us)
  (x:InCallC s s.heap.objs.size (bindL (envOfC qual scope s.heap.objs.size f cd).kindOf (ps.zip us) fun _=>none) (cellsFrom (s.heap.objs.size+1) scope.names []) (bindC (envOfC qual scope s.heap.objs.size f cd).kindOf (ps.zip us) fun _=>none) s1):
  Inv (j5_ CX P w K mg base N qual scope f cd A outer s H E) [] (start N vs) H s1:=by
 have hpl:ps.length≤N.length:=by have:=Jf List.length S.pre;rw[Yr]at this;omega
 obtain⟨h1,tk,rfl,hk⟩:=x.done;have noA:∀b:Addr,b∉(j5_ CX P w K mg base N qual scope f cd A outer s H E).ex:=fun b z=>absurd (show b∈([]:List Addr)from z) (by simp)
 refine⟨⟨e0.mod,S.kind,rfl,rfl,Qb _,fun y z c h1 h2=>?_,fun y hy=>?_,fun y c _ h=>?_,fun _=>hd,Around.frames_deeper e0.frames,.inr ⟨rfl,rfl⟩,fun b z=>absurd z (noA b),e0.bs,e0.bsz,fun b _ _=>noA b,fun b z=>absurd z (noA b),e0.funs,e0.frf⟩,
  rfl,e0.bare,Un.kept hk,⟨_,x.toInCall.ns,fun i y v h1 h2 h3=>?_⟩,fun y c h=>⟨_,x.cell y c h⟩,e0.hok.fresh (Qb _),fun y c h=>?_,fun p hp=>absurd (show p∈([]:OX)from hp) (by simp),e0.hok.kept hk,?_⟩
 ·exact name_of_addr x.apart (Qt h1) (Qt h2)
 ·have hy:scope.names.lookup y=some .cell∨scope.names.lookup y=some .free:=hy
  rcases hy with hy|hy
  ·exact a9Y hy
  ·exact absurd rfl (S.nofree _ (Qt hy))
 ·exact Jj (x.above y c (Qt h))
 ·have hi:i<vs.length:=by
   unfold start at h2
   by_cases hi:i<vs.length
   ·exact hi
   ·rw[List.getElem?_append_right (by simpa using hi)]at h2
    rw[Jv]at h2;split at h2<;>cases h2
  have ha:vs[i]? =some v:=by
   unfold start at h2;rw[Jz (by simpa using hi),Yu]at h2
   cases e:vs[i]? with
   |none=>rw[e]at h2;cases h2
   |some a=>rw[e]at h2;cases h2;rfl
  obtain⟨u,hu,rv⟩:=r.get ha;have hp:ps[i]? =some y:=by
   rw[←S.pre,List.getElem?_take_of_lt (by omega)];exact h1
  have ndP:ps.Nodup:=by rw[←S.pre];exact S.nd.sublist (List.take_sublist _ _)
  refine⟨u,rv,?_⟩
  rcases S.par y (Jc hp)with k|k
  ·exact .inl ⟨k,a9W ndP hp hu k⟩
  ·obtain⟨c,e⟩:=a9Y (n:=s.heap.objs.size+1) k
   refine .inr ⟨.inl k,c,e,?_⟩;have q:=x.cell y c e;rw[a9X ndP hp hu (by show scope.names.lookup y≠_;rw[k];decide)]at q
   exact q
 ·exact e0.hok.fresh (Jj (x.above y c (Qt h)))
 ·unfold start
  show _=N.length;rw[Zq,Qk,Zc]
  omega
theorem a6J{CX:CXT}{P:Program}{w:World}{K:Qq}{mg:OU}{base:Heap}{k:Nat}{f:Addr}{name qual:Str}{params:Arguments}{body:List Stmt}{scope:Scope}{dV kV doc pm cdv ct oc:Value}{an od:Option Addr}
  {osl:Array (Option Value)}{N ps:List Str}{sp:Sp}(lk:K.lookup f=some ⟨oc,od,.func (PySem.W.fnOf name qual params body scope dV kV doc pm an cdv ct),osl⟩)(hcd:PySem.W.codeIn K cdv qual=true)(S:FnScope N ps scope)
  (len:∀vs H Q E,sp vs H Q E->vs.length=ps.length)
  (hbody:∀(A:Around) (outer:List Env) (s:Shared) (H:Hp) (vs:List V) (Q:VK) (E:XK),Room k (A.deeper (envOfC qual scope s.heap.objs.size f cdv))->sp vs H Q E->
   ∃t,PSs (j5_ CX P w K mg base N qual scope f cdv A outer s H E) body t/\t {nx:=fun _ H'=>Q .non H',rt:=Q} (start N vs) H):
  FnOk P w K mg base CX (k+1) f (PySem.W.fnOf name qual params body scope dV kV doc pm an cdv ct) ps sp:=by
 refine⟨len,fun A outer s H args us vs Q E hr e0 hb r hsp=>?_⟩
 have hl:=len _ _ _ _ hsp
 have KX:K.In s.heap:=e0.mod.kin.keeps fun b o e=>(e0.bs b o e).1
 have lim:s.heap.NoLimit:=e0.mod.nolimit.keeps fun b o e=>(e0.bs b o e).1
 have hkind:∀y∈ps.zip us,scope.names.lookup y.1=some .local∨(scope.names.lookup y.1=some .cell/\((cellsFrom (s.heap.objs.size+1) scope.names []).lookup y.1).isSome=true):=fun⟨n,v⟩ hy=>by
  rcases S.par n (Vy hy).1 with q|q
  ·exact .inl q
  ·exact .inr ⟨q,Uj _ _ _ (.inl q)⟩
 refine codeAny_call_function hr.depth (KX _ _ lk) rfl S.co S.gen rfl (PySem.W.codeRec_of KX hcd) (hb _ _ _ _ ?_);refine wpAny_newFunctionEnv_cells S.kind hkind fun env he s1 x=>?_
 subst he;refine⟨lim.keeps x.toInCall.keep,codeAny_func ?_⟩;obtain⟨t,ht,hq⟩:=hbody A outer s H vs Q E (hr.deeper _) hsp;have I:Inv (j5_ CX P w K mg base N qual scope f cdv A outer s H E) [] (start N vs) H s1:=a9Z S hr.hd e0 hl r x;refine Zv (ht [] s1 (start N vs) H _ I hq) (fun fl s' hs=>?_) fun e s' hs=>hs
 have fin:∀{σ':St}{H':Hp}{v:V}{u:Value},Inv (j5_ CX P w K mg base N qual scope f cdv A outer s H E) [] σ' H' s'->v4_ v u->Q v H'->CE outer P w H s Q u s':=
  fun{σ' H' v u} J rv q=>⟨v,H',J.os,J.bare,J.base,J.hok,rv,q⟩
 cases fl with
 |ret u=>
  obtain⟨v,σ',H',J,rv,q⟩:=hs;exact fin J rv q
 |next=>
  obtain⟨σ',H',J,q⟩:=hs;exact fin (v:=V.non) (u:=Value.none) J rfl q
 |brk=>
  obtain⟨_,_,_,q⟩:=hs;exact False.elim q
 |cont=>
  obtain⟨_,_,_,q⟩:=hs;exact False.elim q
section
variable{X:Cx}{x:Str}{p pos:Pos}{e:Expr}{es:List Expr}{t:TA}{id T:String}{r:List V->Hp->VK->Prop}
def tCB(r:List V->Hp->VK->Prop)(t:TA):TE:=fun σ H Q=>t σ H fun vs H1=>r vs H1 Q
theorem a3N(hc:w1_ X (.builtin id) r)(hg:Gl X x)(hm:X.mg x=none)(hv:bootBuiltins x=some (.builtin id))(ha:PA X (e::es) t)(hn:x≠"__name__":=by decide)(hdb:(x==("__debug__":Str))=false:=by decide)
  (he:starEach (e::es) X.env=(false,eval e X.env)::starEach es X.env:=by rfl)(hpl:(backTo pos (starEach es X.env)).any (·.1)=false:=by rfl):PE X (.Call (.Name x p) (e::es) [] pos) (tCB r t):=by
 intro pins s σ H Q I h;refine Yo (a4s I hg hm hv ?_ hn hdb);exact PyProof.Rows.callWith_builtin1 (thn (ha pos pins s σ H _ I h) fun us s1 ⟨vs,H1,I1,r1,q1⟩=>hc pins s1 σ H1 vs us Q I1 r1 q1) he hpl
theorem b0a(hc:w1_ X (.type T) r)(hg:Gl X x)(hm:X.mg x=none)(hv:bootBuiltins x=some (.type T))(ha:PA X (e::es) t)(hn:x≠"__name__":=by decide)(hdb:(x==("__debug__":Str))=false:=by decide)
  (he:starEach (e::es) X.env=(false,eval e X.env)::starEach es X.env:=by rfl)(hpl:(backTo pos (starEach es X.env)).any (·.1)=false:=by rfl):PE X (.Call (.Name x p) (e::es) [] pos) (tCB r t):=by
 intro pins s σ H Q I h;refine Yo (a4s I hg hm hv ?_ hn hdb);exact Uw (thn (ha pos pins s σ H _ I h) fun us s1 ⟨vs,H1,I1,r1,q1⟩=>hc pins s1 σ H1 vs us Q I1 r1 q1) he hpl
end
end L2
namespace HT
open PySem PyProof.Rows
def lexLt:List Int->List Int->Bool
 |[],[]=>false
 |[],_::_=>true
 |_::_,[]=>false
 |x::xs,y::ys=>if x=y then lexLt xs ys else decide (x<y)
theorem lexLt_cons(x y:Int)(xs ys:List Int):lexLt (x::xs) (y::ys)=if x=y then lexLt xs ys else decide (x<y):=rfl
section
open PySem.SeqAt
open PySem.AutoSeq1 (wpAny_loadPart')
open PySem.MeetsSeq PySem.MeetsSeq2 PySem.MeetsSeq3
end
section
variable{prog:Program}{w:World}{A:Around}{E:OE}{s:Shared}
def sIx(n d:Nat):Option Int->Nat
 |none=>d
 |some v=>if v<0 then(v+(n:Int)).toNat else min v.toNat n
theorem sIx_le(n d:Nat)(hd:d≤n)(o:Option Int):sIx n d o≤n:=by
 cases o with
 |none=>exact hd
 |some v=>
  show(if v<0 then(v+(n:Int)).toNat else min v.toNat n)≤n
  by_cases hv:v<0
  ·rw[Qc hv];omega
  ·rw[Ql hv];exact Xq _ _
theorem clip_eq(v:Int)(n d:Nat):(if v<0 then max (v+(n:Int)) 0 else min v (n:Int))=((sIx n d (some v):Nat):Int):=by
 show(if v<0 then max (v+(n:Int)) 0 else min v (n:Int))=(((if v<0 then(v+(n:Int)).toNat else min v.toNat n):Nat):Int)
 by_cases hv:v<0
 ·simp only[Qc hv];omega
 ·simp only[Ql hv];omega
theorem adjust_gen(lo hi:Option Int)(n:Nat):Builtin.Slice.sliceAdjust lo hi 1 (n:Int)=(((sIx n 0 lo:Nat):Int),((sIx n n hi:Nat):Int)):=by
 have h1:¬ ((1:Int)<0):=by omega
 unfold Builtin.Slice.sliceAdjust;simp only[h1,Jx];refine Js ?_ ?_
 ·cases lo with
  |none=>rfl
  |some v=>exact clip_eq v n 0
 ·cases hi with
  |none=>rfl
  |some v=>exact clip_eq v n n
theorem places_gen(i j:Nat):Builtin.Slice.slicePlaces (i:Int) (j:Int) 1=j-i:=by
 unfold Builtin.Slice.slicePlaces;have h1:(1:Int)>0:=by omega
 simp only[h1,Zs,Int.ediv_one];split<;>omega
theorem slicePart_{v:Value}{o:Option Int}{Q:Option Int->Shared->Prop}(p:IsPart v o)(h:Q o s):wpAny (model prog w) A (Builtin.Slice.slicePartIndex v) Q E s:=by
 cases p with
 |none=>exact slicePart_none h
 |int i t=>exact slicePart_int h
theorem sliceApplied_gen{sl:Addr}{vl vu:Value}{lo hi:Option Int}{n:Nat}{Q:Int×Int×Nat->Shared->Prop}(hs:s.heap.IsSliceOf sl vl vu .none)(pl:IsPart vl lo)(pu:IsPart vu hi)
  (h:Q (((sIx n 0 lo:Nat):Int),1,sIx n n hi-sIx n 0 lo) s):wpAny (model prog w) A (Builtin.Slice.sliceApplied (.ref sl) (pure (n:Int))) Q E s:=by
 obtain⟨os,hos,hcs,hds⟩:=id hs;unfold Builtin.Slice.sliceApplied Builtin.Slice.sliceFields;refine Qz (Qz (Zf hos hds (x:=vl) rfl (Qz (Zf hos hds (x:=vu) rfl (Qz (Zf hos hds (x:=.none) rfl (Qv ?_)))))));refine Qz (slicePart_none ?_);show wpAny _ _ (if((1:Int)==0)=true then _ else _) _ _ s
 rw[Ql (by decide)]
 refine Qz (slicePart_ pl (Qz (slicePart_ pu (Qz (Qv ?_)))));show wpAny _ _ (match Builtin.Slice.sliceAdjust lo hi 1 (n:Int)with|(lo,hi)=>pure (lo,(1:Int),Builtin.Slice.slicePlaces lo hi 1)) _ _ s
 rw[adjust_gen lo hi n];show wpAny _ _ (pure (((sIx n 0 lo:Nat):Int),(1:Int),Builtin.Slice.slicePlaces ((sIx n 0 lo:Nat):Int) ((sIx n n hi:Nat):Int) 1)) _ _ s;rw[places_gen];exact Qv h
theorem pick_gen(xs:Array Value)(i k:Nat):((List.range k).filterMap fun(m:Nat)=>xs[((i:Int)+(m:Int) * 1).toNat]?).toArray=((xs.toList.drop i).take k).toArray:=by
 have e:(fun(m:Nat)=>xs[((i:Int)+(m:Int) * 1).toNat]?)=fun m=>xs[i+m]?:=by
  funext m
  have:((i:Int)+(m:Int) * 1).toNat=i+m:=by omega
  rw[this]
 rw[e];have:=pick_run xs i k;rw[List.filterMap_map]at this;have e2:((fun x=>xs[x]?)∘fun x=>i+x)=fun m=>xs[i+m]?:=rfl
 rw[e2]at this;rw[this]
theorem getItem_tuple_cut{t sl:Addr}{items:Array Value}{vl vu:Value}{lo hi:Option Int}{Q:OE}(ht:IsTup s.heap t items)(hs:s.heap.IsSliceOf sl vl vu .none)(pl:IsPart vl lo)(pu:IsPart vu hi)
  (hw:¬ (sIx items.size 0 lo=0/\sIx items.size items.size hi=items.size))
  (h:Q (.ref s.heap.objs.size) {s with heap:=s.heap.push {cls:=.type "tuple",data:=.seq ((items.toList.drop (sIx items.size 0 lo)).take (sIx items.size items.size hi-sIx items.size 0 lo)).toArray}})
  (hsz:items.size≤sizeLine):wpAny (model prog w) A (getItem (.ref t) (.ref sl)) Q E s:=by
 have htake:sizeOk (.seq ((items.toList.drop (sIx items.size 0 lo)).take (sIx items.size items.size hi-sIx items.size 0 lo)).toArray):=by
  show((items.toList.drop (sIx items.size 0 lo)).take (sIx items.size items.size hi-sIx items.size 0 lo)).toArray.size≤sizeLine;rw[Qp,Yr,Xz,Vg]
  omega
 have hj:sIx items.size items.size hi≤items.size:=sIx_le _ _ (Qb _) hi
 obtain⟨os,hos,hcs,hds⟩:=id hs;have hTs:s.TypeIs (.ref sl) "slice":=⟨os,hos,hcs⟩;unfold getItem
 try with_reducible refine Jh ?_
 first|refine Qz (Qv ?_)|skip
 refine Qz (wpAny_sequenceKey ht.typeIs (by decide) ?_)
 refine Qz (Yv (name:=Str.ofString "__getitem__") ht.typeIs Qe
  (Ys Qe ht.typeIs entry_tuple_getitem ?_ (args_tuple_getitem _ _)))
 show wpAny _ _ (Builtin.Tuple.tupleItemsOf (.ref t)>>=_) _ _ s;refine Qz (tupleItemsOf_ ht ?_);refine Qz (wpAny_typeOf hTs ?_);rw[Qc (by decide)]
 refine Qz (sliceApplied_gen hs pl pu ?_);have hno:¬ ((((sIx items.size 0 lo:Nat):Int)==0&&(1:Int)==1&&(sIx items.size items.size hi-sIx items.size 0 lo)==items.size)=true):=by
  intro q;rw[Qy,Qy]at q;have q1:((sIx items.size 0 lo:Nat):Int)=0:=eq_of_beq q.1.1;have q2:sIx items.size items.size hi-sIx items.size 0 lo=items.size:=eq_of_beq q.2;exact hw ⟨by omega,by omega⟩
 show wpAny _ _ (if(((sIx items.size 0 lo:Nat):Int)==0&&(1:Int)==1&&(sIx items.size items.size hi-sIx items.size 0 lo)==items.size)=true then _ else _) _ _ s
 rw[Ql hno,pick_gen]
 first
  |exact Qz (m:=Builtin.Tuple.tupleExact _) (Zl (Qv ⟨_,rfl,Qv h⟩) htake)
  |exact Qz (m:=Builtin.Tuple.tupleExact _) (Zl (Qz (Qv (Qv ⟨_,rfl,Qv h⟩))) htake)
  |exact Qz (Qz (m:=Builtin.Tuple.tupleExact _) (Zl (Qv (Qv ⟨_,rfl,Qv h⟩)) htake))
  |exact Qz (Qz (m:=Builtin.Tuple.tupleExact _) (Zl (Qv ⟨_,rfl,Qv h⟩) htake))
end
end HT
namespace L2
open PySem PySem.Spec PyProof.Rows
abbrev TO:=St->Hp->(Option Int->Hp->Prop)->Prop
def PO(X:Cx)(e:Option Expr)(t:TO):Prop:=
 ∀(pins:OX) (s:Shared) (σ:St) (H:Hp) (Q:Option Int->Hp->Prop),Inv X pins σ H s->t σ H Q->
  wpAny (model X.prog X.w) X.A (evalPart e X.env) (fun u s'=>∃o H',Inv X pins σ H' s'/\IsPart u o/\Q o H') X.xe s
def b5o:TO:=fun _ H Q=>Q none H
def b5p(t:TE):TO:=fun σ H Q=>t σ H fun x H1=>∃i,x=.int i/\Q (some i) H1
theorem a6K{ns:List Int}:∀{us:List Value},q5_ (ns.map V.int) us->IntsAre us ns:=by
 induction ns with
 |nil=>intro us r;rw[List.map_nil]at r;cases r;exact .nil
 |cons n ns ih=>
  intro us r;rw[Qs]at r;cases r with
  |cons r1 r2=>
   obtain⟨t,e⟩:=r1;subst e;exact .cons n t (ih r2)
section
variable{X:Cx}{e:Expr}{te:TE}{lo hi:Option Expr}{tl th:TO}{pos p2:Pos}
theorem b5q:PO X none b5o:=by
 intro pins s σ H Q I h;rw[evalPart_none];exact Qv ⟨none,H,I,.none,h⟩
theorem b5r(h:PE X e te):PO X (some e) (b5p te):=by
 intro pins s σ H Q I hw;rw[evalPart_some];refine thn (h pins s σ H _ I hw) fun u s1 ⟨x,H1,I1,r1,q1⟩=>?_
 obtain⟨i,rfl,q⟩:=q1;obtain⟨t,rfl⟩:=r1;exact⟨some i,H1,I1,.int i t,q⟩
def SlR(X:Cx)(r:V->Option Int->Option Int->Hp->VK->Prop):Prop:=
 ∀(pins:OX) (s:Shared) (σ:St) (H:Hp) (x:V) (v vl vu:Value) (lo hi:Option Int) (sl:Addr) (Q:VK),Inv X pins σ H s->v4_ x v->s.heap.IsSliceOf sl vl vu .none->IsPart vl lo->IsPart vu hi->r x lo hi H Q->
  ∃T id,typeLookup (.type T) "__getitem__"=pure (some (.builtin id))/\s.TypeIs v T/\wpAny (model X.prog X.w) X.A (getItem v (.ref sl)) (EP X pins σ Q) X.xe s
theorem SlR.or{r r':V->Option Int->Option Int->Hp->VK->Prop}(h:SlR X r)(h':SlR X r'):SlR X (fun x lo hi H Q=>r x lo hi H Q∨r' x lo hi H Q):=by
 intro pins s σ H x v vl vu lo hi sl Q I rx hs pl pu q
 rcases q with q|q
 ·exact h pins s σ H x v vl vu lo hi sl Q I rx hs pl pu q
 ·exact h' pins s σ H x v vl vu lo hi sl Q I rx hs pl pu q
def tSl(r:V->Option Int->Option Int->Hp->VK->Prop)(te:TE)(tl th:TO):TE:=fun σ H Q=>te σ H fun x H1=>tl σ H1 fun l H2=>th σ H2 fun u H3=>r x l u H3 Q
theorem b0b{r:V->Option Int->Option Int->Hp->VK->Prop}(hr:SlR X r)(he:PE X e te)(hl:PO X lo tl)(hu:PO X hi th):PE X (.Subscript e (.Slice lo hi none p2) pos) (tSl r te tl th):=by
 intro pins s σ H Q I h;refine Subscript_ (thn (he pins s σ H _ I h) fun v s1 ⟨x,H1,I1,r1,q1⟩=>?_)
 refine wpAny_Slice (thn (hl pins s1 σ H1 _ I1 q1) fun vl s2 ⟨l,H2,I2,pl,q2⟩=>thn (hu pins s2 σ H2 _ I2 q2) fun vu s3 ⟨u,H3,I3,pu,q3⟩=>?_)
 rw[evalPart_none];refine Qv ?_
 have I4:Inv X pins σ H3 {s3 with heap:=s3.heap.push {cls:=.type "slice",data:=.fields #[vl,vu,.none]}}:=I3.kept (t':=s3.toks) fun b ob q=>Qj _ q
 obtain⟨T,id,hT,ht,hg⟩:=hr pins {s3 with heap:=s3.heap.push {cls:=.type "slice",data:=.fields #[vl,vu,.none]}} σ H3 x v vl vu l u s3.heap.objs.size Q I4 r1 (Heap.IsSliceOf.new ..) pl pu q3
 show wpAny (model X.prog X.w) X.A (subscriptTail e (.Slice lo hi none p2) v (.ref s3.heap.objs.size)) (EP X pins σ Q) X.xe {s3 with heap:=s3.heap.push {cls:=.type "slice",data:=.fields #[vl,vu,.none]}}
 exact tail_any (ops:=[.ref s3.heap.objs.size,v]) ht hT hg (by with_unfolding_all rfl)
def a1N(xs:List V)(lo hi:Option Int):List V:=(xs.drop (HT.sIx xs.length 0 lo)).take (HT.sIx xs.length xs.length hi-HT.sIx xs.length 0 lo)
theorem b0c(xs:List V)(lo hi:Option Int):(a1N xs lo hi).length≤xs.length:=by
 unfold a1N;rw[Yr,Xz]
 omega
def b5s(K:Qq):V->Option Int->Option Int->Hp->VK->Prop:=fun x lo hi H Q=>∃a xs,x=.ref a/\SqT K H a xs/\
 ¬ (HT.sIx xs.length 0 lo=0/\HT.sIx xs.length xs.length hi=xs.length)/\∀p,H p=none->Q (.ref p) (upd H p (.tup (a1N xs lo hi)))
theorem b0d:SlR X (b5s X.K):=by
 intro pins s σ H x v vl vu lo hi sl Q I rx hs pl pu h;obtain⟨a,xs,rfl,hx,hw,q⟩:=h;cases rx;obtain⟨its,r,ht,hz⟩:=I.tuple hx;have hlen:its.toArray.size=xs.length:=by rw[Qp];exact r.length.symm
 refine⟨"tuple",_,Qe.lookup,ht.typeIs,?_⟩;refine HT.getItem_tuple_cut ht hs pl pu (by rw[hlen];exact hw) ?_ (by rw[hlen];exact hz)
 rw[hlen];refine⟨.ref s.heap.objs.size,_,I.laid (t':=s.toks) (o:=.tup (a1N xs lo hi)) (fun b ob q=>Qj _ q) (Qb _) ?_,rfl,q _ (I.hok.fresh (Qb _))⟩
 exact⟨Qo (b0c xs lo hi) hz,_,(r.drop (HT.sIx xs.length 0 lo)).take (HT.sIx xs.length xs.length hi-HT.sIx xs.length 0 lo),a0A.new _ _⟩
theorem q5_.nil_iff{xs:List V}{us:List Value}(r:q5_ xs us):us=[]↔xs=[]:=by
 cases r with
 |nil=>simp
 |cons _ _=>simp
end
def ixN(n:Nat)(i:Int):Option Nat:=if 0≤i then(if i<n then some i.toNat else none)else if-(n:Int)≤i then some (i+n).toNat else none
def atI{α:Type}(xs:List α)(i:Int):Option α:=(ixN xs.length i).bind fun j=>xs[j]?
theorem b0e{n:Nat}{i:Int}{j:Nat}(h:ixN n i=some j):seqIndex? i n=some j/\j<n/\ -(n:Int)≤i/\i<n:=by
 unfold ixN at h
 by_cases h0:0≤i
 ·rw[Qc h0]at h
  by_cases h1:i<n
  ·rw[Qc h1]at h
   have e:i.toNat=j:=Yj h
   exact⟨by rw[seqIndex_of h0 h1,e],by omega,by omega,h1⟩
  ·rw[Ql h1]at h;cases h
 ·rw[Ql h0]at h
  by_cases h1: -(n:Int)≤i
  ·rw[Qc h1]at h
   have e:(i+n).toNat=j:=Yj h
   exact⟨by rw[seqIndex_neg (by omega) h1,e],by omega,h1,by omega⟩
  ·rw[Ql h1]at h;cases h
theorem a6L{α:Type}{xs:List α}{i:Int}{v:α}(h:atI xs i=some v):∃j,seqIndex? i xs.length=some j/\xs[j]? =some v/\j<xs.length/\ -(xs.length:Int)≤i/\i<xs.length:=by
 unfold atI at h;cases e:ixN xs.length i with
 |none=>rw[e]at h;cases h
 |some j=>
  rw[e]at h;obtain⟨h1,h2,h3,h4⟩:=b0e e;exact⟨j,h1,h,h2,h3,h4⟩
theorem a1f{α:Type}{xs:List α}{j:Nat}{v:α}(h:xs[j]? =some v):atI xs (j:Int)=some v:=by
 have hj:j<xs.length:=(Qg.mp h).1
 have e:ixN xs.length (j:Int)=some j:=by
  unfold ixN;rw[Qc (by omega),Qc (by omega)];simp
 unfold atI;rw[e];exact h
def a4u(b:Expr):Prop:=∀o i,subscripted b false o i=operate [o,i] (getItem o i)
def IxR(X:Cx)(r:R2):Prop:=
 ∀(value slice:Expr) (pins:OX) (s:Shared) (σ:St) (H:Hp) (x y:V) (v u:Value) (Q:VK),Inv X pins σ H s->v4_ x v->v4_ y u->r x y H Q->
  subscripted slice false v u=operate [v,u] (getItem v u)->wpAny (model X.prog X.w) X.A (subscriptTail value slice v u) (EP X pins σ Q) X.xe s
def MtR(X:Cx)(id:String)(r:V->List V->Hp->VK->Prop):Prop:=
 ∀(pins:OX) (s:Shared) (σ:St) (H:Hp) (x:V) (xs:List V) (v:Value) (us:List Value) (Q:VK),Inv X pins σ H s->v4_ x v->q5_ xs us->r x xs H Q->
  wpAny (model X.prog X.w) X.A (call (.builtin id) (v::us)) (EP X pins σ Q) X.xe s
section
variable{X:Cx}{a b:Expr}{ta tb:TE}{pos:Pos}
theorem IxR.or{r r':R2}(h:IxR X r)(h':IxR X r'):IxR X (fun x y H Q=>r x y H Q∨r' x y H Q):=by
 intro value slice pins s σ H x y v u Q I rx ry q hs
 rcases q with q|q
 ·exact h value slice pins s σ H x y v u Q I rx ry q hs
 ·exact h' value slice pins s σ H x y v u Q I rx ry q hs
theorem MtR.or{id:String}{r r':V->List V->Hp->VK->Prop}(h:MtR X id r)(h':MtR X id r'):MtR X id (fun x xs H Q=>r x xs H Q∨r' x xs H Q):=by
 intro pins s σ H x xs v us Q I rx rs q
 rcases q with q|q
 ·exact h pins s σ H x xs v us Q I rx rs q
 ·exact h' pins s σ H x xs v us Q I rx rs q
theorem a6M{r:R2}(hr:IxR X r)(ha:PE X a ta)(hb:PE X b tb)(hs:a4u b):PE X (.Subscript a b pos) (tOp r ta tb):=by
 intro pins s σ H Q I h;exact Subscript_ (a6y ha hb I h fun v u s2 x y H2 I2 rx ry q=>hr a b pins s2 σ H2 x y v u Q I2 rx ry q (hs _ _))
def b0f(K:Qq):R2:=fun x y H Q=>∃p xs i v,x=.ref p/\y=.int i/\SqL K H p xs/\atI xs i=some v/\Q v H
def b0g(K:Qq):R2:=fun x y H Q=>∃p xs i v,x=.ref p/\y=.int i/\SqT K H p xs/\atI xs i=some v/\Q v H
def a6N:R2:=fun x y H Q=>∃z i c,x=.str z/\y=.int i/\z.length≤sizeLine/\atI z.cps.toList i=some c/\Q (.str ⟨#[c]⟩) H
theorem b0h:IxR X (b0f X.K):=by
 intro value slice pins s σ H x y v u Q I rx ry h hs;obtain⟨p,xs,i,z,rfl,rfl,hq,he,q⟩:=h;cases rx;obtain⟨t,rfl⟩:=ry;obtain⟨its,r,pl,hz⟩:=I.list hq;obtain⟨j,h1,h2,h3,h4,h5⟩:=a6L he;obtain⟨w,ew,rw'⟩:=r.get h2;have hl:=r.length;have hn:=a3K;have fin:EP X pins σ Q w s:=⟨z,H,I,rw',q⟩
 by_cases h0:0≤i
 ·have hj:i.toNat=j:=by
   rw[seqIndex_of h0 h5]at h1;exact Yj h1
  exact item_listR pl.isList h0 (by omega) (by rw[hj];simpa using ew) fin hs
 ·have hj:(i+(its.toArray.size:Int)).toNat=j:=by
   rw[seqIndex_neg (by omega) h4]at h1
   rw[Qp,←hl];exact Yj h1
  exact subscriptTail_builtinR (x:=w) pl.isList.typeIs slot_list_getitem.lookup
   (wpAny_getItem_list_neg (Q:=fun r s'=>r=w/\EP X pins σ Q r s') pl.isList (by omega) (by rw[Qp]<;>omega) (by omega) (by rw[hj];simpa using ew) ⟨rfl,fin⟩) hs
theorem b5t:IxR X (b0g X.K):=by
 intro value slice pins s σ H x y v u Q I rx ry h hs;obtain⟨p,xs,i,z,rfl,rfl,hq,he,q⟩:=h;cases rx;obtain⟨t,rfl⟩:=ry;obtain⟨its,r,pl,hz⟩:=I.tuple hq;obtain⟨j,h1,h2,h3,h4,h5⟩:=a6L he;obtain⟨w,ew,rw'⟩:=r.get h2;have hl:=r.length;have hn:=a3K;have fin:EP X pins σ Q w s:=⟨z,H,I,rw',q⟩;exact subscriptTail_builtinR (x:=w) pl.typeIs slot_tuple_getitem.lookup
  (getItem_tuple (j:=j) (Q:=fun r s'=>r=w/\EP X pins σ Q r s') pl (by omega) (by omega) (by rw[Qp,←hl];exact h1) (by simpa using ew) ⟨rfl,fin⟩) hs
theorem b0i:IxR X a6N:=by
 intro value slice pins s σ H x y v u Q I rx ry h hs;obtain⟨z,i,c,rfl,rfl,hz,he,q⟩:=h;obtain⟨t,rfl⟩:=rx;obtain⟨t',rfl⟩:=ry;obtain⟨j,h1,h2,h3,h4,h5⟩:=a6L he;have hl:z.cps.toList.length=z.length:=by simp[Str.length]
 rw[hl]at h1 h4 h5;have hn:=a3K;exact tail_any (typeIs_str s z t) slot_str_getitem.lookup (getItem_str (c:=c) (by
  have e1:decide (i< -(2^63:Int))=false:=Zx (by omega)
  have e2:decide (i ≥ 2^63)=false:=Zx (by omega)
  rw[e1,e2,Bool.or_false]) (by rw[h1];simpa using h2) ⟨.str ⟨#[c]⟩,H,I.tok _,⟨_,rfl⟩,q⟩) hs
def rIx(K:Qq):R2:=fun x y H Q=>b0f K x y H Q∨b0g K x y H Q∨a6N x y H Q
theorem b0j:IxR X (rIx X.K):=b0h.or (b5t.or b0i)
theorem b5u(its:List Value)(n j:Nat)(u:Value):Obj.mapSeq (·.setIfInBounds j u) {cls:=.type "list",data:=.seq its.toArray n}={cls:=.type "list",data:=.seq (its.set j u).toArray n}:=by
 simp[Obj.mapSeq]
theorem Inv.lst{pins:OX}{σ:St}{H:Hp}{s:Shared}{p:Addr}{xs:List V}(I:Inv X pins σ H s)(h:H p=some (.lst xs)):
  ∃(its:List Value) (n:Nat),q5_ xs its/\s.heap.get? p=some {cls:=.type "list",data:=.seq its.toArray n}/\xs.length≤sizeLine:=by
 obtain⟨z,its,n,r,e⟩:=I.hok p _ h;exact⟨its,n,r,e,z⟩
theorem Inv.lstUpd{pins:OX}{σ:St}{H:Hp}{s:Shared}{p:Addr}{xs ys:List V}{its its':List Value}{n n':Nat}{f:Obj->Obj}(I:Inv X pins σ H s)(h:H p=some (.lst xs))
  (ho:s.heap.get? p=some {cls:=.type "list",data:=.seq its.toArray n})(hf:f {cls:=.type "list",data:=.seq its.toArray n}={cls:=.type "list",data:=.seq its'.toArray n'})(r:q5_ ys its')(hz:ys.length≤sizeLine)(t:Nat):
  Inv X pins σ (upd H p (.lst ys)) {s with heap:=s.heap.update p f,toks:=t}:=by
 have e:(s.heap.update p f).get? p=some {cls:=.type "list",data:=.seq its'.toArray n'}:=by
  rw[Heap.get?_update_self f ho (by rw[hf]<;>rfl),hf]
 refine I.write (x:=p) (e:=p) (by rw[h];trivial) (.inl rfl) (fun b u hb q=>(Heap.get?_update_other _ _ (Zy hb)).trans q) ⟨_,e⟩ ?_
 exact⟨hz,its',n',r,e⟩
def b5v:V->V->V->Hp->(Hp->Prop)->Prop:=fun o i v H Q=>∃p xs k j,o=.ref p/\i=.int k/\H p=some (.lst xs)/\ixN xs.length k=some j/\Q (upd H p (.lst (xs.set j v)))
theorem b5w:a9M X b5v:=by
 intro pins s σ H o i v ov iv u Q I ro ri rv h;obtain⟨p,xs,k,j,rfl,rfl,hp,hj,q⟩:=h;cases ro;obtain⟨t,rfl⟩:=ri;obtain⟨its,n,r,ho,hz⟩:=I.lst hp;obtain⟨h1,h2,h3,h4⟩:=b0e hj;have hl:=r.length;have hn:=a3K;have I':Inv X pins σ (upd H p (.lst (xs.set j v))) {s with heap:=s.heap.update p (Obj.mapSeq (·.setIfInBounds j u))}:=
  I.lstUpd hp ho (b5u its n j u) (r.set rv j) (by rw[Zp];exact hz) s.toks
 by_cases h0:0≤k
 ·have hk:k.toNat=j:=by
   rw[seqIndex_of h0 h4]at h1;exact Yj h1
  exact PySem.W.ki_setAt ho h0 (by omega) (by rw[Qp,←hl];exact h4) (by rw[hk];exact⟨_,I',q⟩)
 ·have hk:(k+(its.toArray.size:Int)).toNat=j:=by
   rw[seqIndex_neg (by omega) h3]at h1
   rw[Qp,←hl];exact Yj h1
  exact PySem.W.ki_setBack ho (by omega) (by rw[Qp,←hl];exact h3) (by omega) (by rw[hk];exact⟨_,I',q⟩)
theorem b5x(lo hi:Option Int)(n:Nat):(sliceBounds lo hi none n).1=((HT.sIx n 0 lo:Nat):Int)/\(sliceBounds lo hi none n).2.1=((HT.sIx n n hi:Nat):Int)/\(sliceBounds lo hi none n).2.2=1:=by
 refine⟨?_,?_,rfl⟩
 ·cases lo with
  |none=>simp[sliceBounds,HT.sIx]
  |some i=>
   simp only[sliceBounds,HT.sIx,Option.getD_none,show(1:Int)>0 by decide,Zs]
   by_cases h:i<0
   ·simp only[h,Zs]<;>omega
   ·simp only[h,Jx]<;>omega
 ·cases hi with
  |none=>simp[sliceBounds,HT.sIx]
  |some i=>
   simp only[sliceBounds,HT.sIx,Option.getD_none,show(1:Int)>0 by decide,Zs]
   by_cases h:i<0
   ·simp only[h,Zs]<;>omega
   ·simp only[h,Jx]<;>omega
theorem b5y(its:List Value)(lo hi:Option Int):slicePick its.toArray lo hi none=((its.drop (HT.sIx its.length 0 lo)).take (HT.sIx its.length its.length hi-HT.sIx its.length 0 lo)).toArray:=by
 obtain⟨h1,h2,h3⟩:=b5x lo hi its.toArray.size;unfold slicePick;rw[h1,h2,h3];simp only[sliceRange_one,pick_run,Qp]<;>rfl
def b5z(K:Qq):V->Option Int->Option Int->Hp->VK->Prop:=fun x lo hi H Q=>∃a xs,x=.ref a/\SqL K H a xs/\∀p,H p=none->Q (.ref p) (upd H p (.lst (a1N xs lo hi)))
theorem c2i:SlR X (b5z X.K):=by
 intro pins s σ H x v vl vu lo hi sl Q I rx hs pl pu h;obtain⟨a,xs,rfl,hx,q⟩:=h;cases rx;obtain⟨its,r,ht,hz⟩:=I.list hx;have hlen:=r.length;refine⟨"list",_,slot_list_getitem.lookup,ht.isList.typeIs,?_⟩;refine wpAny_getItem_list_slice ht.isList hs pl pu .none (by simp) ?_ (by rw[Qp]<;>omega)
 rw[b5y,←hlen];refine⟨.ref s.heap.objs.size,_,I.laid (t':=s.toks) (o:=.lst (a1N xs lo hi)) (fun b ob q=>Qj _ q) (Qb _) ?_,rfl,q _ (I.hok.fresh (Qb _))⟩
 exact⟨Qo (b0c xs lo hi) hz,_,0,(r.drop (HT.sIx xs.length 0 lo)).take (HT.sIx xs.length xs.length hi-HT.sIx xs.length 0 lo),Qn _ rfl⟩
def a0R:V->Bool
 |.non=>true
 |.bl _=>true
 |.int _=>true
 |.str _=>true
 |_=>false
def eqV:V->V->Bool
 |.non,.non=>true
 |.bl a,.bl b=>a==b
 |.bl a,.int b=>(if a then 1 else 0)==b
 |.int a,.bl b=>a==(if b then 1 else 0)
 |.int a,.int b=>a==b
 |.str a,.str b=>a==b
 |_,_=>false
theorem b5A{A:Around}{s:Shared}{y x:V}{u v:Value}(ry:v4_ y u)(rx:v4_ x v)(fy:a0R y=true)(fx:a0R x=true):SeqAt.EqAt A s u v (eqV y x):=by
 cases y with
 |non=>
  cases ry;cases x with
  |non=>cases rx;exact SeqAt.EqAt.same _
  |bl b=>cases rx;exact SeqAt.EqAt.none_bool b
  |int b=>obtain⟨t,rfl⟩:=rx;exact SeqAt.EqAt.none_int b t
  |str b=>obtain⟨t,rfl⟩:=rx;exact SeqAt.EqAt.none_str b t
  |_=>exact absurd (show false=true from fx) Yk
 |bl a=>
  cases ry;cases x with
  |non=>cases rx;exact SeqAt.EqAt.bool_none a
  |bl b=>cases rx;exact SeqAt.EqAt.bool_bool a b
  |int b=>obtain⟨t,rfl⟩:=rx;exact SeqAt.EqAt.bool_int a b t
  |str b=>obtain⟨t,rfl⟩:=rx;exact SeqAt.EqAt.bool_str a b t
  |_=>exact absurd (show false=true from fx) Yk
 |int a=>
  obtain⟨t',rfl⟩:=ry;cases x with
  |non=>cases rx;exact SeqAt.EqAt.int_none a t'
  |bl b=>cases rx;exact SeqAt.EqAt.int_bool a t' b
  |int b=>obtain⟨t,rfl⟩:=rx;exact SeqAt.EqAt.int_int a t' b t
  |str b=>obtain⟨t,rfl⟩:=rx;exact SeqAt.EqAt.int_str a t' b t
  |_=>exact absurd (show false=true from fx) Yk
 |str a=>
  obtain⟨t',rfl⟩:=ry;cases x with
  |non=>cases rx;exact SeqAt.EqAt.str_none a t'
  |bl b=>cases rx;exact SeqAt.EqAt.str_bool a t' b
  |int b=>obtain⟨t,rfl⟩:=rx;exact SeqAt.EqAt.str_int a t' b t
  |str b=>obtain⟨t,rfl⟩:=rx;exact SeqAt.EqAt.str_str a t' b t
  |_=>exact absurd (show false=true from fx) Yk
 |_=>exact absurd (show false=true from fy) Yk
def eqU(x:V)(u:Value):Bool:=match u with
 |.none=>eqV .non x
 |.bool b=>eqV (.bl b) x
 |.int i _=>eqV (.int i) x
 |.str z _=>eqV (.str z) x
 |_=>false
theorem b0k{x y:V}{u:Value}(r:v4_ y u)(f:a0R y=true):eqU x u=eqV y x:=by
 cases y with
 |non=>cases r;rfl
 |bl b=>cases r;rfl
 |int i=>obtain⟨t,rfl⟩:=r;rfl
 |str z=>obtain⟨t,rfl⟩:=r;rfl
 |_=>exact absurd (show false=true from f) Yk
theorem a6O{x:V}:∀{xs:List V}{us:List Value},q5_ xs us->xs.all a0R=true->us.any (eqU x)=xs.any fun y=>eqV y x
 |_,_,.nil,_=>rfl
 |y::xs,u::us,.cons r t,f=>by
  rw[Up,Qy]at f;rw[Je,Je,b0k r f.1,a6O t f.2]
theorem a5m{A:Around}{s:Shared}{x:V}{v:Value}(rx:v4_ x v)(fx:a0R x=true):∀{xs:List V}{us:List Value},q5_ xs us->xs.all a0R=true->∀u∈us,SeqAt.EqAt A s u v (eqU x u)
 |_,_,.nil,_=>fun u hu=>by cases hu
 |y::xs,u::us,.cons r t,f=>fun u' hu=>by
  rw[Up,Qy]at f
  rcases Qh.mp hu with rfl|hu
  ·rw[b0k r f.1];exact b5A r rx f.1 fx
  ·exact a5m rx fx t f.2 u' hu
def inV(x:V)(xs:List V):Bool:=xs.any fun y=>eqV y x
def rIn(K:Qq)(neg:Bool):R2:=fun x y H Q=>∃p xs,y=.ref p/\(SqL K H p xs∨SqT K H p xs)/\a0R x=true/\xs.all a0R=true/\Q (.bl (if neg then !inV x xs else inV x xs)) H
theorem b5B:OpR X (compareOp .NotIn) (rIn X.K true):=by
 intro pins s σ H x y v u Q I rx ry h;obtain⟨p,xs,rfl,hq,fx,fs,q⟩:=h;cases ry
 rcases hq with hq|hq
 ·obtain⟨its,r,pl,hz⟩:=I.list hq
  refine SeqAt.notIn_listAt (eqU x) pl.isList (fun w hw=>a5m rx fx r fs w (by simpa using hw)) ⟨.bl _,H,I,rfl,?_⟩
  rw[show its.toArray.any (eqU x)=its.any (eqU x) by simp,a6O r fs]
  exact q
 ·obtain⟨its,r,pl,hz⟩:=I.tuple hq
  refine SeqAt.notIn_tupleAt (eqU x) pl (fun w hw=>a5m rx fx r fs w (by simpa using hw)) ⟨.bl _,H,I,rfl,?_⟩
  rw[show its.toArray.any (eqU x)=its.any (eqU x) by simp,a6O r fs]
  exact q
theorem j6_:w1_ X (.builtin "len") (fun xs H Q=>∃p ys,xs=[.ref p]/\(SqL X.K H p ys∨SqT X.K H p ys)/\Q (.int ys.length) H):=by
 intro pins s σ H xs us Q I r h;obtain⟨p,ys,rfl,hq,q⟩:=h;obtain⟨u,rfl,rx⟩:=a1v r;cases rx;have hn:=a3K
 rcases hq with hq|hq
 ·obtain⟨its,r',pl,hz⟩:=I.list hq
  have hlen:=r'.length
  exact Calls.call_len_list pl.isList (by simp only[Qp]<;>omega) ⟨.int ys.length,H,I.tok _,⟨s.toks+1,by rw[Qp,hlen]⟩,q⟩
 ·obtain⟨its,r',pl,hz⟩:=I.tuple hq
  have hlen:=r'.length
  exact len_tuple pl (by simp only[Qp]<;>omega) ⟨.int ys.length,H,I.tok _,⟨s.toks+1,by rw[Qp,hlen]⟩,q⟩
theorem b5C:w1_ X (.builtin "len") (fun xs H Q=>∃z,xs=[.str z]/\z.length≤sizeLine/\Q (.int z.length) H):=by
 intro pins s σ H xs us Q I r h;obtain⟨z,rfl,hz,q⟩:=h;obtain⟨u,rfl,t,rfl⟩:=a1v r;have hn:=a3K;exact len_str (by omega) ⟨.int z.length,H,I.tok _,⟨_,rfl⟩,q⟩
theorem w1_.or{f:Value}{r r':List V->Hp->VK->Prop}(h:w1_ X f r)(h':w1_ X f r'):w1_ X f (fun xs H Q=>r xs H Q∨r' xs H Q):=by
 intro pins s σ H xs us Q I rs q
 rcases q with q|q
 ·exact h pins s σ H xs us Q I rs q
 ·exact h' pins s σ H xs us Q I rs q
theorem a6P:w1_ X (.type "list") (fun xs H Q=>∃p ys,xs=[.ref p]/\(SqL X.K H p ys∨SqT X.K H p ys)/\∀l,H l=none->Q (.ref l) (upd H l (.lst ys))):=by
 intro pins s σ H xs us Q I r h;obtain⟨p,ys,rfl,hq,q⟩:=h;obtain⟨u,rfl,rx⟩:=a1v r;cases rx;have fin:∀(its:List Value),q5_ ys its->ys.length≤sizeLine->∀(h':Heap) (c':Nat),(∀b o',s.heap.get? b=some o'->h'.get? b=some o')->
   h'.get? s.heap.objs.size=some {cls:=.type "list",dict:=none,data:=.seq its.toArray c',slots:=#[]}->EP X pins σ Q (.ref s.heap.objs.size) {s with heap:=h'}:=fun its r' hz h' c' kp e=>
  ⟨.ref s.heap.objs.size,_,I.laid (t':=s.toks) kp (Qb _) (show k1_ X.prog X.w _ h' _ (.lst ys)from⟨hz,its,c',r',e⟩),rfl,q _ (I.hok.fresh (Qb _))⟩
 rcases hq with hq|hq
 ·obtain⟨its,r',pl,hz⟩:=I.list hq
  have hlen:=r'.length
  obtain⟨o,ho,hc,n,hd⟩:=pl.isList;exact call_list_seq p (.inl rfl) ho hc hd (fun h' c' kp e=>fin its r' hz h' c' kp e) (by simp only[Qp]<;>omega)
 ·obtain⟨its,r',pl,hz⟩:=I.tuple hq
  have hlen:=r'.length
  obtain⟨o,ho,hc,n,hd⟩:=pl;exact call_list_seq p (.inr rfl) ho hc hd (fun h' c' kp e=>fin its r' hz h' c' kp e) (by simp only[Qp]<;>omega)
theorem a2O:w1_ X (.type "tuple") (fun xs H Q=>∃p ys,xs=[.ref p]/\((SqL X.K H p ys/\∀l,H l=none->Q (.ref l) (upd H l (.tup ys)))∨(SqT X.K H p ys/\Q (.ref p) H))):=by
 intro pins s σ H xs us Q I r h;obtain⟨p,ys,rfl,h⟩:=h;obtain⟨u,rfl,rx⟩:=a1v r;cases rx
 rcases h with⟨hq,q⟩|⟨hq,q⟩
 ·obtain⟨its,r',pl,hz⟩:=I.list hq
  have hlen:=r'.length
  refine call_tuple_list pl.isList (fun h' kp=>?_) (by simp only[Qp]<;>omega)
  have I1:Inv X pins σ H {s with heap:=h'}:=I.kept (t':=s.toks) kp
  have I2:Inv X pins σ (upd H h'.objs.size (.tup ys)) {s with heap:=h'.push {cls:=.type "tuple",data:=.seq its.toArray}}:=
   I1.laid (t':=s.toks) (fun b o e=>Qj _ e) (Qb _) (show k1_ X.prog X.w _ _ _ (.tup ys)from⟨hz,its,r',a0A.new _ _⟩)
  exact⟨.ref h'.objs.size,_,I2,rfl,q _ (I1.hok.fresh (Qb _))⟩
 ·obtain⟨its,r',pl,hz⟩:=I.tuple hq
  exact call_tuple_same pl ⟨.ref p,H,I,rfl,q⟩
def tyV(K:Qq)(T:String)(x:V)(H:Hp):Prop:=match x with
 |.str _=>T="str"
 |.int _=>T="int"
 |.ref p=>(T="list"/\ ∃xs,SqL K H p xs)∨(T="tuple"/\ ∃o,K.lookup p=some o/\o.cls=.type "tuple"/\o.dict=none)∨
   (T="dict"/\((∃kvs,H p=some (.dK kvs))∨ ∃C kvs,H p=some (.dT C kvs)))∨(T="set"/\ ∃S n,H p=some (.set S n))
 |_=>False
theorem b5D{pins:OX}{σ:St}{H:Hp}{s:Shared}{T:String}{x:V}{v:Value}(I:Inv X pins σ H s)(r:v4_ x v)(ty:tyV X.K T x H):
  s.TypeIs v T/\∀a,v=.ref a->∃ob,s.heap.get? a=some ob/\ob.dict=none:=by
 cases x with
 |str z=>
  obtain⟨t,rfl⟩:=r;cases (show T="str" from ty)
  exact⟨typeIs_str s z t,fun _ e=>nomatch e⟩
 |int i=>
  obtain⟨t,rfl⟩:=r;cases (show T="int" from ty)
  exact⟨typeIs_int s i t,fun _ e=>nomatch e⟩
 |ref p=>
  cases r
  rcases ty with⟨rfl,xs,hq⟩|⟨rfl,o,hk,hc,hd⟩|⟨rfl,hk⟩|⟨rfl,S,n,hk⟩
  ·obtain⟨its,_,pl,_⟩:=I.list hq
   refine⟨pl.isList.typeIs,fun a e=>?_⟩
   cases e;obtain⟨o,n,e,c,hd,_⟩:=pl;exact⟨o,e,hd⟩
  ·refine⟨⟨o,I.kIn p o hk,hc⟩,fun a e=>?_⟩
   cases e;exact⟨o,I.kIn _ o hk,hd⟩
  ·have z:∃o,s.heap.get? p=some o/\o.ExactDict:=by
    rcases hk with⟨kvs,hk⟩|⟨C,kvs,hk⟩
    ·obtain⟨_,_,_,_,o,_,_,e,ex,_⟩:=I.hok p _ hk
     exact⟨o,e,ex⟩
    ·obtain⟨_,_,_,_,o,_,_,e,ex,_⟩:=I.hok p _ hk
     exact⟨o,e,ex⟩
   obtain⟨o,e,ex⟩:=z;refine⟨⟨o,e,ex.1⟩,fun a e2=>?_⟩
   cases e2;exact⟨o,e,ex.2.1⟩
  ·obtain⟨o,_,_,_,e,ex,_⟩:=I.hok p _ hk
   refine⟨⟨o,e,ex.1⟩,fun a e2=>?_⟩
   cases e2;exact⟨o,e,ex.2.1⟩
 |_=>exact False.elim ty
def tBM(K:Qq)(T:String)(r:V->List V->Hp->VK->Prop)(to:TE)(t:TA):TE:=fun σ H Q=>to σ H fun x H1=>tyV K T x H1/\t σ H1 fun xs H2=>r x xs H2 Q
variable{o e:Expr}{es:List Expr}{to:TE}{t:TA}{name:Str}{apos cpos:Pos}{T id:String}{r:V->List V->Hp->VK->Prop}
theorem a6Q(pa:PlainAttrs T)(slot:Slot T name id)(hty:typeOf (.builtin id)=pure (.type "method_descriptor"))(hm:MtR X id r)(ho:PE X o to)(ha:PA X (e::es) t)
  (hbase:attributeBase o name X.env (eval o X.env)=eval o X.env:=by rfl)
  (hfew:((backTo cpos (starEach (e::es) X.env)).all (fun x=>!x.1)&&(backToKw cpos (keywordEach [] X.env)).all (fun x=>x.1.isSome)
   &&decide ((e::es).length+([]:List Keyword).length+(if([]:List Keyword).isEmpty then 0 else 1)<30))=true:=by rfl)
  (hline:(apos.endLine==cpos.line)=true:=by rfl)(hs:starEach (e::es) X.env=(false,eval e X.env)::starEach es X.env:=by rfl)(hplain:(backTo cpos (starEach es X.env)).any (·.1)=false:=by rfl):
  PE X (.Call (.Attribute o name apos) (e::es) [] cpos) (tBM X.K T r to t):=by
 intro pins s σ H Q I h;refine wpAny_Call_method_late hbase hfew hline rfl (thn (ho pins s σ H _ I h) fun v s1 ⟨x,H1,I1,r1,ty,q1⟩=>?_)
 obtain⟨h1,h2⟩:=b5D I1 r1 ty;refine⟨T,id,pa,slot,hty,h1,h2,?_⟩;have hA:=ha cpos pins s1 σ H1 _ I1 q1;rw[hs]at hA ⊢;refine Calls.callWith_builtin (by show(false||(backTo cpos (starEach es X.env)).any (·.1))=false;rw[hplain]<;>rfl) (Calls.evalArgs_plain ?_)
 exact thn hA fun us s2 ⟨vs,H2,I2,r2,q2⟩=>hm pins s2 σ H2 x vs v us Q I2 r1 r2 q2
end
def MtM(X:Cx)(id:String)(r:V->List V->Hp->VK->Prop):Prop:=
 ∀(pins:OX) (s:Shared) (σ:St) (H:Hp) (x:V) (xs:List V) (v:Value) (us:List Value) (Q:VK),Inv X pins σ H s->v4_ x v->q5_ xs us->r x xs H Q->
  wpAny (model X.prog X.w) X.A (call (.builtin id) (v::us)) (EP X pins σ Q) X.xe s
theorem q5_.one:∀{x:V}{us:List Value},q5_ [x] us->∃u,us=[u]/\v4_ x u
 |_,_,.cons r .nil=>⟨_,rfl,r⟩
theorem q5_.two:∀{x y:V}{us:List Value},q5_ [x,y] us->∃u v,us=[u,v]/\v4_ x u/\v4_ y v
 |_,_,_,.cons r (.cons q .nil)=>⟨_,_,rfl,r,q⟩
theorem q5_.zero:∀{us:List Value},q5_ [] us->us=[]
 |_,.nil=>rfl
theorem q5_.reverse{xs:List V}{us:List Value}(h:q5_ xs us):q5_ xs.reverse us.reverse:=by
 induction h with
 |nil=>exact .nil
 |cons r t ih=>rw[Vi,Vi];exact q5_.append ih (.cons r .nil)
theorem q5_.rep{xs:List V}{us:List Value}(h:q5_ xs us):∀k:Nat,q5_ (List.replicate k xs).flatten (List.replicate k us).flatten
 |0=>.nil
 |k+1=>by
  rw[Zt,Zt,Ux,Ux];exact q5_.append h (q5_.rep h k)
theorem b0l(its:List Value):∀(k:Nat) (acc:List Value),
  List.foldl (fun x1 x2=>x1++x2) acc.toArray (List.replicate k its.toArray)=(acc++(List.replicate k its).flatten).toArray
 |0,acc=>by simp
 |k+1,acc=>by
  have e:acc.toArray++its.toArray=(acc++its).toArray:=by simp
  have e2:(acc++its)++(List.replicate k its).flatten=acc++(List.replicate (k+1) its).flatten:=by
   rw[Zt,Ux,List.append_assoc]
  rw[←e2,←b0l its k (acc++its),←e,Zt,List.foldl_cons]
section
variable{X:Cx}{pins:OX}{σ:St}{H:Hp}{s:Shared}{l b:Addr}{xs ys zs:List V}
theorem Inv.lset{its its':List Value}{n:Nat}{f:Array Value->Array Value}{t':Nat}(I:Inv X pins σ H s)(hH:H l=some (.lst xs))
  (e:s.heap.get? l=some {cls:=.type "list",data:=.seq its.toArray n})(hf:f its.toArray=its'.toArray)(hv:q5_ ys its')(hz:ys.length≤sizeLine):
  Inv X pins σ (upd H l (.lst ys)) {s with heap:=s.heap.update l (Obj.mapSeq f),toks:=t'}:=by
 have q:=PySem.IsL.update e f
 rw[hf]at q;refine I.write (x:=l) (e:=l) (by rw[hH];exact trivial) (.inl rfl) (fun b' u hb hu=>(Heap.get?_update_other s.heap (Obj.mapSeq f) (Zy hb)).trans hu) ⟨_,q⟩ ?_
 exact⟨hz,its',_,hv,q⟩
theorem Inv.lnew{its:List Value}{t':Nat}(I:Inv X pins σ H s)(hv:q5_ ys its)(hz:ys.length≤sizeLine):
  Inv X pins σ (upd H s.heap.objs.size (.lst ys)) {s with heap:=s.heap.push {cls:=.type "list",data:=.seq its.toArray},toks:=t'}:=
 I.laid (fun _ _ q=>Qj _ q) (Qb _) ⟨hz,its,0,hv,Qn _ rfl⟩
theorem Inv.fresh(I:Inv X pins σ H s):H s.heap.objs.size=none:=I.hok.fresh (Qb _)
theorem Inv.lstM(I:Inv X pins σ H s)(hH:H l=some (.lst xs)):xs.length≤sizeLine/\∃(its:List Value) (n:Nat),q5_ xs its/\xs.length=its.length/\s.heap.get? l=some {cls:=.type "list",data:=.seq its.toArray n}:=by
 obtain⟨z,its,n,r,e⟩:=I.hok l _ hH;exact⟨z,its,n,r,r.length,e⟩
end
section
variable{X:Cx}
def b5E:V->List V->Hp->VK->Prop:=fun x vs H Q=>∃l xs y,x=.ref l/\vs=[y]/\H l=some (.lst xs)/\xs.length<sizeLine/\Q .non (upd H l (.lst (xs++[y])))
theorem b0m:MtM X "list.append" b5E:=by
 intro pins s σ H x vs v us Q I rx rv h;obtain⟨l,xs,y,rfl,rfl,hH,hz,q⟩:=h;cases rx;obtain⟨u,rfl,ru⟩:=rv.one;obtain⟨z,its,n,r,hl,e⟩:=I.lstM hH;refine Va F.slot_list_append ⟨_,e,rfl⟩ F.entry_list_append (F.args_list_append_2 _ _) (PySem.list_append l its.toArray n u (by rw[Qp];omega)) ⟨e,?_⟩
 refine⟨.non,_,I.lset (its':=its++[u]) hH e (by simp) (r.append (.cons ru .nil)) ?_,rfl,q⟩
 rw[Zq,List.length_singleton]
 omega
theorem b0n{α:Type}(xs:List α)(k:Nat):(List.replicate k xs).flatten.length=k * xs.length:=by
 induction k with
 |zero=>simp
 |succ k ih=>rw[Zt,Ux,Zq,ih,Nat.succ_mul,Nat.add_comm]
end
section
variable{prog:Program}{w:World}{A:Around}{E:OE}{s:Shared}
set_option maxRecDepth 100000 in
end
section
variable{X:Cx}
end
end L2
namespace Att
open PySem PySem.W PySem.Calls PyProof.Rows
theorem ints_of_wellAll{P:Params}{h:Heap}:∀(ns:List Int) (vs:List Value),WellAll P h vs (ns.map WData.int)->IntsAre vs ns:=by
 intro ns
 induction ns with
 |nil=>
  intro vs w;rw[List.map_nil]at w;cases w;exact .nil
 |cons n ns ih=>
  intro vs w;rw[Qs]at w;cases w with
  |cons a b=>
   cases a;exact .cons _ _ (ih _ b)
theorem script_of{l:OpenLaw}{n:Nat}(hn:l.most=some n){P:Params}{h:Heap}{args:List WData}{vals:List Value}
  (hpre:l.row.toRowW.claim.pre args=true)(hwl:WellAll P h vals args):
  ∃a vs ns,vals=[Value.ref a]/\args=[WData.list (ns.map WData.int)]/\h.get? a=some {cls:=.type "list",data:=.seq vs.toArray}/\IntsAre vs ns/\ns.length≤n:=by
 have hsh:WShape.hasAll [] args [.list .int]=true:=(pre_splitW hpre).1
 have hc:l.pre.holds [] {args:=args}=true:=(pre_splitW hpre).2
 obtain⟨d,r,rfl,h1,h2⟩:=hasAllW_cons hsh;obtain rfl:=hasAllW_nil h2;obtain⟨xs,rfl,h3⟩:=hasW_list h1;obtain⟨ns,rfl⟩:=items_int h3;have hlen:ns.length≤n:=by
  unfold OpenLaw.pre at hc;have h4:(WTm.not (.lt (.lit (.int (n:Int))) (.len (.arg 0)))).holds [] {args:=[.list (ns.map .int)]}=true:=by
   have h4:=(holds_andW hc).1
   rw[hn]at h4;exact h4
  have h5:=condW_of h4 (w_not (w_lt w_lit (w_len_list (w_arg rfl))))
  rw[Qk]at h5;refine Nat.le_of_not_lt fun q=>?_
  have q':(n:Int)<((ns.length:Nat):Int):=by omega
  first
   |(rw[Uk q']at h5;exact absurd h5 (by decide))
   |(simp at h5;omega)
 cases hwl with
 |cons w1 w2=>
  cases w2;cases w1 with
  |list ho hall=>exact⟨_,_,ns,rfl,rfl,ho,ints_of_wellAll ns _ hall,hlen⟩
theorem post_true(l:OpenLaw)(args:List WData):l.row.toRowW.claim.post args (.bool true) args=true:=
 postW_of (r:=l.row.toRowW) (X:=(true==true))
  (show WShape.has [] (.bool true) .bool=true by first|rfl|decide|simp[WShape.has,WShape.arms,WShape.armsAll])
  (show(WTm.eq .res (.lit (.bool true))).value [] {args:=args,res:=some (.bool true),after:=args}=some (.bool (true==true))from w_eq_bool (w_res rfl) w_lit) rfl
theorem attach_call{l:OpenLaw}{n:Nat}{q:Program}{loose:List Str}{XP:(OU)->Heap->Prop}{YP:World->Heap->Prop}{d:DefRec}
  (hn:l.most=some n)(hdf:d.params.defaults=[])
  (call:∀(w:World) (s₀ s₁:Shared) (mg mb:OU) (fa:Addr) (o:Obj) (pm cd doc:Value) (a:Addr) (vs:List Value) (ns:List Int),
   Ground q loose [] XP w s₀ mg mb s₁.heap->YP w s₁.heap->
   s₁.heap.get? fa=some o->o.data=.func (docDef d.name d.params d.body d.scope pm cd doc)->s₁.heap.CodeRec cd d.name->mg d.name=some (.ref fa)->
   s₁.heap.get? a=some {cls:=.type "list",data:=.seq vs.toArray}->IntsAre vs ns->ns.length≤n->s₁.gens= #[]->
   codeAny (model l.prog w) callerA (.call (.ref fa) ⟨[.ref a],[]⟩) (fun r s'=>r=.ok (.ret (.bool true))/\OldK s₁.heap s'.heap/\s'.os=s₁.os/\AllBare s'.gens) s₁):
  WalkO q loose XP YP l.row.toRowW d [] (fun f vs=>PySem.call f vs):=by
 intro w s₀ s₁ mg mb G Y fa o pm cd doc dV kV ho hd hcd hD hmg hg args vals as hpre hlay hrd hwl hlo;obtain rfl:dV=.none:=Dflts.none hD hdf;obtain rfl:kV=.none:=Dflts.noKw hD;obtain⟨a,vs,ns,rfl,rfl,hobj,hints,hlen⟩:=script_of hn hpre hwl;refine enter_call (Vv (call w s₀ s₁ mg mb fa o pm cd doc a vs ns G Y ho (fd_plain hd) hcd hmg hobj hints hlen hg) fun r s' hq=>?_)
 obtain⟨rfl,h2,h3,h4⟩:=hq;exact⟨.inl ⟨.bool true,.bool true,[],rfl,fun _=>rfl,.bool true,post_true l _,fun _=>⟨List.Pairwise.nil,fun _ hm=>(nomatch hm)⟩⟩,h2,h3,h4⟩
section
variable{prog:Program}{w:World}{A:Around}{E:OE}{s:Shared}{K:Frag}
end
end Att
namespace L2
open PySem PySem.Spec PyProof.Rows
theorem b0o:∀{vs:List Value}{ns:List Int},IntsAre vs ns->q5_ (ns.map V.int) vs
 |_,_,.nil=>.nil
 |_,_,.cons n t h=>.cons ⟨t,rfl⟩ (b0o h)
def a2P(s:Stmt):Arguments:=match s with
 |.FunctionDef _ a _ _ _ _ _ _ _ _=>a
 |_=>{posonlyargs:=[],args:=[],vararg:=none,kwonlyargs:=[],kw_defaults:=[],kwarg:=none,defaults:=[]}
def a0S(s:Stmt):List Stmt:=match s with
 |.FunctionDef _ _ b _ _ _ _ _ _ _=>b
 |_=>[]
def v9_(s:Stmt):Scope:=match s with
 |.FunctionDef _ _ _ _ _ _ sc _ _ _=>sc
 |_=>{kind:=.function,names:=[],isGenerator:=false,isCoroutine:=false}
abbrev CX0:CXT:=fun _ _ _ _ _ _=>False
abbrev E0:XK:=fun _ _ _=>False
theorem a5n{X:Cx}:a3M CX0 X E0:=fun _ _ _ _ _ _ _ h=>h.elim
structure Fun(K:Qq)(x qual:Str)(st:Stmt)(f:Addr)(fd:FuncData):Prop where
 ex:∃(oc:Value) (od:Option Addr) (kV doc pm:Value) (an:Option Addr) (cdv ct:Value) (osl:Array (Option Value)),
  fd=PySem.W.fnOf x qual (a2P st) (a0S st) (v9_ st) .none kV doc pm an cdv ct/\K.lookup f=some ⟨oc,od,.func fd,osl⟩/\PySem.W.codeIn K cdv qual=true
 kp:PySem.W.keepIn K (.ref f)=true
section
variable{P:Program}{w:World}{K:Qq}{mg:OU}{base:Heap}
theorem Fun.ok{x qual:Str}{st:Stmt}{f:Addr}{fd:FuncData}{N ps:List Str}{k:Nat}{sp:Sp}(F:Fun K x qual st f fd)(S:FnScope N ps (v9_ st))(len:∀vs H Q E,sp vs H Q E->vs.length=ps.length)
  (hbody:∀(cdv:Value) (A:Around) (outer:List Env) (s:Shared) (H:Hp) (vs:List V) (Q:VK) (E:XK),Room k (A.deeper (envOfC qual (v9_ st) s.heap.objs.size f cdv))->sp vs H Q E->
   ∃t,PSs (j5_ CX0 P w K mg base N qual (v9_ st) f cdv A outer s H E).nox (a0S st) t/\t {nx:=fun _ H'=>Q .non H',rt:=Q} (start N vs) H):FnOk P w K mg base CX0 (k+1) f fd ps sp:=by
 obtain⟨oc,od,kV,doc,pm,an,cdv,ct,osl,rfl,lk,hcd⟩:=F.ex;refine a6J lk hcd S len fun A outer s H vs Q E hr hsp=>?_
 obtain⟨t,h,q⟩:=hbody cdv A outer s H vs Q E hr hsp;exact⟨t,h.nox,q⟩
theorem Fun.binds{x qual:Str}{st:Stmt}{f:Addr}{fd:FuncData}{ps:List Str}(F:Fun K x qual st f fd)
  (h:∀(kV doc pm:Value) (an:Option Addr) (cdv ct:Value) (us:List Value),us.length=ps.length->bindArgs (PySem.W.fnOf x qual (a2P st) (a0S st) (v9_ st) .none kV doc pm an cdv ct) ⟨us,[]⟩=pure (ps.zip us)):a0j K fd ps []:=by
 obtain⟨oc,od,kV,doc,pm,an,cdv,ct,osl,rfl,lk,hcd⟩:=F.ex;exact .all (h kV doc pm an cdv ct)
theorem b5F{x qual:Str}{st:Stmt}{f:Addr}{oc:Value}{od an:Option Addr}{osl:Array (Option Value)}{kV doc pm cdv ct:Value}(l:K.lookup f=some ⟨oc,od,.func (PySem.W.fnOf x qual (a2P st) (a0S st) (v9_ st) .none kV doc pm an cdv ct),osl⟩)
  (c:PySem.W.codeIn K cdv qual=true)(k:PySem.W.keepIn K (.ref f)=true):Fun K x qual st f (PySem.W.fnOf x qual (a2P st) (a0S st) (v9_ st) .none kV doc pm an cdv ct):=⟨⟨oc,od,kV,doc,pm,an,cdv,ct,osl,rfl,l,c⟩,k⟩
end
theorem a3O{n:Nat}(h:n≤1000):n<sizeLine:=Vl h (by decide)
section
variable{X:Cx}
theorem pv(i:Nat){x:Str}{pos:Pos}(hN:X.N[i]? =some x:=by rfl)(hv:Vis X.env.scope x:=by first|exact Or.inl rfl|exact Or.inr (Or.inl rfl)|exact Or.inr (Or.inr rfl))(hd:(x==("__debug__":Str))=false:=by decide)
  (hcd:(x==("__classdict__":Str))=false:=by decide):PE X (.Name x pos) (a1t i):=a6s hN hv hd hcd
end
def a1w(H H':Hp):Prop:=∀b o,H b=some o->H' b=some o
theorem a1w.refl(H:Hp):a1w H H:=fun _ _ h=>h
theorem a1w.trans{H H1 H2:Hp}(a:a1w H H1)(b:a1w H1 H2):a1w H H2:=fun c o h=>b c o (a c o h)
theorem a1w.free{H H':Hp}(e:a1w H H'){l:Addr}(h:H' l=Option.none):H l=Option.none:=by
 cases q:H l with
 |none=>rfl
 |some o=>
  rw[e l o q]at h;cases h
theorem a1w.seq{K:Qq}{H H':Hp}{a:Addr}{xs:List V}(e:a1w H H')(h:SqL K H a xs):SqL K H' a xs:=by
 rcases h with(h|⟨o,h⟩)|h
 ·exact .inl (.inl (e _ _ h))
 ·exact .inl (.inr ⟨o,e _ _ h⟩)
 ·exact .inr h
section
variable{κ:Type}[DecidableEq κ]
def a2Q(kvs:List (κ×V))(k:κ):Option V:=(kvs.find? fun kv=>decide (kv.1=k)).map (·.2)
def b0p(kvs:List (κ×V))(k:κ)(v:V):List (κ×V):=
 if(kvs.any fun kv=>decide (kv.1=k))=true then kvs.map (fun kv=>if kv.1=k then(kv.1,v)else kv)else kvs++[(k,v)]
theorem b0q{p:κ×V}{r:List (κ×V)}{k:κ}(e:p.1=k):a2Q (p::r) k=some p.2:=by simp[a2Q,Yb,e]
theorem b0r{p:κ×V}{r:List (κ×V)}{k:κ}(e:¬ p.1=k):a2Q (p::r) k=a2Q r k:=by simp[a2Q,Yb,e]
theorem b0s(k:κ):∀kvs:List (κ×V),(kvs.any fun kv=>decide (kv.1=k))=(a2Q kvs k).isSome
 |[]=>rfl
 |p::r=>by
  rw[Je]
  by_cases e:p.1=k
  ·simp only[b0q e,Uk e,Bool.true_or,Option.isSome_some]
  ·rw[b0r e,Zx e,Bool.false_or];exact b0s k r
end
theorem a0Q.isSome_eq{o:Option V}{u:Option Value}(r:a0Q o u):o.isSome=u.isSome:=by
 cases o with
 |none=>cases u with
  |none=>rfl
  |some _=>exact(show False from r).elim
 |some _=>cases u with
  |none=>exact(show False from r).elim
  |some _=>rfl
theorem a0B{P:Program}{w:World}{k:Key}{u:Value}(r:v4_ (kV k) u):(w2_ P w).is k u=true:=by
 cases k with
 |inl i=>obtain⟨t,e⟩:=(show∃t,u=Value.int i t from r);subst e;exact b3W P w i t
 |inr x=>obtain⟨t,e⟩:=(show∃t,u=Value.str x t from r);subst e;exact b3X P w x t
abbrev KT(C:Addr->List Key->Prop)(H:Hp):List (List Key×V)->List (List Key×Addr×Value)->Prop:=Paired fun p q=>p.1=q.1/\(H q.2.1=some (.tup (p.1.map kV))∨C q.2.1 p.1)/\v4_ p.2 q.2.2
theorem KT.val{C:Addr->List Key->Prop}{H:Hp}{kvs:List (List Key×V)}{xs:List (List Key×Addr×Value)}(r:KT C H kvs xs)(k:List Key):a0Q (a2Q kvs k) ((atKey xs k).map (·.2)):=by
 induction r with
 |nil=>exact True.intro
 |@cons p q ps qs h t ih=>
  obtain⟨h1,_,h2⟩:=h
  by_cases e:p.1=k
  ·have e':q.1=k:=h1.symm.trans e
   have b:atKey (q::qs) k=some q.2:=by simp[atKey,Yb,e']
   rw[b0q e,b];exact h2
  ·have e':¬ q.1=k:=fun z=>e (h1.trans z)
   have b:atKey (q::qs) k=atKey qs k:=by simp[atKey,Yb,e']
   rw[b0r e,b];exact ih
theorem KT.repl{C:Addr->List Key->Prop}{H:Hp}{kvs:List (List Key×V)}{xs:List (List Key×Addr×Value)}(r:KT C H kvs xs)(k:List Key){y:V}{u:Value}(ry:v4_ y u):
  KT C H (kvs.map fun kv=>if kv.1=k then(kv.1,y)else kv) (xs.map (putAt k u)):=by
 induction r with
 |nil=>exact .nil
 |@cons p q ps qs h t ih=>
  rw[Qs,Qs];refine .cons ?_ ih;obtain⟨h1,h2,h3⟩:=h;unfold putAt
  by_cases e:p.1=k
  ·rw[Qc e,Qc (h1.symm.trans e)];exact⟨h1,h2,ry⟩
  ·rw[Ql e,Ql (fun z=>e (h1.trans z))];exact⟨h1,h2,h3⟩
theorem KT.put{C:Addr->List Key->Prop}{H:Hp}{kvs:List (List Key×V)}{xs:List (List Key×Addr×Value)}(r:KT C H kvs xs)(k:List Key){b:Addr}{y:V}{u:Value}(hb:H b=some (.tup (k.map kV))∨C b k)(ry:v4_ y u):
  KT C H (b0p kvs k y) (storedH xs k b u):=by
 have e:(kvs.any fun kv=>decide (kv.1=k))=(atKey xs k).isSome:=by
  rw[b0s,(r.val k).isSome_eq,Option.isSome_map]
 unfold b0p storedH;rw[e]
 by_cases q:(atKey xs k).isSome=true
 ·rw[Qc q,Qc q];exact r.repl k ry
 ·rw[Ql q,Ql q];exact Paired.snoc r ⟨rfl,hb,ry⟩
theorem KT.keeps{C:Addr->List Key->Prop}{H H':Hp}{kvs:List (List Key×V)}{xs:List (List Key×Addr×Value)}(r:KT C H kvs xs)(ht:∀b ys,H b=some (.tup ys)->H' b=some (.tup ys)):KT C H' kvs xs:=
 Paired.mapP r fun _ _ z=>⟨z.1,z.2.1.imp (ht _ _) id,z.2.2⟩
section
variable{P:Program}{w:World}{H:Hp}{h:Heap}{a:Addr}
end
section
variable{X:Cx}{pins:OX}{σ:St}{H:Hp}{s:Shared}{a:Addr}{y v:V}{u r:Value}{o:Option V}{A:Around}{E:OE}
theorem b5G{h':Heap}{t':Nat}{ob:HO}(I:Inv X pins σ H s)(mu:Mut (H a))(hs:Heap.SameBut a s.heap h')(he:∃q,h'.get? a=some q)(new:k1_ X.prog X.w (upd H a ob) h' a ob):
  Inv X pins σ (upd H a ob) {s with heap:=h',toks:=t'}:=
 I.write (x:=a) (e:=a) mu (.inl rfl) (fun b q hb z=>(hs.2 b hb).trans z) he new
end
def b5H(i:Expr):Prop:=∀ov iv,subscripted i false ov iv=operate [ov,iv] (getItem ov iv)
theorem b5I{prog:Program}{w:World}{A:Around}{E:OE}{s:Shared}{env:Env}{value slice:Expr}{pos:Pos}{T id:String}{Q:OE}
  (hl:typeLookup (.type T) "__getitem__"=pure (some (.builtin id)))(hs:b5H slice)
  (h:wpAny (model prog w) A (eval value env) (fun o s₁=>wpAny (model prog w) A (eval slice env) (fun i s₂=>s₂.TypeIs o T/\wpAny (model prog w) A (getItem o i) Q E s₂) E s₁) E s):
  wpAny (model prog w) A (eval (.Subscript value slice pos) env) Q E s:=by
 refine Subscript_ (Zv h (fun o s₁ h₁=>Zv h₁ (fun i s₂ h₂=>?_) fun _ _ x=>x) fun _ _ x=>x)
 obtain⟨hT,h₂⟩:=h₂;unfold subscriptTail;refine Qz ?_
 rw[getitemInPython_of_ne hT.not_modules];refine Qz (wpAny_specialOf hT hl ?_);have fin:wpAny (model prog w) A (subscripted slice false o i) (fun r s₃=>wpAny (model prog w) A (letTemporaryGo value o r>>=fun _=>pure r) Q E s₃) E s₂:=by
  rw[hs o i];exact wpAny_operating (Zv h₂ (fun r s₃ h₃=>Qz (wpAny_letTemporaryGo (Qv h₃))) fun _ _ x=>x)
 first
  |exact Qv (Qz fin)
  |exact Qz (Qv (Qz fin))
  |exact Qz fin
theorem Inv.big(I:Inv X pins σ H s):sysModules<s.heap.objs.size:=by
 have h:mainGlobals<s.heap.objs.size:=(I.mod.glob.keeps I.bk).lt
 exact Vu (by decide) h
end L2
namespace L2.Mir
open PySem PySem.Spec PyProof.Rows
inductive Ob where
 |exc (n:Str)|fn (n:Str)|dk (kvs:List (Key×Key))|dt (kvs:List (Str×List Int))
 deriving Inhabited
inductive D where
 |non|bl (b:Bool)|int (i:Int)|str (x:Str)|tup (ds:List D)|lst (ds:List D)|emp|obj (o:Ob)|dct (ks:OI) (vs:List D)
 deriving Inhabited
def b0t(K:Qq)(t:Value):Prop:=∀T∈(["tuple","list","int","bool","str"]:List String),PySem.W.kitOne K t (.type T)=some false
def SqU(K:Qq)(G:Hp)(a:Addr)(xs:List V):Prop:=G a=some (.tup xs)∨ ∃(o:Obj) (its:Array Value) (n:Nat),K.lookup a=some o/\o.cls=.type "tuple"/\o.dict=none/\o.data=.seq its n/\its.size≤sizeLine/\q5_ xs its.toList
theorem SqU.t{K:Qq}{G:Hp}{a:Addr}{xs:List V}(h:SqU K G a xs):SqT K G a xs:=h.imp (fun e=>.inl e) id
def a2R(K:Qq)(G:Hp):List (Key×V)->List (Str×List Int)->Prop
 |[],[]=>True
 |p::ps,q::qs=>p.1=.inr q.1/\(∃a,p.2=.ref a/\SqU K G a (q.2.map V.int))/\a2R K G ps qs
 |_,_=>False
def a2S(K:Qq)(G:Hp)(v:V):Ob->Prop
 |.exc n=>∃a C HP,v=.ref a/\PySem.W.nsIn K mainGlobals n=some (some (.ref C))/\G a=some (.ext HP)/\PySem.W.KitX K (.ref a) (.ref C) HP/\b0t K (.ref C)
 |.fn n=>∃f,v=.ref f/\PySem.W.nsIn K mainGlobals n=some (some (.ref f))/\PySem.W.KitX K (.ref f) (.type "function") (fun _=>True)
 |.dk kvs=>∃a,v=.ref a/\G a=some (.dK (kvs.map fun p=>(p.1,kV p.2)))
 |.dt kvs=>∃a ps,v=.ref a/\G a=some (.dK ps)/\a2R K G ps kvs
abbrev a4v(k:List Int):List Key:=k.map Sum.inl
def a5o(K:Qq):Addr->List Key->Prop:=fun b k=>SqU K (fun _=>none) b (k.map kV)
mutual
def Rep(K:Qq)(G:Hp):V->D->Prop
 |v,.non=>v=.non
 |v,.bl b=>v=.bl b
 |v,.int i=>v=.int i
 |v,.str x=>v=.str x/\x.length≤sizeLine
 |v,.tup ds=>∃a xs,v=.ref a/\SqU K G a xs/\z9_ K G xs ds
 |v,.lst ds=>∃a xs,v=.ref a/\SqL K G a xs/\z9_ K G xs ds
 |v,.emp=>∃a kvs,v=.ref a/\G a=some (.dK kvs)
 |v,.obj o=>a2S K G v o
 |v,.dct ks vs=>∃a kvs,v=.ref a/\G a=some (.dT (a5o K) kvs)/\kvs.map (·.1)=ks.map a4v/\z9_ K G (kvs.map (·.2)) vs
def z9_(K:Qq)(G:Hp):List V->List D->Prop
 |xs,[]=>xs=[]
 |xs,d::ds=>∃x r,xs=x::r/\Rep K G x d/\z9_ K G r ds
end
def Le(G G':Hp):Prop:=∀b o,G b=some o->G' b=some o
theorem Le.refl{G:Hp}:Le G G:=fun _ _ e=>e
theorem Le.trans{G G1 G2:Hp}(a:Le G G1)(b:Le G1 G2):Le G G2:=fun x o e=>b x o (a x o e)
theorem Le.upd{G:Hp}{a:Addr}{o:HO}(h:G a=none):Le G (upd G a o):=fun b u e=>by rw[q4_ (j3_ e h)];exact e
theorem Le.sqU{K:Qq}{G G':Hp}(l:Le G G'){a:Addr}{xs:List V}(h:SqU K G a xs):SqU K G' a xs:=h.imp (fun e=>l _ _ e) id
theorem Le.sqT{K:Qq}{G G':Hp}(l:Le G G'){a:Addr}{xs:List V}(h:SqU K G a xs):SqT K G' a xs:=(l.sqU h).t
theorem Le.sqT'{K:Qq}{G G':Hp}(l:Le G G'){a:Addr}{xs:List V}(h:SqT K G a xs):SqT K G' a xs:=by
 rcases h with h|h
 ·rcases h with h|⟨o,h⟩
  ·exact .inl (.inl (l _ _ h))
  ·exact .inl (.inr ⟨o,l _ _ h⟩)
 ·exact .inr h
theorem Le.sqL{K:Qq}{G G':Hp}(l:Le G G'){a:Addr}{xs:List V}(h:SqL K G a xs):SqL K G' a xs:=by
 rcases h with h|h
 ·rcases h with h|⟨o,h⟩
  ·exact .inl (.inl (l _ _ h))
  ·exact .inl (.inr ⟨o,l _ _ h⟩)
 ·exact .inr h
theorem a2R.mono{K:Qq}{G G':Hp}(l:Le G G'):∀{ps:List (Key×V)}{qs:List (Str×List Int)},a2R K G ps qs->a2R K G' ps qs
 |[],[],_=>trivial
 |_::_,_::_,⟨h1,⟨a,h2,h3⟩,h4⟩=>⟨h1,⟨a,h2,l.sqU h3⟩,a2R.mono l h4⟩
theorem a2S.mono{K:Qq}{G G':Hp}(l:Le G G'){v:V}:∀{o:Ob},a2S K G v o->a2S K G' v o
 |.exc n,⟨a,C,HP,h1,h2,h3,h4⟩=>⟨a,C,HP,h1,h2,l _ _ h3,h4⟩
 |.fn n,h=>h
 |.dk kvs,⟨a,h1,h2⟩=>⟨a,h1,l _ _ h2⟩
 |.dt kvs,⟨a,ps,h1,h2,h3⟩=>⟨a,ps,h1,l _ _ h2,h3.mono l⟩
mutual
theorem Rep.mono{K:Qq}{G G':Hp}(l:Le G G'):∀(d:D) {v:V},Rep K G v d->Rep K G' v d
 |.non,_,h=>by simpa only[Rep]using h
 |.bl b,_,h=>by simpa only[Rep]using h
 |.int i,_,h=>by simpa only[Rep]using h
 |.str x,_,h=>by simpa only[Rep]using h
 |.tup ds,_,h=>by
  simp only[Rep]at h ⊢;obtain⟨a,xs,e,q,r⟩:=h;exact⟨a,xs,e,l.sqU q,z9_.mono l ds r⟩
 |.lst ds,_,h=>by
  simp only[Rep]at h ⊢;obtain⟨a,xs,e,q,r⟩:=h;exact⟨a,xs,e,l.sqL q,z9_.mono l ds r⟩
 |.emp,_,h=>by
  simp only[Rep]at h ⊢;obtain⟨a,kvs,e,q⟩:=h;exact⟨a,kvs,e,l _ _ q⟩
 |.obj o,_,h=>by
  simp only[Rep]at h ⊢;exact h.mono l
 |.dct ks vs,_,h=>by
  simp only[Rep]at h ⊢;obtain⟨a,kvs,e,q,k,r⟩:=h;exact⟨a,kvs,e,l _ _ q,k,z9_.mono l vs r⟩
theorem z9_.mono{K:Qq}{G G':Hp}(l:Le G G'):∀(ds:List D) {xs:List V},z9_ K G xs ds->z9_ K G' xs ds
 |[],_,h=>by simpa only[z9_]using h
 |d::ds,_,h=>by
  simp only[z9_]at h ⊢;obtain⟨x,r,e,q,t⟩:=h;exact⟨x,r,e,Rep.mono l d q,z9_.mono l ds t⟩
end
theorem repL_nil{K:Qq}{G:Hp}:z9_ K G [] []:=by simp only[z9_]
theorem repL_cons{K:Qq}{G:Hp}{x:V}{xs:List V}{d:D}{ds:List D}(h:Rep K G x d)(t:z9_ K G xs ds):z9_ K G (x::xs) (d::ds):=by
 simp only[z9_];exact⟨x,xs,rfl,h,t⟩
theorem z9_.length{K:Qq}{G:Hp}:∀{ds:List D}{xs:List V},z9_ K G xs ds->xs.length=ds.length
 |[],_,h=>by simp only[z9_]at h;subst h;rfl
 |d::ds,_,h=>by
  simp only[z9_]at h;obtain⟨x,r,e,q,t⟩:=h;subst e
  simp[z9_.length t]
theorem z9_.append{K:Qq}{G:Hp}:∀{ds es:List D}{xs ys:List V},z9_ K G xs ds->z9_ K G ys es->z9_ K G (xs++ys) (ds++es)
 |[],_,_,_,h,t=>by simp only[z9_]at h;subst h;exact t
 |d::ds,_,_,_,h,t=>by
  simp only[z9_]at h;obtain⟨x,r,e,q,u⟩:=h;subst e;exact repL_cons q (z9_.append u t)
theorem z9_.get{K:Qq}{G:Hp}:∀{ds:List D}{xs:List V}{i:Nat}{d:D},z9_ K G xs ds->ds[i]? =some d->∃x,xs[i]? =some x/\Rep K G x d
 |[],_,i,d,h,e=>by simp at e
 |d::ds,_,i,d',h,e=>by
  simp only[z9_]at h;obtain⟨x,r,e1,q,t⟩:=h;subst e1;cases i with
  |zero=>simp at e;subst e;exact⟨x,rfl,q⟩
  |succ i=>simpa using z9_.get (i:=i) t (by simpa using e)
theorem z9_.get'{K:Qq}{G:Hp}{ds:List D}{xs:List V}{i:Nat}{x:V}(h:z9_ K G xs ds)(e:xs[i]? =some x):∃d,ds[i]? =some d/\Rep K G x d:=by
 have hl:=h.length
 have hi:i<xs.length:=(Qg.mp e).1
 obtain⟨x',e',r⟩:=h.get (i:=i) (d:=ds[i]'(by omega)) (by simp)
 rw[e]at e';cases e';exact⟨_,by simp,r⟩
theorem z9_.take{K:Qq}{G:Hp}:∀{ds:List D}{xs:List V}(n:Nat),z9_ K G xs ds->z9_ K G (xs.take n) (ds.take n)
 |_,_,0,_=>by simp[repL_nil]
 |[],_,n+1,h=>by simp only[z9_]at h;subst h;simp[repL_nil]
 |d::ds,_,n+1,h=>by
  simp only[z9_]at h;obtain⟨x,r,e,q,t⟩:=h;subst e;exact repL_cons q (t.take n)
theorem z9_.drop{K:Qq}{G:Hp}:∀{ds:List D}{xs:List V}(n:Nat),z9_ K G xs ds->z9_ K G (xs.drop n) (ds.drop n)
 |_,_,0,h=>h
 |[],_,n+1,h=>by simp only[z9_]at h;subst h;simp[repL_nil]
 |d::ds,_,n+1,h=>by
  simp only[z9_]at h;obtain⟨x,r,e,q,t⟩:=h;subst e;exact t.drop n
theorem z9_.reverse{K:Qq}{G:Hp}:∀{ds:List D}{xs:List V},z9_ K G xs ds->z9_ K G xs.reverse ds.reverse
 |[],_,h=>by simp only[z9_]at h;subst h;simp[repL_nil]
 |d::ds,_,h=>by
  simp only[z9_]at h;obtain⟨x,r,e,q,t⟩:=h;subst e;simp only[Vi];exact t.reverse.append (repL_cons q repL_nil)
theorem z9_.set{K:Qq}{G:Hp}:∀{ds:List D}{xs:List V}{x:V}{d:D}(n:Nat),z9_ K G xs ds->Rep K G x d->z9_ K G (xs.set n x) (ds.set n d)
 |[],_,_,_,n,h,_=>by simp only[z9_]at h;subst h;simp[repL_nil]
 |d::ds,_,_,_,0,h,q'=>by
  simp only[z9_]at h;obtain⟨x,r,e,q,t⟩:=h;subst e;exact repL_cons q' t
 |d::ds,_,_,_,n+1,h,q'=>by
  simp only[z9_]at h;obtain⟨x,r,e,q,t⟩:=h;subst e;exact repL_cons q (t.set n q')
inductive Mu where
 |l (ds:List D)|d (ks:OI) (vs:List D)
 deriving Inhabited
inductive W where
 |nil|dat (d:D)|own (ds:List D)|par (ds:List D)|ownD (ks:OI) (vs:List D)|parD (ks:OI) (vs:List D)
 deriving Inhabited
abbrev Env':=List W
abbrev OZ:=D->Env'->Option Env'
def W.mut:W->Option Mu
 |.own ds=>some (.l ds)
 |.par ds=>some (.l ds)
 |.ownD ks vs=>some (.d ks vs)
 |.parD ks vs=>some (.d ks vs)
 |_=>none
def W.mutL:W->Option (List D)
 |.own ds=>some ds
 |.par ds=>some ds
 |_=>none
def W.mutD:W->Option (OI×List D)
 |.ownD ks vs=>some (ks,vs)
 |.parD ks vs=>some (ks,vs)
 |_=>none
def W.put:W->List D->W
 |.own _,ds=>.own ds
 |.par _,ds=>.par ds
 |w,_=>w
def W.isOwn:W->Bool
 |.own _=>true
 |.ownD _ _=>true
 |_=>false
def W.isPar:W->Bool
 |.par _=>true
 |.parD _ _=>true
 |_=>false
def W.putM(w:W):Mu->W
 |.l ds=>if w.isOwn then .own ds else if w.isPar then .par ds else w
 |.d ks vs=>if w.isOwn then .ownD ks vs else if w.isPar then .parD ks vs else w
theorem W.mutL_of{w:W}{ds:List D}(h:w.mutL=some ds):w.mut=some (.l ds):=by cases w<;>first|(cases h;rfl)|cases h
theorem W.mutD_of{w:W}{ks:OI}{vs:List D}(h:w.mutD=some (ks,vs)):w.mut=some (.d ks vs):=by cases w<;>first|(cases h;rfl)|cases h
theorem W.put_eq{w:W}{ds:List D}(h:w.mutL=some ds)(ds':List D):w.put ds'=w.putM (.l ds'):=by cases w<;>first|rfl|cases h
theorem W.putM_mut{w:W}{m:Mu}(h:w.mut=some m)(m':Mu):(w.putM m').mut=some m':=by
 cases w<;>cases m'<;>first|rfl|cases h
theorem W.putM_own{w:W}{m:Mu}(h:w.mut=some m)(m':Mu):(w.putM m').isOwn=w.isOwn:=by
 cases w<;>cases m'<;>first|rfl|cases h
theorem W.putM_par{w:W}{m:Mu}(h:w.mut=some m)(m':Mu):(w.putM m').isPar=w.isPar:=by
 cases w<;>cases m'<;>first|rfl|cases h
def Owned(σ:St)(env:Env')(a:Addr):Prop:=∃(i:Nat) (w:W) (m:Mu),env[i]? =some w/\w.mut=some m/\σ[i]? =some (some (V.ref a))
theorem own_mut{w:W}(h:w.isOwn=true):∃m,w.mut=some m:=by cases w<;>first|exact⟨_,rfl⟩|cases h
theorem par_mut{w:W}(h:w.isPar=true):∃m,w.mut=some m:=by cases w<;>first|exact⟨_,rfl⟩|cases h
def NT(o:HO):Prop:=∀ps,o≠.tbl ps
theorem nt_lst{xs:List V}:NT (.lst xs):=fun _ z=>by cases z
theorem nt_tup{xs:List V}:NT (.tup xs):=fun _ z=>by cases z
def lamQ(q:Str):Str:=(q++".<locals>.")++"<lambda>"
def tabQ(K:Qq)(P:Addr)(q:Str):Bool:=K.all fun p=>match p.2 with
 |⟨.type "code",_,.fields vs,_⟩=>(match (vs[11]? :Option Value)with|some (.ref P')=>P' !=P|_=>true)||(match vs.toList with|_::.str n _::_=>n==q|_=>false)
 |_=>true
def LamC(K:Qq)(P a:Addr):HO:=.ext fun h=>∀q,tabQ K P q=true->h.CodeRec (.ref a) (lamQ q)
def TabsOk(K:Qq)(H:Hp):Prop:=∀P ps,H P=some (.tbl ps)->TriplesOk ps.toList/\∀pos v,codeAmong pos ps.toList=some v->∃a,v=.ref a/\H a=some (LamC K P a)
theorem TabsOk.mono{K:Qq}{H H':Hp}(t:TabsOk K H)(h1:∀P ps,H' P=some (.tbl ps)->H P=some (.tbl ps))(h2:∀a φ,H a=some (.ext φ)->H' a=some (.ext φ)):TabsOk K H':=fun P ps e=>by
 obtain⟨q1,q2⟩:=t P ps (h1 P ps e);refine⟨q1,fun pos v e=>?_⟩
 obtain⟨a,e1,e2⟩:=q2 pos v e;exact⟨a,e1,h2 _ _ e2⟩
theorem TabsOk.upd{K:Qq}{H:Hp}(t:TabsOk K H){a:Addr}{o:HO}(no:NT o)(h:∀φ,H a≠some (.ext φ)):TabsOk K (upd H a o):=
 t.mono (fun P ps e=>by
  by_cases hb:P=a
  ·subst hb;rw[y6_]at e;cases e;exact absurd rfl (no ps)
  ·rw[q4_ hb]at e;exact e) fun b φ e=>by
  by_cases hb:b=a
  ·subst hb;exact absurd e (h φ)
  ·rw[q4_ hb];exact e
def RepM(K:Qq)(G:Hp)(o:HO):Mu->Prop
 |.l ds=>∃xs,o=.lst xs/\z9_ K G xs ds
 |.d ks vs=>∃kvs,o=.dT (a5o K) kvs/\kvs.map (·.1)=ks.map a4v/\z9_ K G (kvs.map (·.2)) vs
theorem RepM.mono{K:Qq}{G G':Hp}(l:Le G G'){o:HO}:∀{m:Mu},RepM K G o m->RepM K G' o m
 |.l ds,⟨xs,e,r⟩=>⟨xs,e,z9_.mono l ds r⟩
 |.d ks vs,⟨kvs,e,k,r⟩=>⟨kvs,e,k,z9_.mono l vs r⟩
theorem RepM.nt{K:Qq}{G:Hp}{o:HO}:∀{m:Mu},RepM K G o m->NT o
 |.l ds,⟨xs,e,r⟩=>by subst e;exact nt_lst
 |.d ks vs,⟨kvs,e,k,r⟩=>by subst e;exact fun _ z=>by cases z
theorem RepM.ne{K:Qq}{G:Hp}{o:HO}{m:Mu}(r:RepM K G o m):∀φ,o≠.ext φ:=by
 cases m with
 |l ds=>obtain⟨xs,e,_⟩:=r;subst e;exact fun _ z=>by cases z
 |d ks vs=>obtain⟨xs,e,_⟩:=r;subst e;exact fun _ z=>by cases z
structure Rel(K:Qq)(B:OA)(G:Hp)(σ:St)(env:Env')(H:Hp):Prop where
 sub:Le G H
 len:env.length=σ.length
 dat:∀(i:Nat) (d:D),env[i]? =some (.dat d)->∃v,σ[i]? =some (some v)/\Rep K G v d
 own:∀(i:Nat) (w:W) (m:Mu),env[i]? =some w->w.mut=some m->∃a o,σ[i]? =some (some (V.ref a))/\H a=some o/\RepM K G o m/\G a=none
 inj:∀(i j:Nat) (w w':W) (ds es:Mu) (a:Addr),env[i]? =some w->w.mut=some ds->env[j]? =some w'->w'.mut=some es->σ[i]? =some (some (V.ref a))->σ[j]? =some (some (V.ref a))->i=j
 fresh:∀(i:Nat) (w:W) (a:Addr),env[i]? =some w->w.isOwn=true->σ[i]? =some (some (V.ref a))-> ¬ B a
 old:∀b,B b->H b≠none
 tabs:TabsOk K H
 gnt:∀b o,G b=some o->NT o
structure Ev(K:Qq)(B:OA)(G:Hp)(σ:St)(env:Env')(H:Hp)(G':Hp)(σ':St)(env':Env')(H':Hp):Prop where
 rel:Rel K B G' σ' env' H'
 same:Le G G'
 keep:∀b o,¬ Owned σ env b->NT o->H b=some o->H' b=some o
 live:∀b,H b≠none->H' b≠none
 stay:∀b,H b≠none-> ¬ Owned σ env b->G b=none->G' b=none
 sub:∀a,Owned σ' env' a->Owned σ env a∨H a=none
 par:∀(i:Nat) (w:W),env'[i]? =some w->w.isPar=true->σ'[i]? =σ[i]? /\ ∃w0,env[i]? =some w0/\w0.isPar=true
 slen:σ'.length=σ.length
theorem Ev.refl{K:Qq}{B:OA}{G:Hp}{σ:St}{env:Env'}{H:Hp}(r:Rel K B G σ env H):Ev K B G σ env H G σ env H:=
 ⟨r,Le.refl,fun _ _ _ _ e=>e,fun _ e=>e,fun _ _ _ e=>e,fun _ e=>.inl e,fun _ w e h=>⟨rfl,w,e,h⟩,rfl⟩
theorem Ev.trans{K:Qq}{B:OA}{G G1 G2:Hp}{σ σ1 σ2:St}{env env1 env2:Env'}{H H1 H2:Hp}(a:Ev K B G σ env H G1 σ1 env1 H1)(b:Ev K B G1 σ1 env1 H1 G2 σ2 env2 H2):Ev K B G σ env H G2 σ2 env2 H2 where
 rel:=b.rel
 same:=a.same.trans b.same
 keep:=fun x o n t e=>b.keep x o (fun z=>(a.sub x z).elim n fun q=>by rw[e]at q;cases q) t (a.keep x o n t e)
 live:=fun x e=>b.live x (a.live x e)
 stay:=fun x e n g=>b.stay x (a.live x e) (fun z=>(a.sub x z).elim n fun q=>e q) (a.stay x e n g)
 sub:=fun x z=>(b.sub x z).elim (fun q=>a.sub x q) fun q=>.inr (by
  cases h:H x with
  |none=>rfl
  |some o=>exact absurd q (a.live x (by rw[h];simp)))
 par:=fun i w e h=>by
  obtain⟨h1,d1,e1,p1⟩:=b.par i w e h;obtain⟨h2,d2,e2,p2⟩:=a.par i d1 e1 p1;exact⟨h1.trans h2,d2,e2,p2⟩
 slen:=b.slen.trans a.slen
theorem Rel.ownL{K:Qq}{B:OA}{G:Hp}{σ:St}{env:Env'}{H:Hp}(r:Rel K B G σ env H)(i:Nat)(w:W)(ds:List D)(e1:env[i]? =some w)(e2:w.mutL=some ds):∃a xs,σ[i]? =some (some (V.ref a))/\H a=some (.lst xs)/\z9_ K G xs ds/\G a=none:=by
 obtain⟨a,o,h1,h2,⟨xs,rfl,h3⟩,h4⟩:=r.own i w (.l ds) e1 (W.mutL_of e2);exact⟨a,xs,h1,h2,h3,h4⟩
theorem Rel.ownD{K:Qq}{B:OA}{G:Hp}{σ:St}{env:Env'}{H:Hp}(r:Rel K B G σ env H)(i:Nat)(w:W)(ks:OI)(vs:List D)(e1:env[i]? =some w)(e2:w.mutD=some (ks,vs)):∃a kvs,σ[i]? =some (some (V.ref a))/\H a=some (.dT (a5o K) kvs)/\kvs.map (·.1)=ks.map a4v/\z9_ K G (kvs.map (·.2)) vs/\G a=none:=by
 obtain⟨a,o,h1,h2,⟨kvs,rfl,h3,h4⟩,h5⟩:=r.own i w (.d ks vs) e1 (W.mutD_of e2);exact⟨a,kvs,h1,h2,h3,h4,h5⟩
abbrev Mo(α:Type):=Env'->Option (α×Env')
section
variable(K:Qq)(B:OA)
def TD(m:Mo D):TE:=fun σ H Q=>∃G env d env',Rel K B G σ env H/\m env=some (d,env')/\∀v G' H',Ev K B G σ env H G' σ env' H'->Rep K G' v d->Q v H'
def TL(m:Mo (List D)):TE:=fun σ H Q=>∃G env ds env',Rel K B G σ env H/\m env=some (ds,env')/\∀a xs G' H',Ev K B G σ env H G' σ env' H'->H a=none-> ¬ Owned σ env' a->H' a=some (.lst xs)->G' a=none->z9_ K G' xs ds->Q (.ref a) H'
def TTm(m:Mo Bool):TT:=fun σ H Q=>∃G env b env',Rel K B G σ env H/\m env=some (b,env')/\∀G' H',Ev K B G σ env H G' σ env' H'->Q b H'
inductive Ar where
 |d (d:D)|sl (i:Nat)
 deriving Inhabited
def RepA(G:Hp)(σ:St):List V->List Ar->Prop
 |xs,[]=>xs=[]
 |xs,.d d::as=>∃x r,xs=x::r/\Rep K G x d/\RepA G σ r as
 |xs,.sl i::as=>∃x r,xs=x::r/\σ[i]? =some (some x)/\RepA G σ r as
def TAm(m:Mo (List Ar)):TA:=fun σ H Q=>∃G env as env',Rel K B G σ env H/\m env=some (as,env')/\∀vs G' H',Ev K B G σ env H G' σ env' H'->RepA K G' σ vs as->Q vs H'
def TDs(m:Mo (List D)):TA:=fun σ H Q=>∃G env ds env',Rel K B G σ env H/\m env=some (ds,env')/\∀vs G' H',Ev K B G σ env H G' σ env' H'->z9_ K G' vs ds->Q vs H'
inductive Fl where
 |nx|bk|ct|ret (d:D)|retL (ds:List D)
def Post(G:Hp)(σ:St)(env:Env')(H:Hp)(env':Env')(D:Ends):Fl->Prop
 |.nx=>∀σ' G' H',Ev K B G σ env H G' σ' env' H'->D.nx σ' H'
 |.bk=>∀σ' G' H',Ev K B G σ env H G' σ' env' H'->D.bk σ' H'
 |.ct=>∀σ' G' H',Ev K B G σ env H G' σ' env' H'->D.ct σ' H'
 |.ret d=>∀v σ' G' H',Ev K B G σ env H G' σ' env' H'->Rep K G' v d->D.rt v H'
 |.retL ds=>∀a xs σ' G' H',Ev K B G σ env H G' σ' env' H'-> ¬ B a-> ¬ Owned σ' env' a->H' a=some (.lst xs)->G' a=none->z9_ K G' xs ds->D.rt (.ref a) H'
def TSm(m:Mo Fl):TS:=fun D σ H=>∃G env fl env',Rel K B G σ env H/\m env=some (fl,env')/\Post K B G σ env H env' D fl
theorem Post.after{G G1:Hp}{σ σ1:St}{env env1 env':Env'}{H H1:Hp}{D:Ends}{fl:Fl}(k:Post K B G σ env H env' D fl)(ev:Ev K B G σ env H G1 σ1 env1 H1):Post K B G1 σ1 env1 H1 env' D fl:=by
 cases fl with
 |nx=>exact fun σ2 G2 H2 ev2=>k σ2 G2 H2 (ev.trans ev2)
 |bk=>exact fun σ2 G2 H2 ev2=>k σ2 G2 H2 (ev.trans ev2)
 |ct=>exact fun σ2 G2 H2 ev2=>k σ2 G2 H2 (ev.trans ev2)
 |ret d=>exact fun v σ2 G2 H2 ev2=>k v σ2 G2 H2 (ev.trans ev2)
 |retL d=>exact fun a xs σ2 G2 H2 ev2=>k a xs σ2 G2 H2 (ev.trans ev2)
end
abbrev ED(X:Cx)(B:OA)(e:Expr)(m:Mo D):Prop:=PE X e (TD X.K B m)
abbrev EL(X:Cx)(B:OA)(e:Expr)(m:Mo (List D)):Prop:=PE X e (TL X.K B m)
abbrev ET(X:Cx)(B:OA)(e:Expr)(m:Mo Bool):Prop:=PT X e (TTm X.K B m)
abbrev EAr(X:Cx)(B:OA)(es:List Expr)(m:Mo (List Ar)):Prop:=PA X es (TAm X.K B m)
abbrev EDs(X:Cx)(B:OA)(es:List Expr)(m:Mo (List D)):Prop:=PA X es (TDs X.K B m)
abbrev ES(X:Cx)(B:OA)(s:Stmt)(m:Mo Fl):Prop:=PS X s (TSm X.K B m)
abbrev ESs(X:Cx)(B:OA)(s:List Stmt)(m:Mo Fl):Prop:=PSs X s (TSm X.K B m)
theorem pe_imp{X:Cx}{e:Expr}{t t':TE}(h:PE X e t)(i:∀σ H Q,t' σ H Q->t σ H Q):PE X e t':=fun pins s σ H Q I q=>h pins s σ H Q I (i σ H Q q)
theorem pt_imp{X:Cx}{e:Expr}{t t':TT}(h:PT X e t)(i:∀σ H Q,t' σ H Q->t σ H Q):PT X e t':=fun pins s σ H Q I q=>h pins s σ H Q I (i σ H Q q)
theorem pw_imp{X:Cx}{e:Expr}{t t':TT}(h:PW X e t)(i:∀σ H Q,t' σ H Q->t σ H Q):PW X e t':=fun wh pins s σ H Q I q=>h wh pins s σ H Q I (i σ H Q q)
theorem pa_imp{X:Cx}{e:List Expr}{t t':TA}(h:PA X e t)(i:∀σ H Q,t' σ H Q->t σ H Q):PA X e t':=fun pos pins s σ H Q I q=>h pos pins s σ H Q I (i σ H Q q)
theorem ps_imp{X:Cx}{e:Stmt}{t t':TS}(h:PS X e t)(i:∀D σ H,t' D σ H->t D σ H):PS X e t':=fun pins s σ H D I q=>h pins s σ H D I (i D σ H q)
theorem pss_imp{X:Cx}{e:List Stmt}{t t':TS}(h:PSs X e t)(i:∀D σ H,t' D σ H->t D σ H):PSs X e t':=fun pins s σ H D I q=>h pins s σ H D I (i D σ H q)
section
variable{K:Qq}{B:OA}{G G':Hp}{σ σ':St}{env env':Env'}{H H':Hp}
theorem Rel.gnone(r:Rel K B G σ env H){p:Addr}(h:H p=none):G p=none:=by
 cases e:G p with
 |none=>rfl
 |some o=>rw[r.sub p o e]at h;cases h
theorem Rel.unowned(r:Rel K B G σ env H){p:Addr}(h:H p=none):¬ Owned σ env p:=by
 rintro⟨i,w,ds,e1,e2,e3⟩;obtain⟨a,xs,e4,e5,_⟩:=r.own i w ds e1 e2;rw[e3]at e4;cases e4;rw[h]at e5;cases e5
theorem a5p{G:Hp}{p:Addr}{o:HO}(h:∀b o,G b=some o->NT o)(no:NT o):∀b u,upd G p o b=some u->NT u:=fun b u e=>by
 by_cases hb:b=p
 ·subst hb;rw[y6_]at e;cases e;exact no
 ·rw[q4_ hb]at e;exact h b u e
theorem Rel.alloc(r:Rel K B G σ env H){p:Addr}{o:HO}(h:H p=none)(no:NT o:=by intro _ z;cases z):Ev K B G σ env H (upd G p o) σ env (upd H p o):=by
 have gp:=r.gnone h
 refine⟨⟨fun b u e=>?_,r.len,fun i d e=>?_,fun i w ds e1 e2=>?_,r.inj,r.fresh,fun b e=>?_,r.tabs.upd no (fun φ z=>by rw[h]at z;cases z),a5p r.gnt no⟩,Le.upd gp,fun b u _ _ e=>?_,fun b e=>?_,fun b e _ g=>?_,fun a z=>.inl z,fun i w e hp=>⟨rfl,w,e,hp⟩,rfl⟩
 ·by_cases hb:b=p
  ·subst hb;rw[y6_]at e ⊢;exact e
  ·rw[q4_ hb]at e ⊢;exact r.sub b u e
 ·obtain⟨v,e1,e2⟩:=r.dat i d e
  exact⟨v,e1,Rep.mono (Le.upd gp) d e2⟩
 ·obtain⟨a,xs,e3,e4,e5,e6⟩:=r.own i w ds e1 e2
  have ha:a≠p:=j3_ e4 h
  exact⟨a,xs,e3,by rw[q4_ ha];exact e4,e5.mono (Le.upd gp),by rw[q4_ ha];exact e6⟩
 ·by_cases hb:b=p
  ·subst hb;rw[y6_];simp
  ·rw[q4_ hb];exact r.old b e
 ·rw[q4_ (j3_ e h)];exact e
 ·by_cases hb:b=p
  ·subst hb;rw[y6_];simp
  ·rw[q4_ hb];exact e
 ·have hb:b≠p:=fun z=>e (z ▸ h)
  rw[q4_ hb];exact g
theorem Rel.allocM(r:Rel K B G σ env H){p:Addr}{o:HO}(h:H p=none)(no:NT o:=by intro _ z;cases z):Ev K B G σ env H G σ env (upd H p o):=by
 refine⟨⟨fun b u e=>?_,r.len,r.dat,fun i w ds e1 e2=>?_,r.inj,r.fresh,fun b e=>?_,r.tabs.upd no (fun φ z=>by rw[h]at z;cases z),r.gnt⟩,Le.refl,fun b u _ _ e=>?_,fun b e=>?_,fun b e _ g=>g,fun a z=>.inl z,fun i w e hp=>⟨rfl,w,e,hp⟩,rfl⟩
 ·rw[q4_ (j3_ (r.sub b u e) h)];exact r.sub b u e
 ·obtain⟨a,xs,e3,e4,e5,e6⟩:=r.own i w ds e1 e2
  exact⟨a,xs,e3,by rw[q4_ (j3_ e4 h)];exact e4,e5,e6⟩
 ·by_cases hb:b=p
  ·subst hb;rw[y6_];simp
  ·rw[q4_ hb];exact r.old b e
 ·rw[q4_ (j3_ e h)];exact e
 ·by_cases hb:b=p
  ·subst hb;rw[y6_];simp
  ·rw[q4_ hb];exact e
theorem Ev.frz{a:Addr}{xs:List V}(v:Ev K B G σ env H G' σ' env' H')(ha:H a=none)(no:¬ Owned σ' env' a)(h':H' a=some (.lst xs))(g':G' a=none):
  Ev K B G σ env H (upd G' a (.lst xs)) σ' env' H':=by
 refine⟨⟨fun b u e=>?_,v.rel.len,fun i d e=>?_,fun i w ds e1 e2=>?_,v.rel.inj,v.rel.fresh,v.rel.old,v.rel.tabs,a5p v.rel.gnt nt_lst⟩,v.same.trans (Le.upd g'),v.keep,v.live,fun b e n g=>?_,v.sub,v.par,v.slen⟩
 ·by_cases hb:b=a
  ·subst hb;rw[y6_]at e;cases e;exact h'
  ·rw[q4_ hb]at e;exact v.rel.sub b u e
 ·obtain⟨x,e1,e2⟩:=v.rel.dat i d e
  exact⟨x,e1,Rep.mono (Le.upd g') d e2⟩
 ·obtain⟨p,ys,e3,e4,e5,e6⟩:=v.rel.own i w ds e1 e2
  have hp:p≠a:=fun z=>no ⟨i,w,ds,e1,e2,by rw[←z];exact e3⟩
  exact⟨p,ys,e3,e4,e5.mono (Le.upd g'),by rw[q4_ hp];exact e6⟩
 ·have hb:b≠a:=fun z=>e (z ▸ ha)
  rw[q4_ hb];exact v.stay b e n g
theorem b0u{a:Addr}{xs:List V}{ds:List D}(h:G a=some (.lst xs))(r:z9_ K G xs ds):Rep K G (.ref a) (.lst ds):=by
 simp only[Rep];exact⟨a,xs,rfl,.inl (.inl h),r⟩
theorem a2T{a:Addr}{xs:List V}{ds:List D}(h:G a=some (.tup xs))(r:z9_ K G xs ds):Rep K G (.ref a) (.tup ds):=by
 simp only[Rep];exact⟨a,xs,rfl,.inl h,r⟩
theorem Rel.frzSlotM{i:Nat}{w0:W}{m:Mu}{d:D}(r:Rel K B G σ env H)(e:env[i]? =some w0)(em:w0.mut=some m)(hrep:∀G1 a o,G1 a=some o->RepM K G1 o m->Rep K G1 (.ref a) d):
  ∃a o,σ[i]? =some (some (.ref a))/\Rep K (upd G a o) (.ref a) d/\Ev K B G σ env H (upd G a o) σ (env.set i (.dat d)) H:=by
 obtain⟨a,o,e1,e2,e3,e4⟩:=r.own i _ m e em;have rp:Rep K (upd G a o) (.ref a) d:=hrep _ a o y6_ (e3.mono (Le.upd e4));have ow:Owned σ env a:=⟨i,_,m,e,em,e1⟩;have hi:i<env.length:=(Qg.mp e).1;have ne:∀j w es,(env.set i (.dat d))[j]? =some w->w.mut=some es->j≠i/\env[j]? =some w:=fun j w es q1 q2=>by
  by_cases hj:j=i
  ·subst hj;rw[Zg hi]at q1;cases q1;cases q2
  ·rw[Qm (Zy hj)]at q1;exact⟨hj,q1⟩
 refine⟨a,o,e1,rp,⟨⟨fun b u q=>?_,by rw[Zp];exact r.len,fun j d q=>?_,fun j w es q1 q2=>?_,fun j k w w' es fs b q1 q2 q3 q4 q5 q6=>?_,fun j w b q1 qo q2=>?_,r.old,r.tabs,a5p r.gnt e3.nt⟩,Le.upd e4,fun b o _ _ q=>q,fun b q=>q,fun b q n g=>?_,fun b z=>?_,fun j w q qp=>?_,rfl⟩⟩
 ·by_cases hb:b=a
  ·subst hb;rw[y6_]at q;cases q;exact e2
  ·rw[q4_ hb]at q;exact r.sub b u q
 ·by_cases hj:j=i
  ·subst hj;rw[Zg hi]at q;cases q;exact⟨_,e1,rp⟩
  ·rw[Qm (Zy hj)]at q
   obtain⟨x,q1,q2⟩:=r.dat j d q;exact⟨x,q1,Rep.mono (Le.upd e4) d q2⟩
 ·obtain⟨hj,q⟩:=ne j w es q1 q2
  obtain⟨p,ys,e3',e4',e5',e6'⟩:=r.own j w es q q2;have hp:p≠a:=fun z=>hj (r.inj j i w _ es m a q q2 e em (by rw[e3',z]) e1)
  exact⟨p,ys,e3',e4',e5'.mono (Le.upd e4),by rw[q4_ hp];exact e6'⟩
 ·exact r.inj j k w w' es fs b (ne j w es q1 q2).2 q2 (ne k w' fs q3 q4).2 q4 q5 q6
 ·obtain⟨es,hm⟩:=own_mut qo
  exact r.fresh j w b (ne j _ es q1 hm).2 qo q2
 ·have hb:b≠a:=fun z=>n (z ▸ ow)
  rw[q4_ hb];exact g
 ·obtain⟨j,w,es,q1,q2,q3⟩:=z
  exact .inl ⟨j,w,es,(ne j w es q1 q2).2,q2,q3⟩
 ·obtain⟨es,hm⟩:=par_mut qp
  exact⟨rfl,w,(ne j _ es q hm).2,qp⟩
theorem Rel.frzSlot{i:Nat}{ds:List D}(r:Rel K B G σ env H)(e:env[i]? =some (.own ds)):
  ∃a o,σ[i]? =some (some (.ref a))/\Rep K (upd G a o) (.ref a) (.lst ds)/\Ev K B G σ env H (upd G a o) σ (env.set i (.dat (.lst ds))) H:=
 r.frzSlotM (m:=.l ds) e rfl fun G1 a o h ⟨xs,z,q⟩=>by subst z;exact b0u h q
theorem Rel.frzSlotD{i:Nat}{ks:OI}{vs:List D}(r:Rel K B G σ env H)(e:env[i]? =some (.ownD ks vs)):
  ∃a o,σ[i]? =some (some (.ref a))/\Rep K (upd G a o) (.ref a) (.dct ks vs)/\Ev K B G σ env H (upd G a o) σ (env.set i (.dat (.dct ks vs))) H:=
 r.frzSlotM (m:=.d ks vs) e rfl fun G1 a o h ⟨kvs,z,q1,q2⟩=>by subst z;simp only[Rep];exact⟨a,kvs,rfl,h,q1,q2⟩
end
def z0_(i:Nat):Mo D:=fun env=>match env[i]? with
 |some (.dat d)=>some (d,env)
 |some (.own ds)=>some (.lst ds,env.set i (.dat (.lst ds)))
 |some (.ownD ks vs)=>some (.dct ks vs,env.set i (.dat (.dct ks vs)))
 |_=>none
def mC(d:D):Mo D:=fun env=>some (d,env)
section
variable{X:Cx}{B:OA}{pos:Pos}
theorem z3_{i:Nat}{x:Str}(h:PE X (.Name x pos) (a1t i)):ED X B (.Name x pos) (z0_ i):=by
 refine pe_imp h fun σ H Q q=>?_
 obtain⟨G,env,d,env',r,e,k⟩:=q;unfold z0_ at e;split at e
 ·rename_i d' e1
  cases e;obtain⟨v,e2,e3⟩:=r.dat i _ e1;exact⟨v,e2,k v G H (.refl r) e3⟩
 ·rename_i ds e1
  cases e;obtain⟨a,xs,e2,e3,e4⟩:=r.frzSlot e1;exact⟨_,e2,k _ _ H e4 e3⟩
 ·rename_i ks vs e1
  cases e;obtain⟨a,xs,e2,e3,e4⟩:=r.frzSlotD e1;exact⟨_,e2,k _ _ H e4 e3⟩
 ·cases e
theorem a4w{e:Expr}{v:V}{d:D}(h:PE X e (tC v))(hd:∀K G,Rep K G v d):ED X B e (mC d):=by
 refine pe_imp h fun σ H Q q=>?_
 obtain⟨G,env,d',env',r,e,k⟩:=q;cases e;exact k v G H (.refl r) (hd _ _)
theorem z8_{i:Int}{j:Nat}:ED X B (.Constant (.int i) j pos) (mC (.int i)):=a4w a9E fun _ _=>by simp only[Rep]
theorem g2_{b:Bool}{j:Nat}:ED X B (.Constant (.bool b) j pos) (mC (.bl b)):=a4w b4d fun _ _=>by simp only[Rep]
theorem a3P{j:Nat}:ED X B (.Constant .none j pos) (mC .non):=a4w a9F fun _ _=>by simp only[Rep]
theorem g3_{x:Str}{j:Nat}(hx:x.length≤1000):ED X B (.Constant (.str x) j pos) (mC (.str x)):=a4w a1M fun _ _=>by simp only[Rep];exact⟨trivial,Jj (a3O hx)⟩
theorem b5J{x:Str}{i:Int}{t:Tok}(hg:Gl X x)(hm:X.mg x=some (.int i t))(hd:(x==("__debug__":Str))=false:=by decide):ED X B (.Name x pos) (mC (.int i)):=
 a4w (a5h (v:=.int i) hg hm ⟨t,rfl⟩ hd) fun _ _=>by simp only[Rep]
def z4_(f:D->D->Option D)(ma mb:Mo D):Mo D:=fun env=>(ma env).bind fun p=>(mb p.2).bind fun q=>(f p.1 q.1).map fun d=>(d,q.2)
def OpD(X:Cx)(B:OA)(r:R2)(f:D->D->Option D):Prop:=
 ∀(G:Hp) (σ:St) (env:Env') (H:Hp) (x y:V) (a b c:D) (Q:VK),Rel X.K B G σ env H->Rep X.K G x a->Rep X.K G y b->f a b=some c->
  (∀v G' H',Ev X.K B G σ env H G' σ env H'->Rep X.K G' v c->Q v H')->r x y H Q
theorem a4x{r:R2}{f:D->D->Option D}{ma mb:Mo D}(o:OpD X B r f):∀σ H Q,TD X.K B (z4_ f ma mb) σ H Q->tOp r (TD X.K B ma) (TD X.K B mb) σ H Q:=by
 rintro σ H Q ⟨G,env,d,env',rl,e,k⟩;unfold z4_ at e;cases ea:ma env with
 |none=>rw[ea]at e;cases e
 |some p=>
  obtain⟨d1,env1⟩:=p;rw[ea]at e;simp only[Qx]at e;cases eb:mb env1 with
  |none=>rw[eb]at e;cases e
  |some p=>
   obtain⟨d2,env2⟩:=p;rw[eb]at e;simp only[Qx]at e;cases ef:f d1 d2 with
   |none=>rw[ef]at e;cases e
   |some c=>
    rw[ef]at e;cases e;refine⟨G,env,d1,env1,rl,ea,fun v1 G1 H1 v r1=>⟨G1,env1,d2,_,v.rel,eb,fun v2 G2 H2 v' r2=>?_⟩⟩
    exact o G2 σ _ H2 v1 v2 d1 d2 _ Q v'.rel (Rep.mono v'.same _ r1) r2 ef fun v3 G3 H3 v3' r3=>k v3 G3 H3 ((v.trans v').trans v3') r3
theorem v3_{op:Operator}{r:R2}{f:D->D->Option D}{a b:Expr}{ma mb:Mo D}(ho:OpR X (binaryOp op) r)(o:OpD X B r f)(ha:ED X B a ma)(hb:ED X B b mb):ED X B (.BinOp a op b pos) (z4_ f ma mb):=
 pe_imp (a9N ho ha hb) (a4x o)
theorem a2U{op:CmpOp}{r:R2}{f:D->D->Option D}{a b:Expr}{ma mb:Mo D}(ho:OpR X (compareOp op) r)(o:OpD X B r f)(ha:ED X B a ma)(hb:ED X B b mb)(hm:behindInMarks op b=false):ED X B (.Compare a [op] [b] pos) (z4_ f ma mb):=
 pe_imp (b5b ho ha hb hm) (a4x o)
def fI(C:Int->Int->Bool)(g:Int->Int->D):D->D->Option D
 |.int i,.int j=>if C i j then some (g i j)else none
 |_,_=>none
theorem a5q{C:Int->Int->Prop}{c:Int->Int->Bool}{g:Int->Int->V}{g':Int->Int->D}(hc:∀i j,c i j=true->C i j)(hg:∀K G i j,Rep K G (g i j) (g' i j)):OpD X B (rI C g) (fI c g'):=by
 intro G σ env H x y a b d Q rl ra rb e k;cases a<;>cases b<;>first|(exact absurd (show(none:Option D)=some d from e) (by simp))|skip
 rename_i i j;simp only[Rep]at ra rb;subst ra rb;simp only[fI]at e;split at e
 ·rename_i h
  cases e;exact⟨i,j,rfl,rfl,hc i j h,k _ G H (.refl rl) (hg _ _ i j)⟩
 ·cases e
theorem a4y{g:Int->Int->V}{g':Int->Int->D}(hg:∀K G i j,Rep K G (g i j) (g' i j)):OpD X B (rI0 g) (fI (fun _ _=>true) g'):=by
 intro G σ env H x y a b d Q rl ra rb e k;cases a<;>cases b<;>first|(exact absurd (show(none:Option D)=some d from e) (by simp))|skip
 rename_i i j;simp only[Rep]at ra rb;subst ra rb;simp only[fI,Zs]at e;cases e;exact⟨i,j,rfl,rfl,k _ G H (.refl rl) (hg _ _ i j)⟩
theorem OpR.or{f:Value->Value->Sem Value}{r r':R2}(h:OpR X f r)(h':OpR X f r'):OpR X f (fun x y H Q=>r x y H Q∨r' x y H Q):=by
 intro pins s σ H x y v u Q I rx ry q
 rcases q with q|q
 ·exact h pins s σ H x y v u Q I rx ry q
 ·exact h' pins s σ H x y v u Q I rx ry q
def fOr(f g:D->D->Option D):D->D->Option D:=fun a b=>match f a b with
 |some c=>some c
 |none=>g a b
theorem OpD.or{r r':R2}{f g:D->D->Option D}(h:OpD X B r f)(h':OpD X B r' g):OpD X B (fun x y H Q=>r x y H Q∨r' x y H Q) (fOr f g):=by
 intro G σ env H x y a b d Q rl ra rb e k;unfold fOr at e;split at e
 ·rename_i c ec
  cases e;exact .inl (h G σ env H x y a b _ Q rl ra rb ec k)
 ·exact .inr (h' G σ env H x y a b d Q rl ra rb e k)
def a2V(i j:Int):Bool:=(decide (-(2^64)<i)&&decide (i<2^64))||(decide (-(2^64)<j)&&decide (j<2^64))
def a5r(_ j:Int):Bool:=decide (0<j)&&decide (j<1073741824)
def a5s(i j:Int):Bool:=decide (0≤j)&&decide (j≤1000000)&&decide (i.natAbs<2^64)
def y0_:=fI (fun _ _=>true) fun i j=>.int (i-j)
def a6R:=fI a2V fun i j=>.int (i * j)
def a4z:=fI a5r fun i j=>.int (i/j)
def g4_:=fI (fun _ j=>decide (0<j)) fun i j=>.int (i%j)
def a1g:=fI a5s fun i j=>.int (i^j.toNat)
def a5t:=fI (fun _ _=>true) fun i j=>.int (i+j)
def dLt:=fI (fun _ _=>true) fun i j=>.bl (decide (i<j))
def dLe:=fI (fun _ _=>true) fun i j=>.bl (decide (i≤j))
def dGe:=fI (fun _ _=>true) fun i j=>.bl (decide (j≤i))
theorem u1_:OpD X B (rI0 fun i j=>.int (i-j)) y0_:=a4y fun _ _ _ _=>by simp only[Rep]
theorem b0v:OpD X B (rI0 fun i j=>.int (i+j)) a5t:=a4y fun _ _ _ _=>by simp only[Rep]
theorem b5K:OpD X B (rI a2N fun i j=>.int (i * j)) a6R:=a5q (fun i j h=>by simpa [a2N,a2V]using h) fun _ _ _ _=>by simp only[Rep]
theorem b0w:OpD X B (rI a6B fun i j=>.int (i/j)) a4z:=a5q (fun i j h=>by simpa [a6B,a5r]using h) fun _ _ _ _=>by simp only[Rep]
theorem a2e:OpD X B (rI (fun _ j=>0<j) fun i j=>.int (i%j)) g4_:=a5q (fun i j h=>by simpa using h) fun _ _ _ _=>by simp only[Rep]
theorem a6S:OpD X B (rI a6C fun i j=>.int (i^j.toNat)) a1g:=a5q (fun i j h=>by simpa [a6C,a5s,and_assoc]using h) fun _ _ _ _=>by simp only[Rep]
theorem b5L:OpD X B (rI0 fun i j=>.bl (decide (i<j))) dLt:=a4y fun _ _ _ _=>by simp only[Rep]
theorem a1x:OpD X B (rI0 fun i j=>.bl (decide (i≤j))) dLe:=a4y fun _ _ _ _=>by simp only[Rep]
theorem b5M:OpD X B (rI0 fun i j=>.bl (decide (j≤i))) dGe:=a4y fun _ _ _ _=>by simp only[Rep]
end
section
variable{X:Cx}{B:OA}{pos:Pos}{a b c e:Expr}{ma mb mc:Mo D}{ta tb:Mo Bool}
theorem TD.bind{K:Qq}{m:Mo D}{σ:St}{H:Hp}{Q:VK}{G:Hp}{env env':Env'}{d:D}(r:Rel K B G σ env H)(e:m env=some (d,env'))
  (k:∀v G' H',Ev K B G σ env H G' σ env' H'->Rep K G' v d->Q v H'):TD K B m σ H Q:=⟨G,env,d,env',r,e,k⟩
def asB:D×Env'->Option (Bool×Env')
 |(.bl b,e)=>some (b,e)
 |_=>none
def mT(m:Mo D):Mo Bool:=fun env=>(m env).bind asB
theorem a6T{t:TE}{m:Mo D}(i:∀σ H Q,TD X.K B m σ H Q->t σ H Q)(mono:True):∀σ H Q,TTm X.K B (mT m) σ H Q->(fun σ H (Q:Bool->Hp->Prop)=>t σ H fun x H'=>∃k,x=.bl k/\Q k H') σ H Q:=by
 rintro σ H Q ⟨G,env,b,env',rl,e,k⟩;unfold mT at e;cases em:m env with
 |none=>rw[em]at e;cases e
 |some p=>
  obtain⟨d,env1⟩:=p;rw[em]at e;simp only[Qx]at e;cases d<;>first|(exact absurd (show(none:Option (Bool×Env'))=some (b,env')from e) (by simp))|skip
  cases e;refine i σ H _ (.bind rl em fun v G' H' ev r=>?_)
  simp only[Rep]at r;exact⟨_,r,k G' H' ev⟩
theorem u8_(h:ED X B e ma)(he:∀whole,isTrue e X.env whole=(do let v←whole;standAt e.pos;holding [v] (truthy v)):=by intro _;rfl):ET X B e (mT ma):=
 pt_imp (b4f h he) (a6T (fun _ _ _ q=>q) trivial)
theorem a0e{op:CmpOp}{r:R2}{f:D->D->Option D}(ho:OpR X (compareOp op) r)(o:OpD X B r f)(ha:ED X B a ma)(hb:ED X B b mb)(hm:behindInMarks op b=false):ET X B (.Compare a [op] [b] pos) (mT (z4_ f ma mb)):=
 pt_imp (b5c ho ha hb hm) (a6T (a4x o) trivial)
def y8_(t:Mo Bool):Mo Bool:=fun env=>(t env).map fun p=>(!p.1,p.2)
theorem u9_(h:ET X B a ta):ET X B (.UnaryOp .Not a pos) (y8_ ta):=by
 refine pt_imp (b4l h) ?_
 rintro σ H Q ⟨G,env,b,env',rl,e,k⟩;unfold y8_ at e;cases em:ta env with
 |none=>rw[em]at e;cases e
 |some p=>rw[em]at e;cases e;exact⟨G,env,_,_,rl,em,k⟩
def a5u(t u:Mo Bool):Mo Bool:=fun env=>(t env).bind fun p=>if p.1 then u p.2 else some (false,p.2)
def g5_(t u:Mo Bool):Mo Bool:=fun env=>(t env).bind fun p=>if p.1 then some (true,p.2)else u p.2
theorem b5N:∀σ H Q,TTm X.K B (a5u ta tb) σ H Q->a9G (TTm X.K B ta) (TTm X.K B tb) σ H Q:=by
 rintro σ H Q ⟨G,env,b,env',rl,e,k⟩;unfold a5u at e;cases em:ta env with
 |none=>rw[em]at e;cases e
 |some p=>
  obtain⟨b1,env1⟩:=p;rw[em]at e;simp only[Qx]at e;refine⟨G,env,b1,env1,rl,em,fun G1 H1 ev=>?_⟩
  cases b1 with
  |true=>
   simp only[Zs]at e ⊢;exact⟨G1,env1,b,env',ev.rel,e,fun G2 H2 ev2=>k G2 H2 (ev.trans ev2)⟩
  |false=>
   simp only[Zh,Jx]at e ⊢;cases e;exact k G1 H1 ev
theorem b5O:∀σ H Q,TTm X.K B (g5_ ta tb) σ H Q->tOr (TTm X.K B ta) (TTm X.K B tb) σ H Q:=by
 rintro σ H Q ⟨G,env,b,env',rl,e,k⟩;unfold g5_ at e;cases em:ta env with
 |none=>rw[em]at e;cases e
 |some p=>
  obtain⟨b1,env1⟩:=p;rw[em]at e;simp only[Qx]at e;refine⟨G,env,b1,env1,rl,em,fun G1 H1 ev=>?_⟩
  cases b1 with
  |false=>
   simp only[Zh,Jx]at e ⊢;exact⟨G1,env1,b,env',ev.rel,e,fun G2 H2 ev2=>k G2 H2 (ev.trans ev2)⟩
  |true=>
   simp only[Zs]at e ⊢;cases e;exact k G1 H1 ev
abbrev EW(X:Cx)(B:OA)(e:Expr)(m:Mo Bool):Prop:=PW X e (TTm X.K B m)
variable{rest:List Expr}
theorem b5P(h:ET X B a ta):EW X B (.BoolOp .And [a] pos) ta:=b4h h
theorem a2W(h:ET X B a ta):EW X B (.BoolOp .Or [a] pos) ta:=b4i h
theorem b5Q(h:ET X B a ta)(h2:EW X B (.BoolOp .And (b::rest) pos) tb):EW X B (.BoolOp .And (a::b::rest) pos) (a5u ta tb):=pw_imp (b4j h h2) b5N
theorem a2X(h:ET X B a ta)(h2:EW X B (.BoolOp .Or (b::rest) pos) tb):EW X B (.BoolOp .Or (a::b::rest) pos) (g5_ ta tb):=pw_imp (b4k h h2) b5O
theorem a2f(h:EW X B e ta):ET X B e ta:=h.pt
def u4_(m n:Mo D):Mo D:=fun env=>(m env).bind fun p=>match p.1 with
 |.bl true=>n p.2
 |.bl false=>some (.bl false,p.2)
 |_=>none
theorem a3Q{op}(h:ED X B a ma):ED X B (.BoolOp op [a] pos) ma:=b4o h
theorem a2Y(ha:ED X B a ma)(hb:ED X B (.BoolOp .And (b::rest) pos) mb):ED X B (.BoolOp .And (a::b::rest) pos) (u4_ ma mb):=by
 refine pe_imp (b4p ha hb) ?_
 rintro σ H Q ⟨G,env,d,env',rl,e,k⟩;unfold u4_ at e;cases em:ma env with
 |none=>rw[em]at e;cases e
 |some p=>
  obtain⟨d1,env1⟩:=p;rw[em]at e;simp only[Qx]at e;refine .bind rl em fun v G1 H1 ev r1=>?_
  split at e
  ·simp only[Rep]at r1
   exact⟨true,r1,by simp only[Zs];exact .bind ev.rel e fun v2 G2 H2 ev2 r2=>k v2 G2 H2 (ev.trans ev2) r2⟩
  ·simp only[Rep]at r1
   cases e;exact⟨false,r1,by simp only[Zh,Jx];exact k _ G1 H1 ev (by simp only[Rep])⟩
  ·cases e
def a5v(m:Mo D):Mo D:=fun env=>(m env).bind fun p=>match p.1 with
 |.bl b=>some (.bl (!b),p.2)
 |_=>none
theorem b0x(ha:ED X B a ma):ED X B (.UnaryOp .Not a pos) (a5v ma):=by
 refine pe_imp (b4q ha) ?_
 rintro σ H Q ⟨G,env,d,env',rl,e,k⟩;unfold a5v at e;cases em:ma env with
 |none=>rw[em]at e;cases e
 |some p=>
  obtain⟨d1,env1⟩:=p;rw[em]at e;simp only[Qx]at e;refine .bind rl em fun v G1 H1 ev r1=>?_
  split at e
  ·rename_i b1
   simp only[Rep]at r1;cases e;exact⟨b1,r1,k _ G1 H1 ev (by simp only[Rep])⟩
  ·cases e
def a0T(m:Mo D):Mo D:=fun env=>(m env).bind fun p=>match p.1 with
 |.int b=>some (.int (-b),p.2)
 |_=>none
theorem a5w(ha:ED X B a ma):ED X B (.UnaryOp .USub a pos) (a0T ma):=by
 refine pe_imp (a9O a9Q ha) ?_
 rintro σ H Q ⟨G,env,d,env',rl,e,k⟩;unfold a0T at e;cases em:ma env with
 |none=>rw[em]at e;cases e
 |some p=>
  obtain⟨d1,env1⟩:=p;rw[em]at e;simp only[Qx]at e;refine .bind rl em fun v G1 H1 ev r1=>?_
  split at e
  ·rename_i b1
   simp only[Rep]at r1;cases e;exact⟨b1,r1,k _ G1 H1 ev (by simp only[Rep])⟩
  ·cases e
def a0C(f g:D->D->Option D)(ma mb mc:Mo D):Mo D:=fun env=>(ma env).bind fun p=>(mb p.2).bind fun q=>match f p.1 q.1 with
 |some (.bl true)=>(mc q.2).bind fun r=>(g q.1 r.1).map fun d=>(d,r.2)
 |some (.bl false)=>some (.bl false,q.2)
 |_=>none
theorem b0y{r r':R2}{f g:D->D->Option D}(o:OpD X B r f)(o':OpD X B r' g):∀σ H Q,TD X.K B (a0C f g ma mb mc) σ H Q->a6E r r' (TD X.K B ma) (TD X.K B mb) (TD X.K B mc) σ H Q:=by
 rintro σ H Q ⟨G,env,d,env',rl,e,k⟩;unfold a0C at e;cases ea:ma env with
 |none=>rw[ea]at e;cases e
 |some p=>
  obtain⟨d1,env1⟩:=p;rw[ea]at e;simp only[Qx]at e;cases eb:mb env1 with
  |none=>rw[eb]at e;cases e
  |some p=>
   obtain⟨d2,env2⟩:=p;rw[eb]at e;simp only[Qx]at e;refine .bind rl ea fun v1 G1 H1 ev1 r1=>.bind ev1.rel eb fun v2 G2 H2 ev2 r2=>?_
   split at e
   ·rename_i ef
    refine o G2 σ _ H2 v1 v2 d1 d2 _ _ ev2.rel (Rep.mono ev2.same _ r1) r2 ef fun v3 G3 H3 ev3 r3=>?_
    simp only[Rep]at r3;refine⟨true,r3,?_⟩;simp only[Zs];cases ec:mc env2 with
    |none=>rw[ec]at e;cases e
    |some p=>
     obtain⟨d3,env3⟩:=p;rw[ec]at e;simp only[Qx]at e;cases eg:g d2 d3 with
     |none=>rw[eg]at e;cases e
     |some d4=>
      rw[eg]at e;cases e;refine .bind ev3.rel ec fun v4 G4 H4 ev4 r4=>?_
      exact o' G4 σ _ H4 v2 v4 d2 d3 _ Q ev4.rel (Rep.mono ev4.same _ (Rep.mono ev3.same _ r2)) r4 eg fun v5 G5 H5 ev5 r5=>k v5 G5 H5 ((((ev1.trans ev2).trans ev3).trans ev4).trans ev5) r5
   ·rename_i ef
    cases e;refine o G2 σ _ H2 v1 v2 d1 d2 _ _ ev2.rel (Rep.mono ev2.same _ r1) r2 ef fun v3 G3 H3 ev3 r3=>?_
    simp only[Rep]at r3;refine⟨false,r3,?_⟩;simp only[Zh,Jx];exact k _ G3 H3 ((ev1.trans ev2).trans ev3) (by simp only[Rep])
   ·cases e
theorem b5R{op op':CmpOp}{r r':R2}{f g:D->D->Option D}(ho:OpR X (compareOp op) r)(ho':OpR X (compareOp op') r')(o:OpD X B r f)(o':OpD X B r' g)(ha:ED X B a ma)(hb:ED X B b mb)(hc:ED X B c mc)
  (hm:lastMarks [op,op'] [b,c]=false:=by with_unfolding_all rfl):ED X B (.Compare a [op,op'] [b,c] pos) (a0C f g ma mb mc):=pe_imp (b5d ho ho' ha hb hc hm) (b0y o o')
theorem a5x{op op':CmpOp}{r r':R2}{f g:D->D->Option D}(ho:OpR X (compareOp op) r)(ho':OpR X (compareOp op') r')(o:OpD X B r f)(o':OpD X B r' g)(ha:ED X B a ma)(hb:ED X B b mb)(hc:ED X B c mc)
  (hm:lastMarks [op,op'] [b,c]=false:=by with_unfolding_all rfl):ET X B (.Compare a [op,op'] [b,c] pos) (mT (a0C f g ma mb mc)):=pt_imp (b5e ho ho' ha hb hc hm) (a6T (b0y o o') trivial)
variable{es:List Expr}{ms:Mo (List D)}{as:Mo (List Ar)}
def z5_:Mo (List D):=fun env=>some ([],env)
def z1_(m:Mo D)(ms:Mo (List D)):Mo (List D):=fun env=>(m env).bind fun p=>(ms p.2).map fun q=>(p.1::q.1,q.2)
theorem q1_:EDs X B [] z5_:=by
 refine pa_imp a2d ?_
 rintro σ H Q ⟨G,env,d,env',rl,e,k⟩;cases e;exact k [] G H (.refl rl) repL_nil
theorem z6_(ha:ED X B e ma)(hr:EDs X B es ms)(hs:starEach (e::es) X.env=(false,eval e X.env)::starEach es X.env:=by rfl):EDs X B (e::es) (z1_ ma ms):=by
 refine pa_imp (a0t ha hr hs) ?_
 rintro σ H Q ⟨G,env,d,env',rl,e,k⟩;unfold z1_ at e;cases ea:ma env with
 |none=>rw[ea]at e;cases e
 |some p=>
  obtain⟨d1,env1⟩:=p;rw[ea]at e;simp only[Qx]at e;cases eb:ms env1 with
  |none=>rw[eb]at e;cases e
  |some p=>
   obtain⟨d2,env2⟩:=p;rw[eb]at e;cases e;exact .bind rl ea fun v1 G1 H1 ev1 r1=>⟨G1,env1,d2,_,ev1.rel,eb,fun vs G2 H2 ev2 r2=>k _ G2 H2 (ev1.trans ev2) (repL_cons (Rep.mono ev2.same _ r1) r2)⟩
def q0_:Mo (List Ar):=fun env=>some ([],env)
def z7_(m:Mo D)(ms:Mo (List Ar)):Mo (List Ar):=fun env=>(m env).bind fun p=>(ms p.2).map fun q=>(.d p.1::q.1,q.2)
def x0_(i:Nat)(ms:Mo (List Ar)):Mo (List Ar):=fun env=>((env[i]?).bind W.mut).bind fun _=>(ms env).map fun q=>(.sl i::q.1,q.2)
theorem v7_:EAr X B [] q0_:=by
 refine pa_imp a2d ?_
 rintro σ H Q ⟨G,env,d,env',rl,e,k⟩;cases e;exact k [] G H (.refl rl) (by simp only[RepA])
theorem q7_(ha:ED X B e ma)(hr:EAr X B es as)(hs:starEach (e::es) X.env=(false,eval e X.env)::starEach es X.env:=by rfl):EAr X B (e::es) (z7_ ma as):=by
 refine pa_imp (a0t ha hr hs) ?_
 rintro σ H Q ⟨G,env,d,env',rl,e,k⟩;unfold z7_ at e;cases ea:ma env with
 |none=>rw[ea]at e;cases e
 |some p=>
  obtain⟨d1,env1⟩:=p;rw[ea]at e;simp only[Qx]at e;cases eb:as env1 with
  |none=>rw[eb]at e;cases e
  |some p=>
   obtain⟨d2,env2⟩:=p;rw[eb]at e;cases e;exact .bind rl ea fun v1 G1 H1 ev1 r1=>⟨G1,env1,d2,_,ev1.rel,eb,fun vs G2 H2 ev2 r2=>k _ G2 H2 (ev1.trans ev2) (by simp only[RepA];exact⟨_,_,rfl,Rep.mono ev2.same _ r1,r2⟩)⟩
theorem a0a{i:Nat}{x:Str}{p:Pos}(ha:PE X (.Name x p) (a1t i))(hr:EAr X B es as)(hs:starEach (.Name x p::es) X.env=(false,eval (.Name x p) X.env)::starEach es X.env:=by rfl):EAr X B (.Name x p::es) (x0_ i as):=by
 refine pa_imp (a0t ha hr hs) ?_
 rintro σ H Q ⟨G,env,d,env',rl,e,k⟩;unfold x0_ at e;cases ew:env[i]? with
 |none=>rw[ew]at e;cases e
 |some w=>
  rw[ew]at e;simp only[Qx]at e;cases em:w.mut with
  |none=>rw[em]at e;cases e
  |some ds=>
   rw[em]at e;simp only[Qx]at e;cases eb:as env with
   |none=>rw[eb]at e;cases e
   |some p=>
    obtain⟨d2,env2⟩:=p;rw[eb]at e;cases e;obtain⟨a',xs,hv,_⟩:=rl.own i w ds ew em;exact⟨_,hv,G,env,d2,_,rl,eb,fun vs G2 H2 ev2 r2=>k _ G2 H2 ev2 (by simp only[RepA];exact⟨_,_,rfl,hv,r2⟩)⟩
end
section
variable{X:Cx}{B:OA}{pos:Pos}{a b c e:Expr}{ma mb mc:Mo D}{ms:Mo (List D)}{es:List Expr}
theorem q6_{α β:Type}{o:Option α}{f:α->Option β}{y:β}(h:o.bind f=some y):∃x,o=some x/\f x=some y:=by
 cases o with
 |none=>cases h
 |some x=>exact⟨x,rfl,h⟩
theorem y5_{α β:Type}{o:Option α}{f:α->β}{y:β}(h:o.map f=some y):∃x,o=some x/\f x=y:=by
 cases o with
 |none=>cases h
 |some x=>exact⟨x,rfl,Yj h⟩
def q9_(ms:Mo (List D)):Mo D:=fun env=>(ms env).bind fun p=>if p.1.length≤1000 then some (.tup p.1,p.2)else none
theorem x1_{x1:Nat}(h:EDs X B es ms):ED X B (.Tuple es x1 pos) (q9_ ms):=by
 refine pe_imp (a9T h) ?_
 rintro σ H Q ⟨G,env,d,env',rl,e,k⟩;obtain⟨⟨ds,env1⟩,e1,e2⟩:=q6_ e;dsimp only at e2;split at e2
 ·rename_i hl
  cases e2;refine⟨G,env,ds,_,rl,e1,fun vs G1 H1 ev r1=>⟨by rw[r1.length];exact Jj (a3O hl),fun p hp=>?_⟩⟩
  exact k _ _ _ (ev.trans (ev.rel.alloc hp)) (a2T y6_ (z9_.mono (Le.upd (ev.rel.gnone hp)) _ r1))
 ·cases e2
def x4_(ms:Mo (List D)):Mo (List D):=fun env=>(ms env).bind fun p=>if p.1.length≤1000 then some p else none
theorem a6U{K:Qq}{G G1:Hp}{σ:St}{env env1:Env'}{H H1:Hp}{p:Addr}{xs:List V}{ds:List D}{Q:VK}(ev:Ev K B G σ env H G1 σ env1 H1)(hp:H1 p=none)(r:z9_ K G1 xs ds)
  (k:∀a xs G' H',Ev K B G σ env H G' σ env1 H'->H a=none-> ¬ Owned σ env1 a->H' a=some (.lst xs)->G' a=none->z9_ K G' xs ds->Q (.ref a) H'):Q (.ref p) (upd H1 p (.lst xs)):=by
 refine k p xs G1 _ (ev.trans (ev.rel.allocM hp)) ?_ (ev.rel.unowned hp) y6_ (ev.rel.gnone hp) r;cases h:H p with
 |none=>rfl
 |some o=>exact absurd hp (ev.live p (by rw[h];simp))
theorem j7_(h:EDs X B es ms):EL X B (.List es pos) (x4_ ms):=by
 refine pe_imp (b5m h) ?_
 rintro σ H Q ⟨G,env,d,env',rl,e,k⟩;obtain⟨⟨ds,env1⟩,e1,e2⟩:=q6_ e;dsimp only at e2;split at e2
 ·rename_i hl
  cases e2;exact⟨G,env,_,_,rl,e1,fun vs G1 H1 ev r1=>⟨by rw[r1.length];exact Jj (a3O hl),fun p hp=>a6U ev hp r1 k⟩⟩
 ·cases e2
def mF(m:Mo (List D)):Mo D:=fun env=>(m env).map fun p=>(.lst p.1,p.2)
theorem x8_(h:EL X B e ms):ED X B e (mF ms):=by
 refine pe_imp h ?_
 rintro σ H Q ⟨G,env,d,env',rl,e,k⟩;obtain⟨⟨ds,env1⟩,e1,e2⟩:=y5_ e;cases e2;exact⟨G,env,ds,_,rl,e1,fun a xs G' H' ev ha no h' g' r=>k (.ref a) _ H' (ev.frz ha no h' g') (b0u y6_ (z9_.mono (Le.upd g') ds r))⟩
theorem a6V{K:Qq}{G:Hp}{xs:List V}{ds:List D}{k:Int}{d:D}(r:z9_ K G xs ds)(h:atI ds k=some d):∃x,atI xs k=some x/\Rep K G x d:=by
 unfold atI at h ⊢;rw[r.length];obtain⟨j,e1,e2⟩:=q6_ h;rw[e1];exact r.get e2
def dIx:D->D->Option D
 |.lst ds,.int k=>atI ds k
 |.tup ds,.int k=>atI ds k
 |_,_=>none
theorem b0z:OpD X B (rIx X.K) dIx:=by
 intro G σ env H x y a b d Q rl ra rb e k;cases a<;>cases b<;>first|(exact absurd (show(none:Option D)=some d from e) (by simp))|skip
 ·simp only[Rep]at ra rb
  obtain⟨p,xs,e1,q,r⟩:=ra;subst e1 rb;obtain⟨v,e3,e4⟩:=a6V r e;exact .inr (.inl ⟨p,xs,_,v,rfl,rfl,rl.sub.sqT q,e3,k v G H (.refl rl) e4⟩)
 ·simp only[Rep]at ra rb
  obtain⟨p,xs,e1,q,r⟩:=ra;subst e1 rb;obtain⟨v,e3,e4⟩:=a6V r e;exact .inl ⟨p,xs,_,v,rfl,rfl,rl.sub.sqL q,e3,k v G H (.refl rl) e4⟩
theorem a0f(ha:ED X B a ma)(hb:ED X B b mb)(hs:a4u b):ED X B (.Subscript a b pos) (z4_ dIx ma mb):=pe_imp (a6M b0j ha hb hs) (a4x b0z)
def w7_(i:Nat)(mb:Mo D):Mo D:=fun env=>(mb env).bind fun p=>((p.2[i]?).bind W.mutL).bind fun ds=>(dIx (.lst ds) p.1).map fun d=>(d,p.2)
theorem a1O{i:Nat}{x:Str}{p:Pos}(ha:PE X (.Name x p) (a1t i))(hb:ED X B b mb)(hs:a4u b)(hr:∀env d env' w ds,mb env=some (d,env')->env'[i]? =some w->w.mut=some ds->∃w0 ds0,env[i]? =some w0/\w0.mut=some ds0):
  ED X B (.Subscript (.Name x p) b pos) (w7_ i mb):=by
 refine pe_imp (a6M b0h ha hb hs) ?_
 rintro σ H Q ⟨G,env,d,env',rl,e,k⟩;obtain⟨⟨d1,env1⟩,e1,e2⟩:=q6_ e;obtain⟨ds,e3,e4⟩:=q6_ e2;obtain⟨w,e5,e6⟩:=q6_ e3;obtain⟨d2,e7,e8⟩:=y5_ e4;cases e8;obtain⟨w0,ds0,e9,e10⟩:=hr env d1 _ w (.l ds) e1 e5 (W.mutL_of e6);obtain⟨q,xs,h1,_⟩:=rl.own i w0 ds0 e9 e10;refine⟨_,h1,.bind rl e1 fun v G1 H1 ev r1=>?_⟩
 obtain⟨q',ys,h2,h3,h4,h5⟩:=ev.rel.ownL i w ds e5 e6;rw[h1]at h2;cases h2;dsimp only at e7;cases d1<;>first|(exact absurd (show(none:Option D)=some _ from e7) (by simp))|skip
 simp only[Rep]at r1;obtain⟨z,h6,h7⟩:=a6V h4 e7;exact⟨q,ys,_,z,rfl,r1,.inl (.inl h3),h6,k z G1 H1 ev h7⟩
def a1h(X:Cx)(B:OA)(r:List V->Hp->VK->Prop)(f:List D->Option D):Prop:=
 ∀(G:Hp) (σ:St) (env:Env') (H:Hp) (xs:List V) (ds:List D) (c:D) (Q:VK),Rel X.K B G σ env H->z9_ X.K G xs ds->f ds=some c->
  (∀v G' H',Ev X.K B G σ env H G' σ env H'->Rep X.K G' v c->Q v H')->r xs H Q
def a4A(X:Cx)(B:OA)(r:List V->Hp->VK->Prop)(f:List D->Option (List D)):Prop:=
 ∀(G:Hp) (σ:St) (env:Env') (H:Hp) (xs:List V) (ds:List D) (c:List D) (Q:VK),Rel X.K B G σ env H->z9_ X.K G xs ds->f ds=some c->
  (∀p ys G' H',Ev X.K B G σ env H G' σ env H'->H' p=none->z9_ X.K G' ys c->Q (.ref p) (upd H' p (.lst ys)))->r xs H Q
def mCB(f:List D->Option D)(ms:Mo (List D)):Mo D:=fun env=>(ms env).bind fun p=>(f p.1).map fun d=>(d,p.2)
def mCL(f:List D->Option (List D))(ms:Mo (List D)):Mo (List D):=fun env=>(ms env).bind fun p=>(f p.1).map fun d=>(d,p.2)
theorem b0A{r:List V->Hp->VK->Prop}{f:List D->Option D}(o:a1h X B r f):∀σ H Q,TD X.K B (mCB f ms) σ H Q->tCB r (TDs X.K B ms) σ H Q:=by
 rintro σ H Q ⟨G,env,d,env',rl,e,k⟩;obtain⟨⟨ds,env1⟩,e1,e2⟩:=q6_ e;obtain⟨d1,e3,e4⟩:=y5_ e2;cases e4;exact⟨G,env,ds,_,rl,e1,fun vs G1 H1 ev r1=>o G1 σ _ H1 vs ds _ Q ev.rel r1 e3 fun v G2 H2 ev2 r2=>k v G2 H2 (ev.trans ev2) r2⟩
theorem b0B{r:List V->Hp->VK->Prop}{f:List D->Option (List D)}(o:a4A X B r f):∀σ H Q,TL X.K B (mCL f ms) σ H Q->tCB r (TDs X.K B ms) σ H Q:=by
 rintro σ H Q ⟨G,env,d,env',rl,e,k⟩;obtain⟨⟨ds,env1⟩,e1,e2⟩:=q6_ e;obtain⟨d1,e3,e4⟩:=y5_ e2;cases e4;exact⟨G,env,ds,_,rl,e1,fun vs G1 H1 ev r1=>o G1 σ _ H1 vs ds _ Q ev.rel r1 e3 fun p ys G2 H2 ev2 hp r2=>a6U (ev.trans ev2) hp r2 k⟩
variable{r:List V->Hp->VK->Prop}{f:List D->Option D}{g:List D->Option (List D)}{id T:String}{x:Str}{p:Pos}
theorem k5_(hc:w1_ X (.builtin id) r)(o:a1h X B r f)(hg:Gl X x)(hm:X.mg x=none)(hv:bootBuiltins x=some (.builtin id))(ha:EDs X B (e::es) ms)(hn:x≠"__name__":=by decide)(hdb:(x==("__debug__":Str))=false:=by decide)
  (he:starEach (e::es) X.env=(false,eval e X.env)::starEach es X.env:=by rfl)(hpl:(backTo pos (starEach es X.env)).any (·.1)=false:=by rfl):ED X B (.Call (.Name x p) (e::es) [] pos) (mCB f ms):=
 pe_imp (a3N hc hg hm hv ha hn hdb he hpl) (b0A o)
theorem a2g(hc:w1_ X (.type T) r)(o:a1h X B r f)(hg:Gl X x)(hm:X.mg x=none)(hv:bootBuiltins x=some (.type T))(ha:EDs X B (e::es) ms)(hn:x≠"__name__":=by decide)(hdb:(x==("__debug__":Str))=false:=by decide)
  (he:starEach (e::es) X.env=(false,eval e X.env)::starEach es X.env:=by rfl)(hpl:(backTo pos (starEach es X.env)).any (·.1)=false:=by rfl):ED X B (.Call (.Name x p) (e::es) [] pos) (mCB f ms):=
 pe_imp (b0a hc hg hm hv ha hn hdb he hpl) (b0A o)
theorem b5S(hc:w1_ X (.builtin id) r)(o:a4A X B r g)(hg:Gl X x)(hm:X.mg x=none)(hv:bootBuiltins x=some (.builtin id))(ha:EDs X B (e::es) ms)(hn:x≠"__name__":=by decide)(hdb:(x==("__debug__":Str))=false:=by decide)
  (he:starEach (e::es) X.env=(false,eval e X.env)::starEach es X.env:=by rfl)(hpl:(backTo pos (starEach es X.env)).any (·.1)=false:=by rfl):EL X B (.Call (.Name x p) (e::es) [] pos) (mCL g ms):=
 pe_imp (a3N hc hg hm hv ha hn hdb he hpl) (b0B o)
theorem a6W(hc:w1_ X (.type T) r)(o:a4A X B r g)(hg:Gl X x)(hm:X.mg x=none)(hv:bootBuiltins x=some (.type T))(ha:EDs X B (e::es) ms)(hn:x≠"__name__":=by decide)(hdb:(x==("__debug__":Str))=false:=by decide)
  (he:starEach (e::es) X.env=(false,eval e X.env)::starEach es X.env:=by rfl)(hpl:(backTo pos (starEach es X.env)).any (·.1)=false:=by rfl):EL X B (.Call (.Name x p) (e::es) [] pos) (mCL g ms):=
 pe_imp (b0a hc hg hm hv ha hn hdb he hpl) (b0B o)
theorem a0D{K:Qq}{G:Hp}{xs:List V}{d:D}(h:z9_ K G xs [d]):∃x,xs=[x]/\Rep K G x d:=by
 simp only[z9_]at h;obtain⟨x,r,e,q,t⟩:=h;subst t;exact⟨x,e,q⟩
theorem a6X{K:Qq}{G:Hp}{xs:List V}{d d':D}(h:z9_ K G xs [d,d']):∃x y,xs=[x,y]/\Rep K G x d/\Rep K G y d':=by
 simp only[z9_]at h;obtain⟨x,r,e,q,y,r2,e2,q2,t⟩:=h;subst t e2;exact⟨x,y,e,q,q2⟩
def D.items:D->Option (List D)
 |.lst ds=>some ds
 |.tup ds=>some ds
 |_=>none
theorem a6Y{K:Qq}{G H:Hp}{v:V}{d:D}{ds:List D}(l:Le G H)(r:Rep K G v d)(h:d.items=some ds):∃a xs,v=.ref a/\(SqL K H a xs∨SqT K H a xs)/\z9_ K G xs ds:=by
 cases d<;>first|(exact absurd (show(none:Option (List D))=some ds from h) (by simp))|skip
 ·cases h;simp only[Rep]at r;obtain⟨a,xs,e,q,t⟩:=r;exact⟨a,xs,e,.inr (l.sqT q),t⟩
 ·cases h;simp only[Rep]at r;obtain⟨a,xs,e,q,t⟩:=r;exact⟨a,xs,e,.inl (l.sqL q),t⟩
def v8_:List D->Option D
 |[d]=>d.items.map fun ds=>.int ds.length
 |_=>none
theorem j8_:a1h X B (fun xs H Q=>∃p ys,xs=[.ref p]/\(SqL X.K H p ys∨SqT X.K H p ys)/\Q (.int ys.length) H) v8_:=by
 intro G σ env H xs ds c Q rl r e k
 match ds,e with
 |[d],e=>
  obtain⟨x,rfl,q⟩:=a0D r;obtain⟨ds,e1,e2⟩:=y5_ e;obtain⟨a,ys,rfl,h1,h2⟩:=a6Y rl.sub q e1;exact⟨a,ys,rfl,h1,k _ G H (.refl rl) (by rw[←e2,h2.length];simp only[Rep])⟩
def a0k:List D->Option D
 |[d]=>d.items.map fun ds=>.tup ds
 |_=>none
theorem a2Z:a1h X B (fun xs H Q=>∃p ys,xs=[.ref p]/\((SqL X.K H p ys/\∀l,H l=none->Q (.ref l) (upd H l (.tup ys)))∨(SqT X.K H p ys/\Q (.ref p) H))) a0k:=by
 intro G σ env H xs ds c Q rl r e k
 match ds,e with
 |[d],e=>
  obtain⟨x,rfl,q⟩:=a0D r;obtain⟨ds,e1,e2⟩:=y5_ e;subst e2;cases d<;>first|(exact absurd (show(none:Option (List D))=some ds from e1) (by simp))|skip
  ·cases e1
   have q0:=q
   simp only[Rep]at q;obtain⟨a,ys,rfl,h1,h2⟩:=q;exact⟨a,ys,rfl,.inr ⟨rl.sub.sqT h1,k _ G H (.refl rl) q0⟩⟩
  ·cases e1
   simp only[Rep]at q;obtain⟨a,ys,rfl,h1,h2⟩:=q;exact⟨a,ys,rfl,.inl ⟨rl.sub.sqL h1,fun l hl=>k _ _ _ (rl.alloc hl) (a2T y6_ (z9_.mono (Le.upd (rl.gnone hl)) _ h2))⟩⟩
def a3a:List D->Option (List D)
 |[d]=>d.items
 |_=>none
theorem a6Z:a4A X B (fun xs H Q=>∃p ys,xs=[.ref p]/\(SqL X.K H p ys∨SqT X.K H p ys)/\∀l,H l=none->Q (.ref l) (upd H l (.lst ys))) a3a:=by
 intro G σ env H xs ds c Q rl r e k
 match ds,e with
 |[d],e=>
  obtain⟨x,rfl,q⟩:=a0D r;obtain⟨a,ys,rfl,h1,h2⟩:=a6Y rl.sub q e;exact⟨a,ys,rfl,h1,fun l hl=>k l ys G H (.refl rl) hl h2⟩
end
section
variable{K:Qq}{B:OA}{G G1:Hp}{σ σ1:St}{env env1:Env'}{H H1:Hp}{i:Nat}
theorem w4_{α:Type}{l:List α}{i j:Nat}{a b:α}(h:(l.set i a)[j]? =some b):(j=i/\b=a)∨(j≠i/\l[j]? =some b):=by
 by_cases hj:j=i
 ·subst hj
  have hl:j<l.length:=by
   have:=(Qg.mp h).1;rwa [Zp]at this
  rw[Zg hl]at h;cases h;exact .inl ⟨rfl,rfl⟩
 ·rw[Qm (Zy hj)]at h
  exact .inr ⟨hj,h⟩
theorem a3R{α β:Type}{l:List α}{m:List β}{i:Nat}{a b:α}{c:β}(h:(l.set i a)[i]? =some b)(hl:l.length=m.length):(m.set i c)[i]? =some c:=by
 have:=(Qg.mp h).1;rw[Zp]at this;exact Zg (by omega)
theorem Ev.setDat{v:V}{d:D}(ev:Ev K B G σ env H G1 σ1 env1 H1)(r:Rep K G1 v d):Ev K B G σ env H G1 (σ1.set i (some v)) (env1.set i (.dat d)) H1:=by
 have rl:=ev.rel
 have ne:∀(j:Nat) (w:W) (es:Mu),(env1.set i (.dat d))[j]? =some w->w.mut=some es->j≠i/\env1[j]? =some w:=fun j w es q1 q2=>by
  rcases w4_ q1 with⟨_,z⟩|z
  ·rw[z]at q2;cases q2
  ·exact z
 refine⟨⟨rl.sub,by rw[Zp,Zp];exact rl.len,fun j d' q=>?_,fun j w es q1 q2=>?_,fun j k w w' es fs b q1 q2 q3 q4 q5 q6=>?_,fun j w b q1 qo q2=>?_,rl.old,rl.tabs,rl.gnt⟩,ev.same,ev.keep,ev.live,ev.stay,fun b z=>?_,fun j w q qp=>?_,by rw[Zp];exact ev.slen⟩
 ·rcases w4_ q with⟨z1,z2⟩|⟨z1,z2⟩
  ·subst z1;cases z2
   exact⟨v,a3R q rl.len,r⟩
  ·obtain⟨x,q1,q2⟩:=rl.dat j d' z2
   exact⟨x,by rw[Qm (Zy z1)];exact q1,q2⟩
 ·obtain⟨hj,q⟩:=ne j w es q1 q2
  obtain⟨p,ys,e3,e4⟩:=rl.own j w es q q2;exact⟨p,ys,by rw[Qm (Zy hj)];exact e3,e4⟩
 ·obtain⟨h1,h2⟩:=ne j w es q1 q2
  obtain⟨h3,h4⟩:=ne k w' fs q3 q4;rw[Qm (Zy h1)]at q5;rw[Qm (Zy h3)]at q6;exact rl.inj j k w w' es fs b h2 q2 h4 q4 q5 q6
 ·obtain⟨es,hm⟩:=own_mut qo
  obtain⟨h1,h2⟩:=ne j _ es q1 hm;rw[Qm (Zy h1)]at q2;exact rl.fresh j w b h2 qo q2
 ·obtain⟨j,w,es,q1,q2,q3⟩:=z
  obtain⟨h1,h2⟩:=ne j w es q1 q2;rw[Qm (Zy h1)]at q3;exact ev.sub b ⟨j,w,es,h2,q2,q3⟩
 ·obtain⟨es,hm⟩:=par_mut qp
  obtain⟨h1,h2⟩:=ne j _ es q hm;obtain⟨h3,h4⟩:=ev.par j w h2 qp;exact⟨by rw[Qm (Zy h1)];exact h3,h4⟩
theorem Ev.setOwnM{a:Addr}{o:HO}{m:Mu}{wn:W}(ev:Ev K B G σ env H G1 σ1 env1 H1)(nb:¬ B a)(ha:H a=none)(no:¬ Owned σ1 env1 a)(h1:H1 a=some o)(g1:G1 a=none)(r:RepM K G1 o m)(wm:wn.mut=some m)(wo:wn.isPar=false):
  Ev K B G σ env H G1 (σ1.set i (some (.ref a))) (env1.set i wn) H1:=by
 have rl:=ev.rel
 refine⟨⟨rl.sub,by rw[Zp,Zp];exact rl.len,fun j d' q=>?_,fun j w es q1 q2=>?_,fun j k w w' es fs b q1 q2 q3 q4 q5 q6=>?_,fun j w b q1 qo q2=>?_,rl.old,rl.tabs,rl.gnt⟩,ev.same,ev.keep,ev.live,ev.stay,fun b z=>?_,fun j w q qp=>?_,by rw[Zp];exact ev.slen⟩
 ·rcases w4_ q with⟨z1,z2⟩|⟨z1,z2⟩
  ·rw[←z2]at wm;cases wm
  ·obtain⟨x,q1,q2⟩:=rl.dat j d' z2
   exact⟨x,by rw[Qm (Zy z1)];exact q1,q2⟩
 ·rcases w4_ q1 with⟨z1,z2⟩|⟨z1,z2⟩
  ·subst z1 z2;rw[wm]at q2;cases q2
   exact⟨a,o,a3R q1 rl.len,h1,r,g1⟩
  ·obtain⟨p,ys,e3,e4⟩:=rl.own j w es z2 q2
   exact⟨p,ys,by rw[Qm (Zy z1)];exact e3,e4⟩
 ·rcases w4_ q1 with⟨z1,z2⟩|⟨z1,z2⟩
  ·rcases w4_ q3 with⟨y1,y2⟩|⟨y1,y2⟩
   ·rw[z1,y1]
   ·subst z1
    rw[a3R q1 rl.len]at q5;cases q5;rw[Qm (Zy y1)]at q6;exact absurd ⟨k,w',fs,y2,q4,q6⟩ no
  ·rw[Qm (Zy z1)]at q5
   rcases w4_ q3 with⟨y1,y2⟩|⟨y1,y2⟩
   ·subst y1
    rw[a3R q3 rl.len]at q6;cases q6;exact absurd ⟨j,w,es,z2,q2,q5⟩ no
   ·rw[Qm (Zy y1)]at q6
    exact rl.inj j k w w' es fs b z2 q2 y2 q4 q5 q6
 ·rcases w4_ q1 with⟨z1,z2⟩|⟨z1,z2⟩
  ·subst z1
   rw[a3R q1 rl.len]at q2;cases q2;exact nb
  ·rw[Qm (Zy z1)]at q2
   exact rl.fresh j w b z2 qo q2
 ·obtain⟨j,w,es,q1,q2,q3⟩:=z
  rcases w4_ q1 with⟨z1,z2⟩|⟨z1,z2⟩
  ·subst z1
   rw[a3R q1 rl.len]at q3;cases q3;exact .inr ha
  ·rw[Qm (Zy z1)]at q3
   exact ev.sub b ⟨j,w,es,z2,q2,q3⟩
 ·rcases w4_ q with⟨z1,z2⟩|⟨z1,z2⟩
  ·rw[z2,wo]at qp;cases qp
  ·obtain⟨h3,h4⟩:=ev.par j w z2 qp
   exact⟨by rw[Qm (Zy z1)];exact h3,h4⟩
theorem Ev.setOwn{a:Addr}{xs:List V}{ds:List D}(ev:Ev K B G σ env H G1 σ1 env1 H1)(nb:¬ B a)(ha:H a=none)(no:¬ Owned σ1 env1 a)(h1:H1 a=some (.lst xs))(g1:G1 a=none)(r:z9_ K G1 xs ds):
  Ev K B G σ env H G1 (σ1.set i (some (.ref a))) (env1.set i (.own ds)) H1:=ev.setOwnM (m:=.l ds) nb ha no h1 g1 ⟨xs,rfl,r⟩ rfl rfl
theorem Ev.setNil(ev:Ev K B G σ env H G1 σ1 env1 H1):Ev K B G σ env H G1 σ1 (env1.set i .nil) H1:=by
 have rl:=ev.rel
 have ne:∀(j:Nat) (w:W),(env1.set i .nil)[j]? =some w->w≠.nil->j≠i/\env1[j]? =some w:=fun j w q1 q2=>by
  rcases w4_ q1 with⟨_,z⟩|z
  ·exact absurd z q2
  ·exact z
 have nm:∀(w:W) (es:Mu),w.mut=some es->w≠.nil:=fun w es h z=>by rw[z]at h;cases h
 refine⟨⟨rl.sub,by rw[Zp];exact rl.len,fun j d' q=>rl.dat j d' (ne j _ q (by simp)).2,fun j w es q1 q2=>rl.own j w es (ne j w q1 (nm w es q2)).2 q2,fun j k w w' es fs b q1 q2 q3 q4 q5 q6=>rl.inj j k w w' es fs b (ne j w q1 (nm _ _ q2)).2 q2 (ne k w' q3 (nm _ _ q4)).2 q4 q5 q6,
  fun j w b q1 qo q2=>rl.fresh j w b (ne j _ q1 (by rintro rfl;cases qo)).2 qo q2,rl.old,rl.tabs,rl.gnt⟩,ev.same,ev.keep,ev.live,ev.stay,fun b z=>?_,fun j w q qp=>ev.par j w (ne j _ q (by rintro rfl;cases qp)).2 qp,ev.slen⟩
 obtain⟨j,w,es,q1,q2,q3⟩:=z;exact ev.sub b ⟨j,w,es,(ne j w q1 (nm _ _ q2)).2,q2,q3⟩
theorem Ev.writeM{a:Addr}{o':HO}{w:W}{m m':Mu}(ev:Ev K B G σ env H G1 σ1 env1 H1)(e1:env1[i]? =some w)(e2:w.mut=some m)(e3:σ1[i]? =some (some (.ref a)))(r:RepM K G1 o' m'):
  Ev K B G σ env H G1 σ1 (env1.set i (w.putM m')) (upd H1 a o'):=by
 have rl:=ev.rel
 obtain⟨a',o0,h1,h2,h3,h4⟩:=rl.own i w m e1 e2;rw[e3]at h1;cases h1;have ow:Owned σ1 env1 a:=⟨i,w,m,e1,e2,e3⟩;have wp:(w.putM m').mut=some m':=W.putM_mut e2 m';have nd:∀d,w.putM m'≠.dat d:=fun d z=>by rw[z]at wp;cases wp
 have oo:Owned σ env a∨H a=none:=ev.sub a ow
 refine⟨⟨fun b u e=>?_,by rw[Zp];exact rl.len,fun j d' q=>?_,fun j v es q1 q2=>?_,fun j k v v' es fs b q1 q2 q3 q4 q5 q6=>?_,fun j v b q1 qo q2=>?_,fun b hb=>?_,rl.tabs.upd r.nt (fun φ z=>by rw[h2]at z;cases z;exact h3.ne φ rfl),rl.gnt⟩,ev.same,fun b o n t e=>?_,fun b e=>?_,ev.stay,fun b z=>?_,fun j v q qp=>?_,ev.slen⟩
 ·have hb:b≠a:=fun z=>by rw[z,h4]at e;cases e
  rw[q4_ hb];exact rl.sub b u e
 ·rcases w4_ q with⟨z1,z2⟩|⟨z1,z2⟩
  ·exact absurd z2.symm (nd d')
  ·exact rl.dat j d' z2
 ·rcases w4_ q1 with⟨z1,z2⟩|⟨z1,z2⟩
  ·subst z1 z2
   rw[wp]at q2;cases q2;exact⟨a,o',e3,y6_,r,h4⟩
  ·obtain⟨p,ys,f1,f2,f3,f4⟩:=rl.own j v es z2 q2
   have hp:p≠a:=fun z=>z1 (rl.inj j i v w es m a z2 q2 e1 e2 (by rw[f1,z]) e3)
   exact⟨p,ys,f1,by rw[q4_ hp];exact f2,f3,f4⟩
 ·have g:∀(n:Nat) (v:W) (es:Mu),(env1.set i (w.putM m'))[n]? =some v->v.mut=some es->∃v0 es0,env1[n]? =some v0/\v0.mut=some es0:=fun n v es y1 y2=>by
   rcases w4_ y1 with⟨z1,z2⟩|⟨z1,z2⟩
   ·rw[z1];exact⟨w,m,e1,e2⟩
   ·exact⟨v,es,z2,y2⟩
  obtain⟨v0,es0,y1,y2⟩:=g j v es q1 q2;obtain⟨v1,es1,y3,y4⟩:=g k v' fs q3 q4;exact rl.inj j k v0 v1 es0 es1 b y1 y2 y3 y4 q5 q6
 ·rcases w4_ q1 with⟨z1,z2⟩|⟨z1,z2⟩
  ·subst z1
   exact rl.fresh j w b e1 (by rw[z2,W.putM_own e2]at qo;exact qo) q2
  ·exact rl.fresh j v b z2 qo q2
 ·by_cases h:b=a
  ·subst h;rw[y6_];simp
  ·rw[q4_ h];exact rl.old b hb
 ·have hb:b≠a:=fun z=>by
   rcases oo with q|q
   ·exact n (z ▸ q)
   ·rw[z,q]at e;cases e
  rw[q4_ hb];exact ev.keep b o n t e
 ·by_cases h:b=a
  ·subst h;rw[y6_];simp
  ·rw[q4_ h];exact ev.live b e
 ·obtain⟨j,v,es,q1,q2,q3⟩:=z
  rcases w4_ q1 with⟨z1,z2⟩|⟨z1,z2⟩
  ·rw[z1,e3]at q3;cases q3
   exact oo
  ·exact ev.sub b ⟨j,v,es,z2,q2,q3⟩
 ·rcases w4_ q with⟨z1,z2⟩|⟨z1,z2⟩
  ·subst z1
   exact ev.par j w e1 (by rw[z2,W.putM_par e2]at qp;exact qp)
  ·exact ev.par j v z2 qp
theorem Ev.write{a:Addr}{xs':List V}{w:W}{ds ds':List D}(ev:Ev K B G σ env H G1 σ1 env1 H1)(e1:env1[i]? =some w)(e2:w.mutL=some ds)(e3:σ1[i]? =some (some (.ref a)))(r:z9_ K G1 xs' ds'):
  Ev K B G σ env H G1 σ1 (env1.set i (w.put ds')) (upd H1 a (.lst xs')):=by
 rw[W.put_eq e2];exact ev.writeM e1 (W.mutL_of e2) e3 ⟨xs',rfl,r⟩
end
section
variable{X:Cx}{B:OA}{pos:Pos}{a b c e:Expr}{ma mb mc:Mo D}{ms:Mo (List D)}{es:List Expr}{st:Stmt}{rest:List Stmt}{s1 s2:Mo Fl}
def mNx:Mo Fl:=fun env=>some (.nx,env)
def q2_(m n:Mo Fl):Mo Fl:=fun env=>(m env).bind fun p=>match p.1 with
 |.nx=>n p.2
 |fl=>some (fl,p.2)
theorem TSm.nx{K:Qq}{D:Ends}{σ:St}{H:Hp}{G:Hp}{env env':Env'}{m:Mo Fl}(r:Rel K B G σ env H)(e:m env=some (.nx,env'))(k:∀σ' G' H',Ev K B G σ env H G' σ' env' H'->D.nx σ' H'):TSm K B m D σ H:=⟨G,env,.nx,env',r,e,k⟩
theorem w5_:ESs X B [] mNx:=by
 refine pss_imp b4u ?_
 rintro D σ H ⟨G,env,fl,env',rl,e,k⟩;cases e;exact k σ G H (.refl rl)
theorem v0_(h1:ES X B st s1)(h2:ESs X B rest s2):ESs X B (st::rest) (q2_ s1 s2):=by
 refine pss_imp (a3J h1 h2) ?_
 rintro D σ H ⟨G,env,fl,env',rl,e,k⟩;obtain⟨⟨fl1,env1⟩,e1,e2⟩:=q6_ e;dsimp only at e2;cases fl1 with
 |nx=>
  dsimp only at e2;exact⟨G,env,.nx,env1,rl,e1,fun σ1 G1 H1 ev=>⟨G1,env1,fl,env',ev.rel,e2,Post.after _ _ k ev⟩⟩
 |bk=>cases e2;exact⟨G,env,.bk,_,rl,e1,k⟩
 |ct=>cases e2;exact⟨G,env,.ct,_,rl,e1,k⟩
 |ret d=>cases e2;exact⟨G,env,.ret d,_,rl,e1,k⟩
 |retL d=>cases e2;exact⟨G,env,.retL d,_,rl,e1,k⟩
theorem v2_(h1:ES X B st s1):ESs X B [st] s1:=a9H h1
def y3_(t:Mo Bool)(m n:Mo Fl):Mo Fl:=fun env=>(t env).bind fun p=>if p.1 then m p.2 else n p.2
theorem w6_{c:Expr}{s t:List Stmt}{tc:Mo Bool}(hc:ET X B c tc)(h1:ESs X B s s1)(h2:ESs X B t s2):ES X B (.If c s t pos) (y3_ tc s1 s2):=by
 refine ps_imp (a9J hc h1 h2) ?_
 rintro D σ H ⟨G,env,fl,env',rl,e,k⟩;obtain⟨⟨b1,env1⟩,e1,e2⟩:=q6_ e;dsimp only at e2;refine⟨G,env,b1,env1,rl,e1,fun G1 H1 ev=>?_⟩
 cases b1 with
 |true=>simp only[Zs]at e2 ⊢;exact⟨G1,env1,fl,env',ev.rel,e2,Post.after _ _ k ev⟩
 |false=>simp only[Zh,Jx]at e2 ⊢;exact⟨G1,env1,fl,env',ev.rel,e2,Post.after _ _ k ev⟩
def a7a:Mo Fl:=fun _=>none
theorem b0C:ES X B st a7a:=by
 refine ps_imp b4y ?_
 rintro D σ H ⟨G,env,fl,env',rl,e,k⟩;cases e
def v1_(m:Mo D):Mo Fl:=fun env=>(m env).map fun p=>(.ret p.1,p.2)
theorem y4_(h:ED X B e ma):ES X B (.Return (some e) pos) (v1_ ma):=by
 refine ps_imp (a9I h) ?_
 rintro D σ H ⟨G,env,fl,env',rl,e,k⟩;obtain⟨⟨d,env1⟩,e1,e2⟩:=y5_ e;cases e2;exact⟨G,env,d,_,rl,e1,fun v G' H' ev r=>k v σ G' H' ev r⟩
def a2h(m:Mo (List D)):Mo Fl:=fun env=>(m env).map fun p=>(.retL p.1,p.2)
theorem a5y(h:EL X B e ms):ES X B (.Return (some e) pos) (a2h ms):=by
 refine ps_imp (a9I h) ?_
 rintro D σ H ⟨G,env,fl,env',rl,e,k⟩;obtain⟨⟨d,env1⟩,e1,e2⟩:=y5_ e;cases e2;exact⟨G,env,d,_,rl,e1,fun a xs G' H' ev ha no h' g' r=>k a xs σ G' H' ev (fun z=>rl.old a z ha) no h' g' r⟩
def c2j(i:Nat):Mo Fl:=fun env=>match env[i]? with
 |some (.own ds)=>some (.retL ds,env.set i .nil)
 |_=>none
def q8_(i:Nat)(m:Mo D):Mo Fl:=fun env=>(m env).map fun p=>(.nx,p.2.set i (.dat p.1))
def u5_(i:Nat)(m:Mo (List D)):Mo Fl:=fun env=>(m env).map fun p=>(.nx,p.2.set i (.own p.1))
section
variable{i:Nat}{x:Str}{pos':Pos}
theorem x5_(hN:X.N.Nodup)(hi:X.N[i]? =some x)(hx:Loc X.env.scope x)(he:ED X B e ma)(hs:swapsWith e (some (.Name x pos')) pos.line X.env=pure false:=by rfl)(hf:X.fn x=true∨X.env.scope.names.lookup x=some .local:=by first|exact .inl rfl|exact .inr rfl|assumption):
  ES X B (.Assign [.Name x pos'] e pos) (q8_ i ma):=by
 refine ps_imp (a5j hN hi hx he hs hf) ?_
 rintro D σ H ⟨G,env,fl,env',rl,e,k⟩;obtain⟨⟨d,env1⟩,e1,e2⟩:=y5_ e;cases e2;exact⟨G,env,d,_,rl,e1,fun v G' H' ev r=>k _ G' H' (ev.setDat r)⟩
theorem a1P(hN:X.N.Nodup)(hi:X.N[i]? =some x)(hx:Loc X.env.scope x)(he:EL X B e ms)(hs:swapsWith e (some (.Name x pos')) pos.line X.env=pure false:=by rfl)(hf:X.fn x=true∨X.env.scope.names.lookup x=some .local:=by first|exact .inl rfl|exact .inr rfl|assumption):
  ES X B (.Assign [.Name x pos'] e pos) (u5_ i ms):=by
 refine ps_imp (a5j hN hi hx he hs hf) ?_
 rintro D σ H ⟨G,env,fl,env',rl,e,k⟩;obtain⟨⟨d,env1⟩,e1,e2⟩:=y5_ e;cases e2;exact⟨G,env,d,_,rl,e1,fun a xs G' H' ev ha no h' g' r=>k _ G' H' (ev.setOwn (fun z=>rl.old a z ha) ha no h' g' r)⟩
def a5z(i:Nat)(f:D->D->Option D)(m:Mo D):Mo Fl:=fun env=>match env[i]? with
 |some (.dat d0)=>(m env).bind fun p=>(f d0 p.1).map fun d=>(.nx,p.2.set i (.dat d))
 |_=>none
theorem b5T{op:Operator}{r:R2}{f:D->D->Option D}(hN:X.N.Nodup)(hi:X.N[i]? =some x)(hx:Loc X.env.scope x)(he:ED X B e ma)(ho:OpR X (inplaceOp op) r)(o:OpD X B r f)
  (hf:X.fn x=true∨X.env.scope.names.lookup x=some .local:=by first|exact .inl rfl|exact .inr rfl|assumption):ES X B (.AugAssign (.Name x pos') op e pos) (a5z i f ma):=by
 refine ps_imp (b4K hN hi hx he (ti:=r) (fun pins s σ H x y v u Q I rx ry q=>ho pins s σ H x y v u Q I rx ry q) hf) ?_
 rintro D σ H ⟨G,env,fl,env',rl,e,k⟩;unfold a5z at e;split at e
 ·rename_i d0 e0
  obtain⟨⟨d,env1⟩,e1,e2⟩:=q6_ e;obtain⟨d2,e3,e4⟩:=y5_ e2;cases e4;obtain⟨v0,h0,r0⟩:=rl.dat i d0 e0;exact⟨v0,h0,.bind rl e1 fun v G' H' ev r1=>o G' σ _ H' v0 v d0 d _ _ ev.rel (Rep.mono ev.same _ r0) r1 e3 fun v2 G2 H2 ev2 r2=>k _ G2 H2 ((ev.trans ev2).setDat r2)⟩
 ·cases e
end
def a1y(i:Nat)(m:Mo D):Mo Fl:=fun env=>((env[i]?).bind W.mutL).bind fun _=>(m env).bind fun p=>(p.2[i]?).bind fun w=>w.mutL.bind fun ds=>if ds.length<100000 then some (.nx,p.2.set i (w.put (ds++[p.1])))else none
theorem a5A{i:Nat}{x:Str}{p apos cpos:Pos}(ho:PE X (.Name x p) (a1t i))(ha:EDs X B [e] (z1_ ma z5_))
  (hbase:attributeBase (.Name x p) "append" X.env (eval (.Name x p) X.env)=eval (.Name x p) X.env:=by rfl)
  (hfew:((backTo cpos (starEach [e] X.env)).all (fun x=>!x.1)&&(backToKw cpos (keywordEach [] X.env)).all (fun x=>x.1.isSome)
   &&decide ([e].length+([]:List Keyword).length+(if([]:List Keyword).isEmpty then 0 else 1)<30))=true:=by rfl)
  (hline:(apos.endLine==cpos.line)=true:=by rfl)(hs:starEach [e] X.env=(false,eval e X.env)::starEach [] X.env:=by rfl)(hplain:(backTo cpos (starEach [] X.env)).any (·.1)=false:=by rfl)
  (hsw:swapsWith (.Call (.Attribute (.Name x p) "append" apos) [e] [] cpos) none pos.line X.env=pure false:=by rfl):
  ES X B (.Expr (.Call (.Attribute (.Name x p) "append" apos) [e] [] cpos) pos) (a1y i ma):=by
 refine ps_imp (a6t (a6Q PySem.F.plainAttrs_list PySem.F.slot_list_append PySem.F.type_list_append b0m ho ha hbase hfew hline hs hplain) hsw) ?_
 rintro D σ H ⟨G,env,fl,env',rl,e,k⟩;obtain⟨ds0,e0,e⟩:=q6_ e;obtain⟨w0,e00,em0⟩:=q6_ e0;obtain⟨⟨d,env1⟩,e1,e2⟩:=q6_ e;obtain⟨w,e3,e4⟩:=q6_ e2;obtain⟨ds,e5,e6⟩:=q6_ e4;dsimp only at e3 e6;split at e6
 ·rename_i hl
  cases e6;obtain⟨q,xs0,h1,h2,h3,h4⟩:=rl.ownL i w0 ds0 e00 em0;refine⟨_,h1,.inl ⟨rfl,xs0,.inl (.inl h2)⟩,G,env,[d],env1,rl,by show(ma env).bind _=_;rw[e1];rfl,fun vs G1 H1 ev r1=>?_⟩
  obtain⟨v,rfl,rv⟩:=a0D r1;obtain⟨q',xs,g1,g2,g3,g4⟩:=ev.rel.ownL i w ds e3 e5;rw[h1]at g1;cases g1;have hz:xs.length<sizeLine:=by rw[g3.length];exact Vu hl (by decide)
  exact⟨q,xs,v,rfl,rfl,g2,hz,k _ G1 _ (ev.write e3 e5 h1 (g3.append (repL_cons rv repL_nil)))⟩
 ·cases e6
end
section
variable(K:Qq)(B:OA)
def TGm(n:Nat)(g:OZ):TG:=fun v σ H Q=>∃G env d env',Rel K B G σ env H/\Rep K G v d/\g d env=some env'/\∀σ' G' H',Ev K B G σ env H G' σ' env' H'->(∀j,j<n->σ'[j]? =σ[j]?)->Q σ' H'
def b5U(n:Nat)(g:List D->Env'->Option Env'):TGs:=fun vs σ H Q=>∃G env ds env',Rel K B G σ env H/\z9_ K G vs ds/\g ds env=some env'/\∀σ' G' H',Ev K B G σ env H G' σ' env' H'->(∀j,j<n->σ'[j]? =σ[j]?)->Q σ' H'
end
abbrev EG(X:Cx)(B:OA)(n:Nat)(e:Expr)(g:OZ):Prop:=PG X e (TGm X.K B n g)
abbrev EGs(X:Cx)(B:OA)(n:Nat)(es:List Expr)(g:List D->Env'->Option Env'):Prop:=PGs X es (b5U X.K B n g)
theorem a7b{X:Cx}{e:Expr}{t t':TG}(h:PG X e t)(i:∀v σ H Q,t' v σ H Q->t v σ H Q):PG X e t':=fun pins s σ H v u Q I r q=>h pins s σ H v u Q I r (i v σ H Q q)
theorem b0D{X:Cx}{e:List Expr}{t t':TGs}(h:PGs X e t)(i:∀v σ H Q,t' v σ H Q->t v σ H Q):PGs X e t':=fun pins s σ H v u Q I r q=>h pins s σ H v u Q I r (i v σ H Q q)
def gN(i:Nat):OZ:=fun d env=>some (env.set i (.dat d))
def gNl:List D->Env'->Option Env':=fun ds env=>match ds with
 |[]=>some env
 |_=>none
def gCn(g:OZ)(gs:List D->Env'->Option Env'):List D->Env'->Option Env':=fun ds env=>match ds with
 |d::ds=>(g d env).bind (gs ds)
 |[]=>none
def gT(n:Nat)(gs:List D->Env'->Option Env'):OZ:=fun d env=>match d with
 |.tup ds=>if ds.length=n then gs ds env else none
 |_=>none
section
variable{X:Cx}{B:OA}{pos:Pos}{a b c e tg:Expr}{ma mb mc:Mo D}{ms:Mo (List D)}{es:List Expr}{g:OZ}{gs:List D->Env'->Option Env'}
theorem x9_{n i:Nat}{x:Str}(hn:n≤i)(hN:X.N.Nodup)(hi:X.N[i]? =some x)(hx:Loc X.env.scope x)(hf:X.fn x=true∨X.env.scope.names.lookup x=some .local:=by first|exact .inl rfl|exact .inr rfl|assumption):EG X B n (.Name x pos) (gN i):=by
 refine a7b (b4z hN hi hx hf) ?_
 rintro v σ H Q ⟨G,env,d,env',rl,r,e,k⟩;cases e;exact k _ G H ((Ev.refl rl).setDat r) fun j hj=>Qm (by omega)
theorem a3S{n:Nat}:EGs X B n [] gNl:=by
 refine b0D b4C ?_
 rintro vs σ H Q ⟨G,env,ds,env',rl,r,e,k⟩;unfold gNl at e;split at e
 ·cases e
  simp only[z9_]at r;exact⟨r,k _ G H (.refl rl) fun _ _=>rfl⟩
 ·cases e
theorem a0U{n:Nat}(h1:EG X B n e g)(h2:EGs X B n es gs)(hs:(assignEach (e::es) X.env).map (·.2)=assign e X.env::(assignEach es X.env).map (·.2):=by rfl):EGs X B n (e::es) (gCn g gs):=by
 refine b0D (b4D h1 h2 hs) ?_
 rintro vs σ H Q ⟨G,env,ds,env',rl,r,e,k⟩;unfold gCn at e;split at e
 ·rename_i d ds
  obtain⟨env1,e1,e2⟩:=q6_ e;simp only[z9_]at r;obtain⟨x,xs,e3,r1,r2⟩:=r;exact⟨x,xs,e3,G,env,d,env1,rl,r1,e1,fun σ1 G1 H1 ev y1=>⟨G1,env1,ds,env',ev.rel,z9_.mono ev.same _ r2,e2,fun σ2 G2 H2 ev2 y2=>k σ2 G2 H2 (ev.trans ev2) fun j hj=>(y2 j hj).trans (y1 j hj)⟩⟩
 ·cases e
theorem a3T{nb n k':Nat}(hc:X.calm=true)(h:EGs X B nb es gs)(hn:(assignEach es X.env).length=n:=by rfl)(hst:(assignEach es X.env).findIdx? (·.1)=none:=by rfl):EG X B nb (.Tuple es k' pos) (gT n gs):=by
 refine a7b (b4F hc h hn hst) ?_
 rintro v σ H Q ⟨G,env,d,env',rl,r,e,k⟩;unfold gT at e;split at e
 ·rename_i ds
  split at e
  ·rename_i hl
   simp only[Rep]at r;obtain⟨p,xs,e1,q,t⟩:=r;exact⟨p,xs,e1,rl.sub.sqT q,t.length.trans hl,G,env,ds,env',rl,t,e,k⟩
  ·cases e
 ·cases e
def gS(s:Nat)(mi:Mo D):OZ:=fun d env=>((env[s]?).bind W.mutL).bind fun _=>(mi env).bind fun p=>match p.1 with
 |.int k=>(p.2[s]?).bind fun w=>w.mutL.bind fun ds=>(ixN ds.length k).map fun j=>p.2.set s (w.put (ds.set j d))
 |_=>none
theorem a5B{n s:Nat}{x:Str}{p:Pos}(ho:PE X (.Name x p) (a1t s))(hi:ED X B b mb)
  (ha:∀v,assign (.Subscript (.Name x p) b pos) X.env v=(do
   let ov←holding [v] (eval (.Name x p) X.env)
   let iv←holding [v,ov] (eval b X.env)
   standAt pos
   holding [v,ov,iv] (setItem ov iv v)
   release [v,ov,iv] []):=by intro _;rfl):EG X B n (.Subscript (.Name x p) b pos) (gS s mb):=by
 refine a7b (b4H ho hi b5w ha) ?_
 rintro v σ H Q ⟨G,env,d,env',rl,r,e,k⟩;obtain⟨ds0,e0,e⟩:=q6_ e;obtain⟨w0,e00,em0⟩:=q6_ e0;obtain⟨⟨d1,env1⟩,e1,e2⟩:=q6_ e;dsimp only at e2;split at e2
 ·rename_i kk
  obtain⟨w,e3,e4⟩:=q6_ e2;obtain⟨ds,e5,e6⟩:=q6_ e4;obtain⟨j,e7,e8⟩:=y5_ e6;cases e8;obtain⟨q,xs0,h1,h2,h3,h4⟩:=rl.ownL s w0 ds0 e00 em0;refine⟨_,h1,.bind rl e1 fun iv G1 H1 ev r1=>?_⟩
  simp only[Rep]at r1;obtain⟨q',xs,g1,g2,g3,g4⟩:=ev.rel.ownL s w ds e3 e5;rw[h1]at g1;cases g1;exact⟨q,xs,kk,j,rfl,r1,g2,by rw[g3.length];exact e7,k _ G1 _ (ev.write e3 e5 h1 (g3.set j (Rep.mono ev.same _ r))) fun _ _=>rfl⟩
 ·cases e2
def a0g(m:Mo D)(g:OZ):Mo Fl:=fun env=>(m env).bind fun p=>(g p.1 p.2).map fun e=>(.nx,e)
theorem a5C(he:ED X B e ma)(hg:EG X B 0 tg g)(hs:swapsWithSole [tg] e pos.line X.env=pure false:=by rfl)(hw:swappedStores [tg] e X.env=pure none:=by rfl)
  (h1:(assignEach [tg] X.env).map (·.2)=[assign tg X.env]:=by rfl):ES X B (.Assign [tg] e pos) (a0g ma g):=by
 refine ps_imp (b4I he hg hs hw h1) ?_
 rintro D σ H ⟨G,env,fl,env',rl,e,k⟩;obtain⟨⟨d1,env1⟩,e1,e2⟩:=q6_ e;obtain⟨env2,e3,e4⟩:=y5_ e2;cases e4;exact .bind rl e1 fun v G1 H1 ev r=>⟨G1,env1,d1,_,ev.rel,r,e3,fun σ2 G2 H2 ev2 _=>k σ2 G2 H2 (ev.trans ev2)⟩
def mPar(i j:Nat)(ms:Mo (List D)):Mo Fl:=fun env=>(ms env).bind fun p=>match p.1 with
 |[d,d']=>some (.nx,(p.2.set i (.dat d)).set j (.dat d'))
 |_=>none
structure ItD(K:Qq)(J:It)(G:Hp)(ds:List D):Prop where
 go:∀i H,Le G H->i<ds.length->J.go i H
 stop:∀i H,Le G H->ds.length≤i->J.stop i H
 yld:∀i H x H' d,Le G H->J.yld i H x H'->ds[i]? =some d->(H'=H/\Rep K G x d)∨ ∃p o,NT o/\H p=none/\H'=upd H p o/\Rep K (upd G p o) x d
end
section
variable(K:Qq)(B:OA)
def TIm(m:Mo (List D)):TI:=fun σ H R=>∃G env ds env',Rel K B G σ env H/\m env=some (ds,env')/\∀J G' H',Ev K B G σ env H G' σ env' H'->ItD K J G' ds->R J H'
end
abbrev EI(X:Cx)(B:OA)(tg e:Expr)(m:Mo (List D)):Prop:=PI X tg e (TIm X.K B m)
theorem a7c{X:Cx}{tg e:Expr}{t t':TI}(h:PI X tg e t)(i:∀σ H R,t' σ H R->t σ H R):PI X tg e t':=fun pins s σ H R I q=>h pins s σ H R I (i σ H R q)
section
variable{X:Cx}{B:OA}{pos:Pos}{a b c e tg:Expr}{ma mb mc:Mo D}{ms:Mo (List D)}{es:List Expr}{g:OZ}{gs:List D->Env'->Option Env'}
def b5V(K:Qq)(tl:TE):TI:=fun σ H R=>tl σ H fun x H1=>∃a,x=.ref a/\(((∃xs,SqL K H1 a xs)/\R (Itl K a) H1)∨((∃xs,SqT K H1 a xs)/\R (Itt K a) H1))
theorem b5W{l:Expr}{tl:TE}(hl:PE X l tl):PI X tg l (b5V X.K tl):=by
 intro pins s σ H R I h;refine thn (hl pins s σ H _ I h) fun v s1 ⟨x,H1,I1,r1,q1⟩=>?_
 obtain⟨a,e,q⟩:=q1;subst e;cases r1
 rcases q with⟨⟨xs,hq⟩,q⟩|⟨⟨xs,hq⟩,q⟩
 ·obtain⟨its,rv,p,hz⟩:=I1.list hq
  refine Ui p.isList ?_
  refine⟨s1.heap.objs.size,[s1.heap.objs.size],_,_,H1,rfl,I1.kept (t':=s1.toks) fun b o e=>Qj _ e,b4L a _,⟨_,Qn _ rfl,rfl,rfl⟩,fun b hb=>?_,q⟩
  have e:b=s1.heap.objs.size:=by simpa using hb
  subst e;exact I1.fpOk (Qb _) (I1.hok.fresh (Qb _))
 ·obtain⟨its,rv,p,hz⟩:=I1.tuple hq
  refine Vd (show s1.heap.IsTuple a its.toArray from p) ?_
  refine⟨s1.heap.objs.size,[s1.heap.objs.size],_,_,H1,rfl,I1.kept (t':=s1.toks) fun b o e=>Qj _ e,b4M a _,⟨_,Qn _ rfl,rfl,rfl⟩,fun b hb=>?_,q⟩
  have e:b=s1.heap.objs.size:=by simpa using hb
  subst e;exact I1.fpOk (Qb _) (I1.hok.fresh (Qb _))
def x2_(m:Mo D):Mo (List D):=fun env=>(m env).bind fun p=>p.1.items.map fun ds=>(ds,p.2)
theorem b5X{K:Qq}{G:Hp}{p:Addr}{xs:List V}{ds:List D}(q:SqL K G p xs)(r:z9_ K G xs ds):ItD K (Itl K p) G ds where
 go:=fun i H l hi=>⟨xs,xs[i]'(by rw[r.length];exact hi),l.sqL q,by simp⟩
 stop:=fun i H l hi=>⟨xs,l.sqL q,by rw[r.length];exact hi⟩
 yld:=fun i H x H' d l y e=>by
  obtain⟨rfl,y⟩:=y;obtain⟨x',e1,e2⟩:=r.get e;have:=y xs (l.sqL q);rw[e1]at this;cases this;exact .inl ⟨rfl,e2⟩
theorem b5Y{K:Qq}{G:Hp}{p:Addr}{xs:List V}{ds:List D}(q:SqU K G p xs)(r:z9_ K G xs ds):ItD K (Itt K p) G ds where
 go:=fun i H l hi=>⟨xs,xs[i]'(by rw[r.length];exact hi),l.sqT q,by simp⟩
 stop:=fun i H l hi=>⟨xs,l.sqT q,by rw[r.length];exact hi⟩
 yld:=fun i H x H' d l y e=>by
  obtain⟨rfl,y⟩:=y;obtain⟨x',e1,e2⟩:=r.get e;have:=y xs (l.sqT q);rw[e1]at this;cases this;exact .inl ⟨rfl,e2⟩
theorem a0b(h:ED X B e ma):EI X B tg e (x2_ ma):=by
 refine a7c (b5W h) ?_
 rintro σ H R ⟨G,env,ds,env',rl,e,k⟩;obtain⟨⟨d,env1⟩,e1,e2⟩:=q6_ e;obtain⟨ds',e3,e4⟩:=y5_ e2;cases e4;refine .bind rl e1 fun v G1 H1 ev r=>?_
 cases d<;>first|(exact absurd (show(none:Option (List D))=some _ from e3) (by simp))|skip
 ·cases e3
  simp only[Rep]at r;obtain⟨p,xs,e5,q,t⟩:=r;exact⟨p,e5,.inr ⟨⟨xs,ev.rel.sub.sqT q⟩,k _ G1 H1 ev (b5Y q t)⟩⟩
 ·cases e3
  simp only[Rep]at r;obtain⟨p,xs,e5,q,t⟩:=r;exact⟨p,e5,.inl ⟨⟨xs,ev.rel.sub.sqL q⟩,k _ G1 H1 ev (b5X q t)⟩⟩
def a0l(lo:Int)(n:Nat):List D:=(List.range n).map fun(i:Nat)=>D.int (lo+i)
theorem b5Z{K:Qq}{G:Hp}{lo:Int}{n:Nat}:ItD K (Itr lo n) G (a0l lo n)where
 go:=fun i H l hi=>by
  have h:i<n:=by simpa [a0l]using hi
  exact h
 stop:=fun i H l hi=>by
  have h:n≤i:=by simpa [a0l]using hi
  exact h
 yld:=fun i H x H' d l y e=>by
  obtain⟨rfl,rfl⟩:=y;refine .inl ⟨rfl,?_⟩;unfold a0l at e;rw[Yu]at e;cases hr:(List.range n)[i]? with
  |none=>rw[hr]at e;cases e
  |some j=>
   rw[hr]at e;cases e;obtain⟨h1,h2⟩:=Qg.mp hr
   simp at h2
   subst h2;simp only[Rep]
def j4_(ms:Mo (List D)):Mo (List D):=fun env=>(ms env).bind fun p=>match p.1 with
 |[.int j]=>if-1000000<j/\j<1000000 then some (a0l 0 j.toNat,p.2)else none
 |_=>none
theorem a2i{p:Pos}(hg:Gl X "range")(hm:X.mg "range"=none)(ha:EDs X B [a] ms)(hs:starEach [a] X.env=[(false,eval a X.env)]:=by rfl):EI X B tg (.Call (.Name "range" p) [a] [] pos) (j4_ ms):=by
 have h0:=b4Q (tg:=tg) (p:=p) (pos:=pos) hg hm ha hs
 refine a7c h0 ?_
 rintro σ H R ⟨G,env,ds,env',rl,e,k⟩;obtain⟨⟨ds',env1⟩,e1,e2⟩:=q6_ e;dsimp only at e2;split at e2
 ·rename_i j
  split at e2
  ·rename_i hj
   cases e2;refine⟨G,env,_,_,rl,e1,fun vs G1 H1 ev r=>?_⟩
   obtain⟨v,rfl,r1⟩:=a0D r;simp only[Rep]at r1;subst r1;exact⟨j,rfl,by omega,by omega,k _ G1 H1 ev b5Z⟩
  ·cases e2
 ·cases e2
def loop(g:OZ)(body:Mo Fl):List D->Mo Fl
 |[],env=>some (.nx,env)
 |d::ds,env=>(g d env).bind fun e1=>(body e1).bind fun p=>match p.1 with
  |.nx=>loop g body ds p.2
  |.ct=>loop g body ds p.2
  |.bk=>some (.nx,p.2)
  |.ret d=>some (.ret d,p.2)
  |.retL d=>some (.retL d,p.2)
def w8_(mi:Mo (List D))(g:OZ)(body:Mo Fl):Mo Fl:=fun env=>(mi env).bind fun p=>loop g body p.1 p.2
theorem Ev.alloc{K:Qq}{G:Hp}{σ:St}{env:Env'}{H:Hp}(r:Rel K B G σ env H){p:Addr}{o:HO}(h:H p=none)(no:NT o):Ev K B G σ env H (upd G p o) σ env (upd H p o):=r.alloc h no
theorem a0E{iter:Expr}{body:List Stmt}{mi:Mo (List D)}{mbd:Mo Fl}(hp:PassesOwn (model X.prog X.w) X.A X.env X.xe)(hc:X.calm=true)(hi:EI X B tg iter mi)(hg:EG X B 0 tg g)(hb:ESs X B body mbd)
  (hs:∀x,foldedSetIterable iter X.env x=pure x:=by intro _;rfl):ES X B (.For tg iter body [] pos) (w8_ mi g mbd):=by
 refine ps_imp (b4T hp hc hi hg hb hs) ?_
 rintro D σ H ⟨G,env,fl,env',rl,e,k⟩;obtain⟨⟨ds,env1⟩,e1,e2⟩:=q6_ e;dsimp only at e2;refine⟨G,env,ds,env1,rl,e1,fun J G1 H1 ev1 it=>?_⟩
 refine⟨fun i m σ2 H2=>m=ds.length-i/\i≤ds.length/\∃G2 env2,Ev X.K B G σ env H G2 σ2 env2 H2/\Le G1 G2/\loop g mbd (ds.drop i) env2=some (fl,env'),⟨_,rfl,Ub _,G1,env1,ev1,Le.refl,by simpa using e2⟩,?_⟩
 rintro i m σ2 H2 ⟨rfl,hi2,G2,env2,ev2,l2,e3⟩;have lH:Le G1 H2:=l2.trans ev2.rel.sub
 by_cases hlt:i<ds.length
 ·refine .inr ⟨it.go i H2 lH hlt,fun σ' H'=>∃G3 env3,Ev X.K B G σ env H G3 σ' env3 H'/\Le G1 G3/\loop g mbd (ds.drop (i+1)) env3=some (fl,env'),?_,fun x H3 y=>?_⟩
  ·rintro σ' H' ⟨G3,env3,ev3,l3,e4⟩
   exact⟨ds.length-(i+1),by omega,rfl,hlt,G3,env3,ev3,l3,e4⟩
  ·have ed:ds.drop i=ds[i]::ds.drop (i+1):=List.drop_eq_getElem_cons hlt
   rw[ed]at e3;obtain⟨env4,e4,e5⟩:=q6_ e3;obtain⟨⟨fl5,env5⟩,e6,e7⟩:=q6_ e5;have hget:ds[i]? =some ds[i]:=by simp[hlt]
   have st:∃G3,Ev X.K B G σ env H G3 σ2 env2 H3/\Le G1 G3/\Rep X.K G3 x ds[i]:=by
    rcases it.yld i H2 x H3 ds[i] lH y hget with⟨rfl,r⟩|⟨p,o,hno,hp2,rfl,r⟩
    ·exact⟨G2,ev2,l2,Rep.mono l2 _ r⟩
    ·have gp:=ev2.rel.gnone hp2
     refine⟨upd G2 p o,ev2.trans (ev2.rel.alloc hp2 hno),l2.trans (Le.upd gp),Rep.mono (fun b u q=>?_) _ r⟩
     by_cases hb2:b=p
     ·subst hb2;rw[y6_]at q ⊢;exact q
     ·rw[q4_ hb2]at q ⊢;exact l2 b u q
   obtain⟨G3,ev3,l3,r3⟩:=st;refine⟨G3,env2,ds[i],env4,ev3.rel,r3,e4,fun σ4 G4 H4 ev4 _=>?_⟩
   have ev5:=ev3.trans ev4
   refine⟨G4,env4,fl5,env5,ev4.rel,e6,?_⟩;cases fl5 with
   |nx=>exact fun σ6 G6 H6 ev6=>⟨G6,env5,ev5.trans ev6,(l3.trans ev4.same).trans ev6.same,e7⟩
   |ct=>exact fun σ6 G6 H6 ev6=>⟨G6,env5,ev5.trans ev6,(l3.trans ev4.same).trans ev6.same,e7⟩
   |bk=>cases e7;exact fun σ6 G6 H6 ev6=>k σ6 G6 H6 (ev5.trans ev6)
   |ret d=>cases e7;exact fun v σ6 G6 H6 ev6=>k v σ6 G6 H6 (ev5.trans ev6)
   |retL d=>cases e7;exact fun a xs σ6 G6 H6 ev6=>k a xs σ6 G6 H6 (ev5.trans ev6)
 ·have ei:i=ds.length:=by omega
  subst ei;rw[List.drop_length]at e3;cases e3;exact .inl ⟨it.stop _ H2 lH (Qb _),k σ2 G2 H2 ev2⟩
end
inductive Rr where
 |d (d:D)|l (ds:List D)
abbrev Fn:=List W->Option (Rr×List W)
def u6_:OA:=fun _=>False
def a4B(ws:List W):Prop:=∀w∈ws,(∃d,w=.dat d)∨w.isPar=true
def b6a(K:Qq)(G:Hp)(vs:List V)(ws:List W)(H:Hp)(ws':List W)(Q:VK):Rr->Prop
 |.d d=>∀v G' H',Ev K u6_ G (vs.map some) ws H G' (vs.map some) ws' H'->Rep K G' v d->Q v H'
 |.l ds=>∀a xs G' H',Ev K u6_ G (vs.map some) ws H G' (vs.map some) ws' H'->H a=none-> ¬ Owned (vs.map some) ws' a->H' a=some (.lst xs)->G' a=none->z9_ K G' xs ds->Q (.ref a) H'
def SpF(K:Qq)(n:Nat)(f:Fn):Sp:=fun vs H Q _=>∃G ws r ws',ws.length=n/\a4B ws/\Rel K u6_ G (vs.map some) ws H/\f ws=some (r,ws')/\b6a K G vs ws H ws' Q r
def a5D:W->W->W
 |.par _,.par ds=>.par ds
 |.par _,.parD ks vs=>.parD ks vs
 |.parD _ _,.par ds=>.par ds
 |.parD _ _,.parD ks vs=>.parD ks vs
 |.par _,_=>.nil
 |.parD _ _,_=>.nil
 |w,_=>w
def a0F(ws env:List W):List W:=List.zipWith a5D ws env
def fnM(N:Nat)(mb:Mo Fl):Fn:=fun ws=>match mb (ws++List.replicate (N-ws.length) .nil)with
 |some (.ret d,env)=>some (.d d,a0F ws env)
 |some (.retL ds,env)=>some (.l ds,a0F ws env)
 |some (.nx,env)=>some (.d .non,a0F ws env)
 |_=>none
theorem a1z{N:List Str}{vs:List V}{i:Nat}(hi:i<vs.length):(start N vs)[i]? =(vs.map some)[i]?:=by
 unfold start;rw[Jz (by simpa using hi)]
theorem a2j{α:Type}{l:List α}{n i:Nat}{a b:α}(h:(l++List.replicate n a)[i]? =some b):(i<l.length/\l[i]? =some b)∨(l.length≤i/\b=a):=by
 by_cases hi:i<l.length
 ·rw[Jz hi]at h;exact .inl ⟨hi,h⟩
 ·rw[List.getElem?_append_right (by omega),Jv]at h
  split at h
  ·cases h;exact .inr ⟨by omega,rfl⟩
  ·cases h
section
variable{K:Qq}{G:Hp}{vs:List V}{ws:List W}{H:Hp}{N:List Str}
theorem b0E(hl:ws.length=vs.length){n:Nat}{a:Addr}:Owned (start N vs) (ws++List.replicate n .nil) a↔Owned (vs.map some) ws a:=by
 constructor
 ·rintro⟨i,w,ds,e1,e2,e3⟩
  rcases a2j e1 with⟨h1,h2⟩|⟨h1,h2⟩
  ·rw[a1z (by omega)]at e3;exact⟨i,w,ds,h2,e2,e3⟩
  ·rw[h2]at e2;cases e2
 ·rintro⟨i,w,ds,e1,e2,e3⟩
  have hi:i<ws.length:=(Qg.mp e1).1
  exact⟨i,w,ds,by rw[Jz hi];exact e1,e2,by rw[a1z (by omega)];exact e3⟩
theorem a7d(r:Rel K u6_ G (vs.map some) ws H)(ok:a4B ws)(hN:vs.length≤N.length):Rel K (fun b=>H b≠none) G (start N vs) (ws++List.replicate (N.length-ws.length) .nil) H:=by
 have hl:ws.length=vs.length:=by have:=r.len;rwa [Qk]at this
 have noOwn:∀(i:Nat) (w:W),ws[i]? =some w->w.isOwn=true->False:=fun i w e h=>by
  rcases ok _ (Jc e)with⟨d,z⟩|z
  ·subst z;cases h
  ·cases w<;>first|(cases h;done)|(cases z;done)
 refine⟨r.sub,?_,fun i d e=>?_,fun i w ds e1 e2=>?_,fun i j w w' ds es a q1 q2 q3 q4 q5 q6=>?_,fun i w a q1 qo q2=>?_,fun b h=>h,r.tabs,r.gnt⟩
 ·unfold start
  simp only[Zq,Zc,Qk]
  omega
 ·rcases a2j e with⟨h1,h2⟩|⟨h1,h2⟩
  ·obtain⟨v,e1,e2⟩:=r.dat i d h2
   exact⟨v,by rw[a1z (by omega)];exact e1,e2⟩
  ·cases h2
 ·rcases a2j e1 with⟨h1,h2⟩|⟨h1,h2⟩
  ·obtain⟨a,xs,e3,e4⟩:=r.own i w ds h2 e2
   exact⟨a,xs,by rw[a1z (by omega)];exact e3,e4⟩
  ·rw[h2]at e2;cases e2
 ·rcases a2j q1 with⟨h1,h2⟩|⟨h1,h2⟩
  ·rcases a2j q3 with⟨h3,h4⟩|⟨h3,h4⟩
   ·rw[a1z (by omega)]at q5 q6
    exact r.inj i j w w' ds es a h2 q2 h4 q4 q5 q6
   ·rw[h4]at q4;cases q4
  ·rw[h2]at q2;cases q2
 ·rcases a2j q1 with⟨h1,h2⟩|⟨h1,h2⟩
  ·exact(noOwn i w h2 qo).elim
  ·subst h2;cases qo
theorem a5E{ws env:List W}{i:Nat}{w:W}(h:(a0F ws env)[i]? =some w):∃w1 w2,ws[i]? =some w1/\env[i]? =some w2/\w=a5D w1 w2:=by
 unfold a0F at h;rw[Jq]at h;cases e1:ws[i]? with
 |none=>rw[e1]at h;cases h
 |some w1=>
  cases e2:env[i]? with
  |none=>rw[e1,e2]at h;cases h
  |some w2=>rw[e1,e2]at h;cases h;exact⟨w1,w2,rfl,rfl,rfl⟩
theorem a7e{w1 w2:W}{m:Mu}(ok:(∃d,w1=.dat d)∨w1.isPar=true)(h:(a5D w1 w2).mut=some m):w2.mut=some m/\w2.isPar=true/\a5D w1 w2=w2/\w1.isPar=true:=by
 rcases ok with⟨d,z⟩|z
 ·subst z;cases h
 ·cases w1<;>cases w2<;>first|exact⟨h,rfl,rfl,rfl⟩|(cases z;done)|(cases h;done)
theorem a3b{G':Hp}{σ':St}{env':Env'}{H':Hp}(r:Rel K u6_ G (vs.map some) ws H)(ok:a4B ws)(hN:vs.length≤N.length)
  (ev:Ev K (fun b=>H b≠none) G (start N vs) (ws++List.replicate (N.length-ws.length) .nil) H G' σ' env' H'):Ev K u6_ G (vs.map some) ws H G' (vs.map some) (a0F ws env') H':=by
 have hl:ws.length=vs.length:=by have:=r.len;rwa [Qk]at this
 have okg:∀{i:Nat}{w:W},ws[i]? =some w->(∃d,w=.dat d)∨w.isPar=true:=fun e=>ok _ (Jc e)
 have hle:ws.length≤env'.length:=by
  have h1:=ev.rel.len
  have h2:=ev.slen
  have h3:(start N vs).length=N.length:=by unfold start;simp only[Zq,Zc,Qk];omega
  omega
 have par:∀(i:Nat) (w:W) (m:Mu),(a0F ws env')[i]? =some w->w.mut=some m->∃w0,ws[i]? =some w0/\w0.isPar=true/\env'[i]? =some w/\w.isPar=true/\σ'[i]? =(vs.map some)[i]?:=fun i w m e1 e2=>by
  obtain⟨w1,w2,h1,h2,h3⟩:=a5E e1;subst h3;obtain⟨h4,h5,h6,h7⟩:=a7e (okg h1) e2;have hi:i<vs.length:=by have:=(Qg.mp h1).1;omega
  rw[h6];exact⟨w1,h1,h7,h2,h5,(ev.par i w2 h2 h5).1.trans (a1z hi)⟩
 refine⟨⟨ev.rel.sub,?_,fun i d e=>?_,fun i w ds e1 e2=>?_,fun i j w w' ds es a q1 q2 q3 q4 q5 q6=>?_,fun i w a q1 qo q2 h=>h,fun b h=>h.elim,ev.rel.tabs,ev.rel.gnt⟩,ev.same,fun b o n t e=>ev.keep b o (fun z=>n ((b0E hl).mp z)) t e,ev.live,fun b e n g=>ev.stay b e (fun z=>n ((b0E hl).mp z)) g,fun a z=>?_,fun i w e hp=>?_,rfl⟩
 ·unfold a0F
  rw[Yp,Qk];omega
 ·obtain⟨w1,w2,h1,h2,h3⟩:=a5E e
  rcases okg h1 with⟨d1,z⟩|z
  ·subst z
   cases h3;obtain⟨v,e1,e2⟩:=r.dat i d h1;exact⟨v,e1,Rep.mono ev.same d e2⟩
  ·cases w1<;>cases w2<;>first|(cases h3;done)|(cases z;done)
 ·obtain⟨d0,h1,hp,h2,h3,h4⟩:=par i w ds e1 e2
  obtain⟨a,xs,e3,e4⟩:=ev.rel.own i _ ds h2 e2;exact⟨a,xs,by rw[←h4];exact e3,e4⟩
 ·obtain⟨d0,h1,hp,h2,h3,h4⟩:=par i w ds q1 q2
  obtain⟨d1,h5,hp',h6,h7,h8⟩:=par j w' es q3 q4;exact ev.rel.inj i j _ _ ds es a h2 q2 h6 q4 (by rw[h4];exact q5) (by rw[h8];exact q6)
 ·obtain⟨i,w,ds,e1,e2,e3⟩:=z
  obtain⟨d0,h1,hp,h2,h3,h4⟩:=par i w ds e1 e2;obtain⟨m0,hm0⟩:=par_mut hp;exact .inl ⟨i,_,m0,h1,hm0,e3⟩
 ·obtain⟨m,hm⟩:=par_mut hp
  obtain⟨d0,h1,hp',h2,h3,h4⟩:=par i _ m e hm;exact⟨rfl,d0,h1,hp'⟩
end
theorem k0_{P:Program}{w:World}{K:Qq}{mg:OU}{base:Heap}{x qual:Str}{st:Stmt}{f:Addr}{fd:FuncData}{N ps:List Str}{k:Nat}{mb:Mo Fl}(F:Fun K x qual st f fd)(S:FnScope N ps (v9_ st))
  (hb:∀(cdv:Value) (A:Around) (outer:List Env) (s:Shared) (H:Hp) (E:XK),Room k (A.deeper (envOfC qual (v9_ st) s.heap.objs.size f cdv))->
   ESs (j5_ CX0 P w K mg base N qual (v9_ st) f cdv A outer s H E).nox (fun b=>H b≠none) (a0S st) mb):FnOk P w K mg base CX0 (k+1) f fd ps (SpF K ps.length (fnM N.length mb)):=by
 have hpl:ps.length≤N.length:=by have:=Jf List.length S.pre;rw[Yr]at this;omega
 refine F.ok S (fun vs H Q E h=>?_) (fun cdv A outer s H vs Q E hr h=>?_)
 ·obtain⟨G,ws,r,ws',hl,ok,rl,_⟩:=h
  have:=rl.len;rw[Qk]at this;omega
 ·obtain⟨G,ws,r,ws',hl,ok,rl,e,k⟩:=h
  have hv:ws.length=vs.length:=by have:=rl.len;rwa [Qk]at this
  refine⟨_,hb cdv A outer s H E hr,?_⟩;have rl':=a7d (N:=N) rl ok (by omega)
  unfold fnM at e;split at e
  ·rename_i d env em
   cases e;refine⟨G,_,_,env,rl',em,?_⟩;exact fun v σ' G' H' ev rp=>k v G' H' (a3b rl ok (by omega) ev) rp
  ·rename_i ds env em
   cases e;refine⟨G,_,_,env,rl',em,?_⟩;intro a xs σ' G' H' ev nb no h' g' rp;refine k a xs G' H' (a3b rl ok (by omega) ev) (Jl nb) ?_ h' g' rp
   rintro⟨i,w',es,e1,e2,e3⟩;obtain⟨w1,w2,q1,q2,q3⟩:=a5E e1;subst q3;obtain⟨q4,q5,q6,q7⟩:=a7e (ok _ (Jc q1)) e2;have hi:i<vs.length:=by have:=(Qg.mp q1).1;omega
   exact no ⟨i,_,es,q2,q4,by rw[(ev.par i w2 q2 q5).1,a1z hi];exact e3⟩
  ·rename_i env em
   cases e;refine⟨G,_,_,env,rl',em,?_⟩;exact fun σ' G' H' ev=>k .non G' H' (a3b rl ok (by omega) ev) (by simp only[Rep])
  ·cases e
def slots:List Ar->List Nat
 |[]=>[]
 |.d _::r=>slots r
 |.sl i::r=>i::slots r
def a3c:Mu->W
 |.l ds=>.par ds
 |.d ks vs=>.parD ks vs
theorem b0F(c:Mu):(a3c c).mut=some c:=by cases c<;>rfl
theorem b0G(c:Mu):(a3c c).isPar=true:=by cases c<;>rfl
def u2_(c:Mu):Ar->W
 |.d d=>.dat d
 |.sl _=>a3c c
def a2k:List W->Option Mu
 |[]=>none
 |.par ds::_=>some (.l ds)
 |.parD ks vs::_=>some (.d ks vs)
 |_::r=>a2k r
def a1Q(n:Nat)(f:Fn)(as:Mo (List Ar)):Mo Rr:=fun env=>(as env).bind fun p=>if p.1.length=n then
 match slots p.1 with
 |[]=>(f (p.1.map (u2_ (.l [])))).map fun q=>(q.1,p.2)
 |[i]=>(p.2[i]?).bind fun w=>w.mut.bind fun c=>(f (p.1.map (u2_ c))).bind fun q=>(a2k q.2).map fun c'=>(q.1,p.2.set i (w.putM c'))
 |_=>none
 else none
theorem a2l:∀{as:List Ar},slots as=[]->∀(k j:Nat),as[k]? ≠some (.sl j)
 |[],_,k,j,e=>by simp at e
 |.d _::r,h,k,j,e=>by
  cases k with
  |zero=>simp at e
  |succ k=>exact a2l (as:=r) h k j (by simpa using e)
 |.sl i::r,h,k,j,e=>by simp[slots]at h
theorem a7f:∀{as:List Ar}{i:Nat},slots as=[i]->∃k:Nat,as[k]? =some (.sl i)/\∀(k' j:Nat),as[k']? =some (.sl j)->k'=k/\j=i
 |[],_,h=>by simp[slots]at h
 |.d _::r,i,h=>by
  obtain⟨k,h1,h2⟩:=a7f (as:=r) h;refine⟨k+1,by simpa using h1,fun k' j e=>?_⟩
  cases k' with
  |zero=>simp at e
  |succ k'=>
   obtain⟨a,b⟩:=h2 k' j (by simpa using e)
   exact⟨by omega,b⟩
 |.sl i'::r,i,h=>by
  simp only[slots,List.cons.injEq]at h;obtain⟨rfl,h⟩:=h;refine⟨0,by simp,fun k' j e=>?_⟩
  cases k' with
  |zero=>simp at e;exact⟨rfl,e.symm⟩
  |succ k'=>exact absurd (by simpa using e) (a2l h k' j)
theorem a4C:∀{ws:List W}{c:Mu},a2k ws=some c->∃k:Nat,ws[k]? =some (a3c c)
 |[],_,h=>by simp[a2k]at h
 |.par ds::r,c,h=>by simp only[a2k,Zb]at h;subst h;exact⟨0,by simp[a3c]⟩
 |.parD ks vs::r,c,h=>by simp only[a2k,Zb]at h;subst h;exact⟨0,by simp[a3c]⟩
 |.nil::r,c,h=>by obtain⟨k,e⟩:=a4C (ws:=r) h;exact⟨k+1,by simpa using e⟩
 |.dat _::r,c,h=>by obtain⟨k,e⟩:=a4C (ws:=r) h;exact⟨k+1,by simpa using e⟩
 |.own _::r,c,h=>by obtain⟨k,e⟩:=a4C (ws:=r) h;exact⟨k+1,by simpa using e⟩
 |.ownD _ _::r,c,h=>by obtain⟨k,e⟩:=a4C (ws:=r) h;exact⟨k+1,by simpa using e⟩
section
variable{K:Qq}{G:Hp}{σ:St}
theorem RepA.length:∀{as:List Ar}{vs:List V},RepA K G σ vs as->vs.length=as.length
 |[],_,h=>by simp only[RepA]at h;subst h;rfl
 |.d d::as,_,h=>by
  simp only[RepA]at h;obtain⟨x,r,rfl,_,t⟩:=h
  simp[RepA.length t]
 |.sl i::as,_,h=>by
  simp only[RepA]at h;obtain⟨x,r,rfl,_,t⟩:=h
  simp[RepA.length t]
theorem RepA.getD:∀{as:List Ar}{vs:List V}{k:Nat}{d:D},RepA K G σ vs as->as[k]? =some (.d d)->∃v,vs[k]? =some v/\Rep K G v d
 |[],_,k,d,h,e=>by simp at e
 |.d d'::as,_,k,d,h,e=>by
  simp only[RepA]at h;obtain⟨x,r,rfl,q,t⟩:=h;cases k with
  |zero=>simp at e;subst e;exact⟨x,by simp,q⟩
  |succ k=>simpa using RepA.getD (k:=k) t (by simpa using e)
 |.sl i::as,_,k,d,h,e=>by
  simp only[RepA]at h;obtain⟨x,r,rfl,q,t⟩:=h;cases k with
  |zero=>simp at e
  |succ k=>simpa using RepA.getD (k:=k) t (by simpa using e)
theorem RepA.getS:∀{as:List Ar}{vs:List V}{k i:Nat},RepA K G σ vs as->as[k]? =some (.sl i)->∃v,vs[k]? =some v/\σ[i]? =some (some v)
 |[],_,k,i,h,e=>by simp at e
 |.d d'::as,_,k,i,h,e=>by
  simp only[RepA]at h;obtain⟨x,r,rfl,q,t⟩:=h;cases k with
  |zero=>simp at e
  |succ k=>simpa using RepA.getS (k:=k) t (by simpa using e)
 |.sl i'::as,_,k,i,h,e=>by
  simp only[RepA]at h;obtain⟨x,r,rfl,q,t⟩:=h;cases k with
  |zero=>simp at e;subst e;exact⟨x,by simp,q⟩
  |succ k=>simpa using RepA.getS (k:=k) t (by simpa using e)
end
section
variable{K:Qq}{B:OA}{G:Hp}{σ:St}{env:Env'}{H:Hp}{as:List Ar}{vs:List V}{c:Mu}
theorem a7g:a4B (as.map (u2_ c)):=fun w hw=>by
 obtain⟨a,_,rfl⟩:=Zk.mp hw;cases a with
 |d d=>exact .inl ⟨d,rfl⟩
 |sl i=>exact .inr (b0G c)
theorem a3U{k:Nat}{w:W}(e:(as.map (u2_ c))[k]? =some w):(∃d,as[k]? =some (.d d)/\w=.dat d)∨ ∃j,as[k]? =some (.sl j)/\w=a3c c:=by
 rw[Yu]at e;cases h:as[k]? with
 |none=>rw[h]at e;cases e
 |some a=>
  rw[h]at e;cases a with
  |d d=>cases e;exact .inl ⟨d,rfl,rfl⟩
  |sl j=>cases e;exact .inr ⟨j,rfl,rfl⟩
theorem b0H{k:Nat}{v:V}(h:vs[k]? =some v):(vs.map some)[k]? =some (some v):=by rw[Yu,h];rfl
theorem b0I{k:Nat}{v:V}(h:(vs.map some)[k]? =some (some v)):vs[k]? =some v:=by
 rw[Yu]at h;cases e:vs[k]? with
 |none=>rw[e]at h;cases h
 |some u=>rw[e]at h;cases h;rfl
theorem a7h{i:Nat}{w:W}(rl:Rel K B G σ env H)(ra:RepA K G σ vs as)(u:∀(k j:Nat),as[k]? =some (.sl j)->j=i/\env[i]? =some w/\w.mut=some c)(un:∀(k k' j j':Nat),as[k]? =some (.sl j)->as[k']? =some (.sl j')->k=k'):
  Rel K u6_ G (vs.map some) (as.map (u2_ c)) H:=by
 refine⟨rl.sub,by rw[Qk,Qk,ra.length],fun k d e=>?_,fun k v ds e1 e2=>?_,fun k k' v v' ds es a q1 q2 q3 q4 q5 q6=>?_,fun k w a e _ _ h=>h,fun b h=>h.elim,rl.tabs,rl.gnt⟩
 ·rcases a3U e with⟨d',h1,h2⟩|⟨j,h1,h2⟩
  ·cases h2
   obtain⟨v,q1,q2⟩:=ra.getD h1;exact⟨v,b0H q1,q2⟩
  ·cases c<;>cases h2
 ·rcases a3U e1 with⟨d',h1,h2⟩|⟨j,h1,h2⟩
  ·subst h2;cases e2
  ·subst h2;rw[b0F]at e2;cases e2
   obtain⟨v,q1,q2⟩:=ra.getS h1;obtain⟨rfl,q3,q4⟩:=u k j h1;obtain⟨a,xs,q5,q6,q7,q8⟩:=rl.own j w c q3 q4;rw[q2]at q5;cases q5;exact⟨a,xs,b0H q1,q6,q7,q8⟩
 ·rcases a3U q1 with⟨d',h1,h2⟩|⟨j,h1,h2⟩
  ·subst h2;cases q2
  ·rcases a3U q3 with⟨d',h3,h4⟩|⟨j',h3,h4⟩
   ·subst h4;cases q4
   ·exact un k k' j j' h1 h3
theorem b0J{i:Nat}(ra:RepA K G σ vs as)(u:∀(k j:Nat),as[k]? =some (.sl j)->j=i){a:Addr}(h:Owned (vs.map some) (as.map (u2_ c)) a):σ[i]? =some (some (V.ref a))/\∃k:Nat,as[k]? =some (Ar.sl i):=by
 obtain⟨k,v,ds,e1,e2,e3⟩:=h
 rcases a3U e1 with⟨d',h1,h2⟩|⟨j,h1,h2⟩
 ·subst h2;cases e2
 ·obtain⟨v',q1,q2⟩:=ra.getS h1
  have:=u k j h1;subst this;have e4:=b0I e3;rw[q1]at e4;cases e4;exact⟨q2,k,h1⟩
theorem a7i{G2 H2:Hp}{ws':List W}(rl:Rel K B G σ env H)(ra:RepA K G σ vs as)(hs:slots as=[])(ev:Ev K u6_ G (vs.map some) (as.map (u2_ c)) H G2 (vs.map some) ws' H2):Ev K B G σ env H G2 σ env H2:=by
 have no:∀a,¬ Owned (vs.map some) (as.map (u2_ c)) a:=fun a z=>by
  obtain⟨_,k,e⟩:=b0J (i:=0) ra (fun k j e=>absurd e (a2l hs k j)) z
  exact a2l hs k 0 e
 refine⟨⟨ev.rel.sub,rl.len,fun i d e=>?_,fun i w ds e1 e2=>?_,rl.inj,rl.fresh,fun b h=>ev.live b (rl.old b h),ev.rel.tabs,ev.rel.gnt⟩,ev.same,fun b o _ t e=>ev.keep b o (no b) t e,ev.live,fun b e _ g=>ev.stay b e (no b) g,fun a z=>.inl z,fun i w e hp=>⟨rfl,w,e,hp⟩,rfl⟩
 ·obtain⟨v,q1,q2⟩:=rl.dat i d e
  exact⟨v,q1,Rep.mono ev.same d q2⟩
 ·obtain⟨a,xs,q1,q2,q3,q4⟩:=rl.own i w ds e1 e2
  exact⟨a,xs,q1,ev.keep a _ (no a) q3.nt q2,q3.mono ev.same,ev.stay a (by rw[q2];simp) (no a) q4⟩
theorem b0K{G2 H2:Hp}{ws':List W}{i:Nat}{w:W}{c':Mu}(rl:Rel K B G σ env H)(ra:RepA K G σ vs as)(hs:slots as=[i])(e1:env[i]? =some w)(e2:w.mut=some c)(hp:a2k ws'=some c')
  (ev:Ev K u6_ G (vs.map some) (as.map (u2_ c)) H G2 (vs.map some) ws' H2):Ev K B G σ env H G2 σ (env.set i (w.putM c')) H2:=by
 obtain⟨k,hk,uk⟩:=a7f hs;obtain⟨a,xs,h1,h2,h3,h4⟩:=rl.own i w c e1 e2;have ow:Owned σ env a:=⟨i,w,c,e1,e2,h1⟩;have isA:∀b,Owned (vs.map some) (as.map (u2_ c)) b->b=a:=fun b z=>by
  obtain⟨q,_⟩:=b0J ra (fun k j e=>(uk k j e).2) z
  rw[h1]at q;cases q;rfl
 obtain⟨k',hk'⟩:=a4C hp;have ek:k'=k:=by
  obtain⟨_,d0,q,qp⟩:=ev.par k' _ hk' (b0G c')
  rcases a3U q with⟨d',z1,z2⟩|⟨j,z1,z2⟩
  ·subst z2;cases qp
  ·exact(uk k' j z1).1
 subst ek;obtain⟨a2,ys,g1,g2,g3,g4⟩:=ev.rel.own k' _ c' hk' (b0F c');obtain⟨v,q1,q2⟩:=ra.getS hk;have g5:=b0I g1;rw[q1]at g5;cases g5;rw[h1]at q2;cases q2;have wp:(w.putM c').mut=some c':=W.putM_mut e2 c';have nd:∀d,w.putM c'≠.dat d:=fun d z=>by rw[z]at wp;cases wp
 refine⟨⟨ev.rel.sub,by rw[Zp];exact rl.len,fun j d' q=>?_,fun j v es y1 y2=>?_,fun j m v v' es fs b y1 y2 y3 y4 y5 y6=>?_,fun j v b y1 yo y2=>?_,fun b h=>ev.live b (rl.old b h),ev.rel.tabs,ev.rel.gnt⟩,ev.same,fun b o n t e=>ev.keep b o (fun z=>n (isA b z ▸ ow)) t e,ev.live,fun b e n g=>ev.stay b e (fun z=>n (isA b z ▸ ow)) g,fun b z=>.inl ?_,fun j v q qp=>⟨rfl,?_⟩,rfl⟩
 ·rcases w4_ q with⟨z1,z2⟩|⟨z1,z2⟩
  ·exact absurd z2.symm (nd d')
  ·obtain⟨v,q1,q2⟩:=rl.dat j d' z2
   exact⟨v,q1,Rep.mono ev.same d' q2⟩
 ·rcases w4_ y1 with⟨z1,z2⟩|⟨z1,z2⟩
  ·subst z1 z2
   rw[wp]at y2;cases y2;exact⟨a,ys,h1,g2,g3,g4⟩
  ·obtain⟨p,zs,f1,f2,f3,f4⟩:=rl.own j v es z2 y2
   have hp:p≠a:=fun z=>z1 (rl.inj j i v w es c a z2 y2 e1 e2 (by rw[f1,z]) h1)
   have np:¬ Owned (vs.map some) (as.map (u2_ c)) p:=fun z=>hp (isA p z)
   exact⟨p,zs,f1,ev.keep p _ np f3.nt f2,f3.mono ev.same,ev.stay p (by rw[f2];simp) np f4⟩
 ·have g:∀(m:Nat) (v:W) (es:Mu),(env.set i (w.putM c'))[m]? =some v->v.mut=some es->∃v0 es0,env[m]? =some v0/\v0.mut=some es0:=fun m v es y1 y2=>by
   rcases w4_ y1 with⟨z1,z2⟩|⟨z1,z2⟩
   ·rw[z1];exact⟨w,c,e1,e2⟩
   ·exact⟨v,es,z2,y2⟩
  obtain⟨v0,es0,x1,x2⟩:=g j v es y1 y2;obtain⟨v1,es1,x3,x4⟩:=g m v' fs y3 y4;exact rl.inj j m v0 v1 es0 es1 b x1 x2 x3 x4 y5 y6
 ·rcases w4_ y1 with⟨z1,z2⟩|⟨z1,z2⟩
  ·subst z1
   exact rl.fresh j w b e1 (by rw[z2,W.putM_own e2]at yo;exact yo) y2
  ·exact rl.fresh j v b z2 yo y2
 ·obtain⟨j,v,es,y1,y2,y3⟩:=z
  rcases w4_ y1 with⟨z1,z2⟩|⟨z1,z2⟩
  ·rw[z1,h1]at y3;cases y3;exact ow
  ·exact⟨j,v,es,z2,y2,y3⟩
 ·rcases w4_ q with⟨z1,z2⟩|⟨z1,z2⟩
  ·subst z1
   exact⟨w,e1,by rw[z2,W.putM_par e2]at qp;exact qp⟩
  ·exact⟨v,z2,qp⟩
end
def asD:Rr×Env'->Option (D×Env')
 |(.d d,e)=>some (d,e)
 |_=>none
def asL:Rr×Env'->Option (List D×Env')
 |(.l d,e)=>some (d,e)
 |_=>none
def mCD(n:Nat)(f:Fn)(as:Mo (List Ar)):Mo D:=fun env=>(a1Q n f as env).bind asD
def u3_(n:Nat)(f:Fn)(as:Mo (List Ar)):Mo (List D):=fun env=>(a1Q n f as env).bind asL
def b6b(K:Qq)(B:OA)(G:Hp)(σ:St)(env:Env')(H:Hp)(env':Env')(Q:VK):Rr->Prop
 |.d d=>∀v G' H',Ev K B G σ env H G' σ env' H'->Rep K G' v d->Q v H'
 |.l ds=>∀a xs G' H',Ev K B G σ env H G' σ env' H'->H a=none-> ¬ Owned σ env' a->H' a=some (.lst xs)->G' a=none->z9_ K G' xs ds->Q (.ref a) H'
theorem a5F{K:Qq}{B:OA}{n:Nat}{f:Fn}{as:Mo (List Ar)}{σ:St}{H:Hp}{G:Hp}{env env':Env'}{r:Rr}{Q:VK}{E:XK}(rl:Rel K B G σ env H)(e:a1Q n f as env=some (r,env'))
  (k:b6b K B G σ env H env' Q r):
  a5l (SpF K n f) [] E (TAm K B as) σ H Q:=by
 obtain⟨⟨av,env1⟩,e1,e2⟩:=q6_ e;dsimp only at e2;split at e2
 ·rename_i hn
  refine⟨G,env,av,env1,rl,e1,fun vs G1 H1 ev ra=>?_⟩
  show SpF K n f (vs++[]) H1 Q E;rw[Um];have hnone:∀a,H1 a=none->H a=none:=fun a h=>by
   cases q:H a with
   |none=>rfl
   |some o=>exact absurd h (ev.live a (by rw[q];simp))
  split at e2
  ·rename_i hs
   obtain⟨⟨r',ws'⟩,e3,e4⟩:=y5_ e2;cases e4;refine⟨G1,av.map (u2_ (.l [])),r',ws',by rw[Qk];exact hn,a7g,a7h (i:=0) (w:=.nil) ev.rel ra (fun k j e=>absurd e (a2l hs k j)) (fun k k' j j' e=>absurd e (a2l hs k j)),e3,?_⟩
   cases r' with
   |d d=>exact fun v G2 H2 ev2 rp=>k v G2 H2 (ev.trans (a7i ev.rel ra hs ev2)) rp
   |l ds=>
    intro a xs G2 H2 ev2 ha no h' g' rp;exact k a xs G2 H2 (ev.trans (a7i ev.rel ra hs ev2)) (hnone a ha) (ev.rel.unowned ha) h' g' rp
  ·rename_i i hs
   obtain⟨w,e3,e4⟩:=q6_ e2;obtain⟨c,e5,e6⟩:=q6_ e4;obtain⟨⟨r',ws'⟩,e7,e8⟩:=q6_ e6;obtain⟨c',e9,e10⟩:=y5_ e8;cases e10;obtain⟨kk,hk,uk⟩:=a7f hs;refine⟨G1,av.map (u2_ c),r',ws',by rw[Qk];exact hn,a7g,a7h (i:=i) (w:=w) ev.rel ra (fun k j e=>⟨(uk k j e).2,e3,e5⟩) (fun k k' j j' h1 h2=>(uk k j h1).1.trans (uk k' j' h2).1.symm),e7,?_⟩
   cases r' with
   |d d=>exact fun v G2 H2 ev2 rp=>k v G2 H2 (ev.trans (b0K ev.rel ra hs e3 e5 e9 ev2)) rp
   |l ds=>
    intro a xs G2 H2 ev2 ha no h' g' rp;have evc:=b0K ev.rel ra hs e3 e5 e9 ev2;refine k a xs G2 H2 (ev.trans evc) (hnone a ha) (fun z=>?_) h' g' rp
    rcases evc.sub a z with q|q
    ·exact ev.rel.unowned ha q
    ·obtain⟨j,v,es,y1,y2,y3⟩:=z
     rcases w4_ y1 with⟨z1,z2⟩|⟨z1,z2⟩
     ·subst z1
      exact ev.rel.unowned ha ⟨j,w,c,e3,e5,y3⟩
     ·exact ev.rel.unowned ha ⟨j,v,es,z2,y2,y3⟩
  ·cases e2
 ·cases e2
section
variable{X:Cx}{B:OA}{pos p:Pos}{e:Expr}{es:List Expr}{as:Mo (List Ar)}{fn:Fn}{k:Nat}{f:Addr}{fd:FuncData}{ps:List Str}{x:Str}
theorem b6c(F:FnOk X.prog X.w X.K X.mg X.base CX0 k f fd ps (SpF X.K ps.length fn))(hr:Room k X.A)(hg:Gl X x)(hm:X.mg x=some (.ref f))(hk:PySem.W.keepIn X.K (.ref f)=true)(hb:a0j X.K fd ps [])
  (ha:EAr X B (e::es) as)(hdb:(x==("__debug__":Str))=false:=by decide)(he:starEach (e::es) X.env=(false,eval e X.env)::starEach es X.env:=by rfl)(hpl:(backTo pos (starEach es X.env)).any (·.1)=false:=by rfl):
  ED X B (.Call (.Name x p) (e::es) [] pos) (mCD ps.length fn as):=by
 refine pe_imp (a6I F hr hg hm hk hb .nil a5n ha hdb he hpl) ?_
 rintro σ H Q ⟨G,env,d,env',rl,e,k⟩;obtain⟨⟨r,env1⟩,e1,e2⟩:=q6_ e;cases r with
 |d d'=>cases e2;exact a5F rl e1 k
 |l ds=>cases e2
theorem b6d(F:FnOk X.prog X.w X.K X.mg X.base CX0 k f fd ps (SpF X.K ps.length fn))(hr:Room k X.A)(hg:Gl X x)(hm:X.mg x=some (.ref f))(hk:PySem.W.keepIn X.K (.ref f)=true)(hb:a0j X.K fd ps [])
  (ha:EAr X B (e::es) as)(hdb:(x==("__debug__":Str))=false:=by decide)(he:starEach (e::es) X.env=(false,eval e X.env)::starEach es X.env:=by rfl)(hpl:(backTo pos (starEach es X.env)).any (·.1)=false:=by rfl):
  EL X B (.Call (.Name x p) (e::es) [] pos) (u3_ ps.length fn as):=by
 refine pe_imp (a6I F hr hg hm hk hb .nil a5n ha hdb he hpl) ?_
 rintro σ H Q ⟨G,env,d,env',rl,e,k⟩;obtain⟨⟨r,env1⟩,e1,e2⟩:=q6_ e;cases r with
 |d d'=>cases e2
 |l ds=>cases e2;exact a5F rl e1 k
end
def g6_(cells:List (Str×Addr)):List (Str×NameKind)->List (Str×Addr)->List (Str×Addr)
 |[],acc=>acc
 |(n,k)::r,acc=>if k==.free then(match cells.lookup n with
  |some c=>g6_ cells r ((n,c)::acc)
  |none=>g6_ cells r acc)else g6_ cells r acc
theorem a0m{α:Type}{n x:Str}{a:α}{r:List (Str×α)}:((n,a)::r).lookup x=if x=n then some a else r.lookup x:=by
 rw[List.lookup_cons]
 by_cases h:x=n
 ·subst h;simp
 ·have:(x==n)=false:=by simpa using h
  rw[this,Ql h]
theorem a2m{cells:List (Str×Addr)}:∀{names:List (Str×NameKind)}{acc:List (Str×Addr)}{x:Str}{c:Addr},(g6_ cells names acc).lookup x=some c->acc.lookup x=some c∨cells.lookup x=some c
 |[],acc,x,c,h=>.inl h
 |(n,k)::r,acc,x,c,h=>by
  unfold g6_ at h;split at h
  ·split at h
   ·rename_i c' hc
    rcases a2m h with q|q
    ·rw[a0m]at q
     split at q
     ·rename_i e;subst e;cases q;exact .inr hc
     ·exact .inl q
    ·exact .inr q
   ·exact a2m h
  ·exact a2m h
theorem a5G{cells:List (Str×Addr)}:∀{names:List (Str×NameKind)}{acc:List (Str×Addr)}{x:Str},(acc.lookup x).isSome=true->((g6_ cells names acc).lookup x).isSome=true
 |[],acc,x,h=>h
 |(n,k)::r,acc,x,h=>by
  unfold g6_;split
  ·split
   ·refine a5G ?_
    rw[a0m];split<;>simp[h]
   ·exact a5G h
  ·exact a5G h
theorem a3d{cells:List (Str×Addr)}:∀{names:List (Str×NameKind)}{acc:List (Str×Addr)}{x:Str},(x,NameKind.free)∈names->(cells.lookup x).isSome=true->((g6_ cells names acc).lookup x).isSome=true
 |[],acc,x,h,_=>by cases h
 |(n,k)::r,acc,x,h,hc=>by
  unfold g6_
  rcases Qh.mp h with e|h
  ·cases e
   rw[Qc (by decide)]
   split
   ·refine a5G ?_
    rw[a0m];simp
   ·rename_i hn;rw[hn]at hc;cases hc
  ·split
   ·split
    ·exact a3d h hc
    ·exact a3d h hc
   ·exact a3d h hc
theorem a7j:∀{names:List (Str×NameKind)}{h:Heap}{acc:List (Str×Addr)}{x:Str}{c:Addr},(cellsFrom h.objs.size names acc).lookup x=some c->
  acc.lookup x=some c∨((pushCells h names).IsCell c none/\h.objs.size≤c/\(x,NameKind.cell)∈names)
 |[],h,acc,x,c,q=>.inl q
 |(n,k)::r,h,acc,x,c,q=>by
  unfold cellsFrom at q;unfold pushCells;split at q
  ·rename_i hk
   rw[Qc hk];have hk':k=.cell:=by simpa using hk
   have ih:=a7j (names:=r) (h:=h.push {cls:=.type "cell",data:=.cell none}) (acc:=(n,h.objs.size)::acc) (x:=x) (c:=c) (by rw[Zr];exact q)
   rcases ih with z|⟨z1,z2,z3⟩
   ·rw[a0m]at z
    split at z
    ·rename_i e;subst e;cases z
     exact .inr ⟨⟨_,Vp _ _ _ _ (Qn _ rfl),rfl⟩,Qb _,by rw[hk'];exact Yx⟩
    ·exact .inl z
   ·rw[Zr]at z2
    exact .inr ⟨z1,by omega,Yw _ z3⟩
  ·rename_i hk
   rw[Ql hk]
   rcases a7j q with z|⟨z1,z2,z3⟩
   ·exact .inl z
   ·exact .inr ⟨z1,z2,Yw _ z3⟩
theorem a7k:∀{names:List (Str×NameKind)}{n:Nat}{acc:List (Str×Addr)},(∀x y c,acc.lookup x=some c->acc.lookup y=some c->x=y)->(∀x c,acc.lookup x=some c->c<n)->
  ∀x y c,(cellsFrom n names acc).lookup x=some c->(cellsFrom n names acc).lookup y=some c->x=y
 |[],n,acc,h1,h2=>h1
 |(m,k)::r,n,acc,h1,h2=>by
  unfold cellsFrom;split
  ·refine a7k (names:=r) (fun x y c q1 q2=>?_) (fun x c q=>?_)
   ·rw[a0m]at q1 q2
    split at q1<;>split at q2
    ·rename_i e1 e2;rw[e1,e2]
    ·cases q1;exact absurd (h2 _ _ q2) (Yh _)
    ·cases q2;exact absurd (h2 _ _ q1) (Yh _)
    ·exact h1 x y c q1 q2
   ·rw[a0m]at q
    split at q
    ·cases q;exact Nat.lt_succ_self _
    ·exact Jm (h2 _ _ q)
  ·exact a7k (names:=r) h1 h2
theorem a5H{env:Env}{x:Str}:∀{names:List (Str×NameKind)},((names.map fun(n,k)=>if(k==NameKind.free&&env.scope.kind==.function&&env.kindOf n==some .cell)then(n,NameKind.cell)else(n,k)).lookup x)=
  (names.lookup x).map fun k=>if(k==NameKind.free&&env.scope.kind==.function&&env.kindOf x==some .cell)then NameKind.cell else k
 |[]=>rfl
 |(n,k)::r=>by
  have ih:=a5H (env:=env) (x:=x) (names:=r)
  show List.lookup x ((if(k==NameKind.free&&env.scope.kind==.function&&env.kindOf n==some .cell)=true then(n,NameKind.cell)else(n,k))::_)=_
  by_cases hx:x=n
  ·subst hx
   rw[a0m (a:=k),Qc rfl]
   by_cases hc:(k==NameKind.free&&env.scope.kind==.function&&env.kindOf x==some .cell)=true
   ·rw[Qc hc,a0m,Qc rfl]
    show _=some (if(k==NameKind.free&&env.scope.kind==.function&&env.kindOf x==some .cell)=true then NameKind.cell else k)
    rw[Qc hc]
   ·rw[Ql hc,a0m,Qc rfl]
    show _=some (if(k==NameKind.free&&env.scope.kind==.function&&env.kindOf x==some .cell)=true then NameKind.cell else k)
    rw[Ql hc]
  ·rw[a0m (a:=k),Ql hx]
   by_cases hc:(k==NameKind.free&&env.scope.kind==.function&&env.kindOf n==some .cell)=true
   ·rw[Qc hc,a0m,Ql hx];exact ih
   ·rw[Ql hc,a0m,Ql hx];exact ih
theorem a5I:∀{names:List (Str×NameKind)}{n:Nat}{acc:List (Str×Addr)}{x:Str}{c0:Addr},acc.lookup x=some c0->∃c,(cellsFrom n names acc).lookup x=some c/\(c=c0∨n≤c)
 |[],n,acc,x,c0,h=>⟨c0,h,.inl rfl⟩
 |(m,k)::r,n,acc,x,c0,h=>by
  unfold cellsFrom;split
  ·by_cases hx:x=m
   ·obtain⟨c,h1,h2⟩:=a5I (names:=r) (n:=n+1) (acc:=(m,n)::acc) (x:=x) (c0:=n) (by rw[a0m,Qc hx])
    exact⟨c,h1,.inr (h2.elim (fun z=>Vo z.symm) fun z=>Jn z)⟩
   ·obtain⟨c,h1,h2⟩:=a5I (names:=r) (n:=n+1) (acc:=(m,n)::acc) (x:=x) (c0:=c0) (by rw[a0m,Ql hx];exact h)
    exact⟨c,h1,h2.elim .inl fun z=>.inr (Jn z)⟩
  ·exact a5I h
theorem a7l:∀{names:List (Str×NameKind)}{n:Nat}{acc:List (Str×Addr)}{x:Str},(x,NameKind.cell)∈names->∃c,(cellsFrom n names acc).lookup x=some c/\n≤c
 |[],n,acc,x,h=>by cases h
 |(m,k)::r,n,acc,x,h=>by
  unfold cellsFrom
  rcases Qh.mp h with e|h
  ·cases e
   rw[Qc (by decide)]
   obtain⟨c,h1,h2⟩:=a5I (names:=r) (n:=n+1) (acc:=(m,n)::acc) (x:=m) (c0:=n) (by rw[a0m,Qc rfl])
   exact⟨c,h1,h2.elim (fun z=>Vo z.symm) fun z=>Jn z⟩
  ·split
   ·obtain⟨c,h1,h2⟩:=a7l (names:=r) (n:=n+1) (acc:=(m,n)::acc) h
    exact⟨c,h1,Jn h2⟩
   ·exact a7l h
def a3V(scope:Scope)(env:Env)(C:Addr):Env:=
 {scope:=relabel scope env,locals:=C,globals:=env.globals,cells:=cellsFrom (C+1) scope.names (g6_ env.cells scope.names []),qual:=env.qual,func:=none,code:=env.code,frame:=env.frame,builtins:=env.builtins}
def w9_(X:Cx)(N':List Str)(scope:Scope)(s:Shared)(H:Hp)(fp:List Addr):Cx where
 prog:=X.prog
 w:=X.w
 K:=X.K
 mg:=X.mg
 base:=X.base
 A:=X.A
 N:=N'
 s₀:=s
 H₀:=H
 env:=a3V scope X.env s.heap.objs.size
 outer:=X.stack
 stack:=X.stack
 ex:=fp
 fn:=fun x=>scope.names.lookup x==some .cell
 calm:=X.calm
 pn:=[]
 xe:=fun _ _=>False
structure CompOk(X:Cx)(N':List Str)(scope:Scope)(keep:List Bool)(more:Nat):Prop where
 kind:scope.kind=.function
 uniq:∀y∈scope.names,scope.names.lookup y.1=some y.2
 clos:closureFor scope X.env=pure (g6_ X.env.cells scope.names [])
 free:∀y∈scope.names,y.2=.free->(X.env.cells.lookup y.1).isSome=true
 klen:keep.length=X.N.length
 len:N'.length=X.N.length+more
 kept:∀(i:Nat) (x:Str),keep[i]? =some true->N'[i]? =some x->X.N[i]? =some x/\scope.names.lookup x≠some .local/\scope.names.lookup x≠some .cell
 outVis:∀(i:Nat) (x:Str),keep[i]? =some true->X.N[i]? =some x->scope.names.lookup x=some .free->X.env.scope.names.lookup x=some .cell∨X.env.scope.names.lookup x=some .free
def j0_(keep:List Bool)(more:Nat)(σ:St):St:=List.zipWith (fun k v=>if k then v else none) keep σ++List.replicate more none
theorem a3e{keep:List Bool}{more:Nat}{σ:St}{i:Nat}{v:V}(h:(j0_ keep more σ)[i]? =some (some v)):keep[i]? =some true/\σ[i]? =some (some v):=by
 unfold j0_ at h
 rcases a2j h with⟨_,h⟩|⟨_,h⟩
 ·rw[Jq]at h
  cases e1:keep[i]? with
  |none=>rw[e1]at h;cases h
  |some k=>
   cases e2:σ[i]? with
   |none=>rw[e1,e2]at h;cases h
   |some u=>
    rw[e1,e2]at h;cases k with
    |true=>simp at h;exact⟨rfl,by rw[h]⟩
    |false=>simp at h
 ·cases h
theorem b6e{X:Cx}{N':List Str}{scope:Scope}{keep:List Bool}{more:Nat}{pins:OX}{σ:St}{H:Hp}{s:Shared}{fp:List Addr}(ok:CompOk X N' scope keep more)(I:Inv X pins σ H s)
  (hf:∀b∈fp,a0s X pins H b/\b<s.heap.objs.size):
  Inv (w9_ X N' scope s H fp) [] (j0_ keep more σ) H {s with heap:=pushCells (s.heap.push {cls:=.type "dict",data:=.dict #[]}) scope.names}:=by
 have hsz:(s.heap.push {cls:=.type "dict",data:=.dict #[]}).objs.size=s.heap.objs.size+1:=Zr ..
 have keepAll:∀b u,s.heap.get? b=some u->(pushCells (s.heap.push {cls:=.type "dict",data:=.dict #[]}) scope.names).get? b=some u:=fun b u e=>Vp _ _ _ _ (Qj _ e)
 have cases':∀x c,(a3V scope X.env s.heap.objs.size).cells.lookup x=some c->X.env.cells.lookup x=some c∨((pushCells (s.heap.push {cls:=.type "dict",data:=.dict #[]}) scope.names).IsCell c none/\s.heap.objs.size+1≤c/\(x,NameKind.cell)∈scope.names):=fun x c e=>by
  have e':(cellsFrom ((s.heap.push {cls:=.type "dict",data:=.dict #[]}).objs.size) scope.names (g6_ X.env.cells scope.names [])).lookup x=some c:=by rw[hsz];exact e
  rcases a7j e' with z|⟨z1,z2,z3⟩
  ·rcases a2m z with y|y
   ·cases y
   ·exact .inl y
  ·rw[hsz]at z2;exact .inr ⟨z1,z2,z3⟩
 have cellLt:∀x c,X.env.cells.lookup x=some c->c<s.heap.objs.size:=fun x c e=>by
  obtain⟨v,q⟩:=I.cell x c e;exact q.lt
 have fsSub:∀b∈frs X.stack,b<s.heap.objs.size:=fun b hb=>by
  obtain⟨_,o,ho,_⟩:=I.stack.mem hb;exact Qu ho
 refine⟨⟨I.ok.mod,?_,I.ok.glob,I.ok.blt,Qb _,fun x y c e1 e2=>?_,fun x hx=>?_,fun x c e1 e2=>?_,I.ok.hd,I.ok.frames,.inl rfl,fun b hb=>?_,I.bs,Qo I.ok.bsz I.sz,fun b o e hb=>?_,fun b hb hb2=>?_,I.stack,I.stkFree⟩,
  rfl,I.bare,Un.kept keepAll,⟨fun _=>none,(Heap.Ns.new s.heap (.type "dict")).keeps (Vp _ _),fun i x v e1 e2 e3=>?_⟩,fun x c e=>?_,I.hok.fresh (Qb _),fun x c e=>?_,fun p hp=>absurd (show p∈([]:OX)from hp) (by simp),I.hok.kept keepAll,?_⟩
 ·show(relabel scope X.env).kind=.function
  exact ok.kind
 ·refine a7k (names:=scope.names) (n:=s.heap.objs.size+1) (acc:=g6_ X.env.cells scope.names []) (fun x y c q1 q2=>?_) (fun x c q=>?_) x y c e1 e2
  ·rcases a2m q1 with z1|z1
   ·cases z1
   ·rcases a2m q2 with z2|z2
    ·cases z2
    ·exact I.ok.inj x y c z1 z2
  ·rcases a2m q with z1|z1
   ·cases z1
   ·exact Jm (cellLt x c z1)
 ·have hx':(relabel scope X.env).names.lookup x=some .cell∨(relabel scope X.env).names.lookup x=some .free:=hx
  have h1:scope.names.lookup x=some .cell∨scope.names.lookup x=some .free:=by
   unfold relabel at hx';rw[a5H]at hx';cases q:scope.names.lookup x with
   |none=>rw[q]at hx';simp at hx'
   |some k=>
    rw[q]at hx';cases k<;>simp at hx'<;>first|exact .inl rfl|exact .inr rfl
  refine Yz.mp (Uj scope.names _ _ ?_)
  rcases h1 with h1|h1
  ·exact .inl h1
  ·exact .inr (a3d (Qt h1) (ok.free _ (Qt h1) rfl))
 ·have e1':scope.names.lookup x=some .cell:=by simpa [w9_]using e1
  obtain⟨c',q1,q2⟩:=a7l (names:=scope.names) (n:=s.heap.objs.size+1) (acc:=g6_ X.env.cells scope.names []) (Qt e1');have e2':(cellsFrom (s.heap.objs.size+1) scope.names (g6_ X.env.cells scope.names [])).lookup x=some c:=e2;rw[q1]at e2';cases e2';exact Jn q2
 ·refine⟨Qr (hf b hb).2,fun x c e z=>?_⟩
  rcases cases' x c e with y|⟨_,y,_⟩
  ·exact(hf b hb).1.2.2.2.2.1 x c y z
  ·exact absurd (Qd (hf b hb).2 (Jn y)) (by rw[z];exact Yh _)
 ·have:=(I.bs b o e).1
  rcases(hf b hb).1.2.2.2.1 with z|z
  ·exact I.ok.noex b o e z
  ·exact absurd (Qd (Qu e) (Qo I.ok.bsz z)) (Yh _)
 ·rcases Qh.mp (I.stkSub b hb2)with z|z
  ·exact(hf b hb).1.2.1 z
  ·exact(hf b hb).1.2.2.1 z
 ·obtain⟨k1,k2⟩:=a3e e2
  obtain⟨h1,h2,h3⟩:=ok.kept i x k1 e1;have e3':(relabel scope X.env).names.lookup x=some .local∨(relabel scope X.env).names.lookup x=some .cell∨(relabel scope X.env).names.lookup x=some .free:=e3;have hfree:scope.names.lookup x=some .free:=by
   unfold relabel at e3';rw[a5H]at e3';cases q:scope.names.lookup x with
   |none=>rw[q]at e3';simp at e3'
   |some k=>
    rw[q]at e3' h2 h3;cases k<;>simp at e3' h2 h3<;>rfl
  obtain⟨m,hn,hl⟩:=I.loc;have ov:=ok.outVis i x k1 h1 hfree;obtain⟨u,r,l⟩:=hl i x v h1 k2 (.inr ov);refine⟨u,r,.inr ?_⟩;obtain⟨c0,hc0⟩:=Yz.mp (ok.free _ (Qt hfree) rfl);have hcell:s.heap.IsCell c0 (some u):=by
   rcases l with⟨kl,_⟩|⟨_,c,hc,hz⟩
   ·have kl':X.env.scope.names.lookup x=some .local:=kl
    rcases ov with z|z<;>(rw[z]at kl';cases kl')
   ·have hc':X.env.cells.lookup x=some c:=hc
    have hc0':X.env.cells.lookup x=some c0:=hc0
    rw[hc']at hc0';cases hc0';exact hz
  have hk:(a3V scope X.env s.heap.objs.size).kindOf x=some .cell∨(a3V scope X.env s.heap.objs.size).kindOf x=some .free:=by
   show(relabel scope X.env).names.lookup x=some .cell∨(relabel scope X.env).names.lookup x=some .free
   rcases e3' with z|z
   ·exfalso
    unfold relabel at z;rw[a5H,hfree]at z;simp only[Xj,Zb]at z;split at z<;>cases z
   ·exact z
  refine⟨hk,c0,?_,hcell.keeps keepAll⟩;obtain⟨c1,hc1⟩:=Yz.mp (Uj (x:=x) scope.names (s.heap.objs.size+1) (g6_ X.env.cells scope.names []) (.inr (a3d (Qt hfree) (ok.free _ (Qt hfree) rfl))));have hc1':(a3V scope X.env s.heap.objs.size).cells.lookup x=some c1:=hc1
  rcases cases' x c1 hc1' with z|⟨_,_,z⟩
  ·have hc0':X.env.cells.lookup x=some c0:=hc0
   rw[hc0']at z;cases z;exact hc1'
  ·have:=ok.uniq _ z
   rw[hfree]at this;cases this
 ·rcases cases' x c e with y|⟨y,_,_⟩
  ·obtain⟨v,q⟩:=I.cell x c y
   exact⟨v,q.keeps keepAll⟩
  ·exact⟨none,y⟩
 ·rcases cases' x c e with y|⟨_,y,_⟩
  ·exact I.freeC x c y
  ·exact I.hok.fresh (by omega)
 ·show(j0_ keep more σ).length=N'.length
  unfold j0_;rw[Zq,Yp,Zc,ok.len,ok.klen,I.len]
  omega
section
variable{prog:Program}{w:World}{A:Around}{R:Result->Shared->Prop}{s:Shared}
theorem b6f{elt target iter:Expr}{ifs:List Expr}{scope:Scope}{pos:Pos}{it acc:Value}{env:Env}(I:Nat->Shared->Prop)
  (turn:∀n s,I n s->wpAny (model prog w) A (pyNext it) (fun r s₁=>match r with
   |none=>R (.ok .next) s₁
   |some v=>wpAny (model prog w) A (letOwnedTupleGo target it v) (fun _ s₁'=>wpAny (model prog w) A (assign target env v) (fun _ s₂=>
     wpAny (model prog w) A (forIn ifs true fun c r=>if r=true then do let ok←isTrue c env (eval c env);pure (ForInStep.yield ok)else pure (ForInStep.yield r)) (fun ok s₃=>
      if ok=true then wpAny (model prog w) A (eval elt env) (fun x s₄=>
       wpAny (model prog w) A (call (.builtin "list.append") [acc,x]) (fun _ s₅=>∃m,m<n/\I m s₅) (fun _ _=>False) s₄) (fun _ _=>False) s₃
      else∃m,m<n/\I m s₃) (fun _ _=>False) s₂) (fun _ _=>False) s₁') (fun _ _=>False) s₁) (fun _ _=>False) s)
  (n:Nat)(h:I n s):
  codeAny (model prog w) A (.compLoop (.ListComp elt [⟨target,iter,ifs,0⟩] scope pos) 0 it acc env) R s:=by
 refine codeAny_loop rfl I (fun n s hI=>?_) n h
 show wpAny _ A ((compTurn (.ListComp elt [⟨target,iter,ifs,0⟩] scope pos) 0 it acc env).onRaise (fun x=>do noteFrame x env;theTreesLotGoes x)) _ _ s
 refine wpAny_noted ?_
 rw[compTurn_list];refine Qz (wpAny_standAt (Qz (Zv (turn n s hI) (fun r s₁ h₁=>?_) fun _ _ h'=>h'.elim)))
 cases r with
 |none=>exact Qv h₁
 |some v=>
  refine Qz (Zv h₁ (fun _ s₁' h₁'=>?_) fun _ _ h'=>h'.elim)
  refine Qz (Zv h₁' (fun _ s₂ h₂=>Qz (Zv h₂ (fun ok s₃ h₃=>?_) fun _ _ h'=>h'.elim)) fun _ _ h'=>h'.elim)
  cases ok with
  |false=>exact Qv ⟨rfl,h₃⟩
  |true=>
   exact Qz (Qz (Zv h₃ (fun x s₄ h₄=>Qz (Zv h₄ (fun _ s₅ h₅=>Qv (Qv ⟨rfl,h₅⟩)) fun _ _ h'=>h'.elim)) fun _ _ h'=>h'.elim))
theorem b6g{M:Model}{E:OE}{scope:Scope}{env:Env}{Q:Env->Shared->Prop}(cl:List (Str×Addr))
  (h:Q {scope:=scope,locals:=s.heap.objs.size,globals:=env.globals,cells:=cellsFrom (s.heap.objs.size+1) scope.names cl,qual:=env.qual,func:=none,code:=env.code,frame:=env.frame,builtins:=env.builtins}
   {s with heap:=pushCells (s.heap.push {cls:=.type "dict",data:=.dict #[]}) scope.names}):
  wpAny M A (newFunctionEnv scope env.globals cl [] env.qual none .none (some env)) Q E s:=by
 simp only[newFunctionEnv,Option.isSome_some,Zs];refine Qz (wpAny_alloc ?_);refine Qz (wpAny_layCells _ (fun name kind cells=>by cases hkc:kind==NameKind.cell<;>simp[hkc]) _ _ _ _ ?_)
 rw[show({s with heap:=s.heap.push {cls:=.type "dict",data:=.dict #[]}}:Shared).heap.objs.size=s.heap.objs.size+1 from Zr ..]
 exact Qz (by rw[List.forIn_nil];exact Qv (Qv h))
end
def a1R(X:Cx)(ifs:List Expr)(t:TT):Prop:=
 ∀(pins:OX) (s:Shared) (σ:St) (H:Hp) (Q:Bool->Hp->Prop),Inv X pins σ H s->t σ H Q->
  wpAny (model X.prog X.w) X.A (forIn ifs true fun c r=>if r=true then do let ok←isTrue c X.env (eval c X.env);pure (ForInStep.yield ok)else pure (ForInStep.yield r)) (TP X pins σ Q) X.xe s
theorem b6h{X:Cx}:a1R X [] (fun _ H Q=>Q true H):=fun _ _ _ H _ I h=>wpAny_tests_nil ⟨H,I,h⟩
theorem b6i{X:Cx}{c:Expr}{t:TT}(h:PT X c t):a1R X [c] t:=fun pins s σ H Q I q=>wpAny_tests_one (h pins s σ H Q I q)
def b0L(J:It)(g:TG)(tt:TT)(te:TE)(p:Addr)(σ₀:St)(H₀:Hp)(Q:Hp->Prop):Prop:=
 ∃W:Nat->Nat->St->Hp->Prop,(∃m,W 0 m σ₀ (upd H₀ p (.lst [])))/\∀i m σ H,W i m σ H->
  (J.stop i H/\Q H)∨(J.go i H/\∀x H',J.yld i H x H'->g x σ H' fun σ2 H2=>tt σ2 H2 fun b H3=>
   if b=true then te σ2 H3 fun y H4=>∃ys,H4 p=some (.lst ys)/\ys.length<sizeLine/\∃m',m'<m/\W (i+1) m' σ2 (upd H4 p (.lst (ys++[y])))
   else∃m',m'<m/\W (i+1) m' σ2 H3)
section
variable{X:Cx}{N':List Str}{scope:Scope}{keep:List Bool}{more:Nat}{tg iter elt:Expr}{ifs:List Expr}{g:TG}{tt:TT}{te:TE}{pos:Pos}
theorem b0M{E:OE}{pins:OX}{σ:St}{H:Hp}{s:Shared}{it:Addr}{fp:List Addr}{tn:Nat->Heap->Prop}{J:It}{Qf:Addr->Hp->Prop}{RR:Value->Addr->Result->Shared->Prop}
  (ok:CompOk X N' scope keep more)(hc:X.calm=true)(hg:∀s H fp,PG (w9_ X N' scope s H fp) tg g)(ht:∀s H fp,a1R (w9_ X N' scope s H fp) ifs tt)(he:∀s H fp,PE (w9_ X N' scope s H fp) elt te)
  (I:Inv X pins σ H s)(T:Turn X.prog X.w X.K tg J fp it tn)(st:tn 0 s.heap)(hf:∀b∈fp,a0s X pins H b)
  (run:∀p,H p=none->b0L J g tt te p (j0_ keep more σ) H (Qf p))
  (hRR:∀p C s' H' m,Inv X pins σ H' s'->Qf p H'->s'.heap.Ns C m->C≠X.env.locals->(∀x c,X.env.cells.lookup x=some c->c≠C)->H' C=none->(∀σ'' H'' s'' h',Inv X pins σ'' H'' s''->H'' C=none->Heap.SameBut C s''.heap h'->Inv X pins σ'' H'' {s'' with heap:=h'})->RR (.ref p) C (.ok .next) s'):
  wpAny (model X.prog X.w) X.A (newList []) (fun acc s₃=>wpAny (model X.prog X.w) X.A (newFunctionEnv scope X.env.globals (g6_ X.env.cells scope.names []) [] X.env.qual none .none (some X.env)) (fun cenv s₄=>
   codeAny (model X.prog X.w) X.A (.compStart (.ListComp elt [⟨tg,iter,ifs,0⟩] scope pos) 0 (.ref it) acc {cenv with scope:=relabel scope X.env}) (RR acc cenv.locals) s₄) E s₃) E s:=by
 have hp0:H s.heap.objs.size=none:=I.hok.fresh (Qb _)
 refine Zl ?_
 have I3:Inv X pins σ (upd H s.heap.objs.size (.lst [])) {s with heap:=s.heap.push {cls:=.type "list",dict:=none,data:=.seq ([]:List Value).toArray}}:=
  I.laid (t':=s.toks) (fun b u e=>Qj _ e) (Qb _) ⟨Ub _,[],0,.nil,Qn _ rfl⟩
 have fpOld:∀b∈fp,b<s.heap.objs.size:=fun b hb=>by
  obtain⟨o,e,_⟩:=T.obj 0 _ st b hb;exact Qu e
 have hf3:∀b∈fp,a0s X pins (upd H s.heap.objs.size (.lst [])) b/\b<(s.heap.push {cls:=.type "list",dict:=none,data:=.seq ([]:List Value).toArray}).objs.size:=fun b hb=>by
  refine⟨⟨by rw[q4_ (Qr (fpOld b hb))];exact(hf b hb).1,(hf b hb).2⟩,?_⟩
  rw[Zr];exact Jm (fpOld b hb)
 have st3:tn 0 (s.heap.push {cls:=.type "list",dict:=none,data:=.seq ([]:List Value).toArray}):=T.keep 0 _ _ st fun b hb o e=>Qj _ e
 generalize hs3:({s with heap:=s.heap.push {cls:=.type "list",dict:=none,data:=.seq ([]:List Value).toArray}}:Shared)=s3 at I3 ⊢
 have hs3h:s3.heap=s.heap.push {cls:=.type "list",dict:=none,data:=.seq ([]:List Value).toArray}:=by rw[←hs3]
 rw[←hs3h]at hf3 st3;generalize hp:s.heap.objs.size=p at hp0 I3 hf3 ⊢;generalize hH3:upd H p (.lst [])=H3 at I3 hf3;refine b6g _ ?_
 have I4:=b6e ok I3 hf3
 generalize hs4:({s3 with heap:=pushCells (s3.heap.push {cls:=.type "dict",data:=.dict #[]}) scope.names}:Shared)=s4 at I4 ⊢
 have st4:tn 0 s4.heap:=T.keep 0 _ _ st3 fun b hb o e=>by rw[←hs4];exact Vp _ _ _ _ (Qj _ e)
 obtain⟨W,⟨m0,w0⟩,turn⟩:=run p hp0;have stat:∀{H':Hp},(∀b∈fp,H' b=none)->∀b∈fp,a0s (w9_ X N' scope s3 H3 fp) [] H' b:=fun hn b hb=>by
  have z:=I4.ok.exf b hb
  exact⟨hn b hb,z.1,I4.ok.exfs b hb,.inl hb,z.2,fun p hp=>absurd (show p∈([]:OX)from hp) (by simp)⟩
 have loop:codeAny (model X.prog X.w) X.A (.compLoop (.ListComp elt [⟨tg,iter,ifs,0⟩] scope pos) 0 (.ref it) (.ref p) (a3V scope X.env s3.heap.objs.size)) (RR (.ref p) s3.heap.objs.size) s4:=by
  refine b6f (fun n s'=>∃i σ' H',Inv (w9_ X N' scope s3 H3 fp) [] σ' H' s'/\tn i s'.heap/\(∀b∈fp,H' b=none)/\W i n σ' H') ?_ m0 ⟨0,_,H3,I4,st4,fun b hb=>(hf3 b hb).1.1,by rw[←hH3];exact w0⟩
  rintro n s5 ⟨i,σ5,H5,I5,st5,fr5,w5⟩
  rcases turn i n σ5 H5 w5 with⟨stop,qf⟩|⟨go,step⟩
  ·refine thn (T.done (w9_ X N' scope s3 H3 fp) rfl rfl rfl hc i [] s5 σ5 H5 (fun _ _=>False) I5 (stat fr5) st5 stop) fun r s6 ⟨hr,I6⟩=>?_
   subst hr;obtain⟨m6,hn6,_⟩:=I6.loc;have hch:∀b∈fp,(b∈X.ex∨X.s₀.heap.objs.size≤b)/\b≠X.env.locals/\(∀x c,X.env.cells.lookup x=some c->c≠b)/\∀p∈X.pn++pins,p.1≠b:=fun b hb=>by
    obtain⟨_,f1,_,f3,f4,f5⟩:=hf b hb;exact⟨f3,f1,f4,f5⟩
   have IX:Inv X pins σ H5 s6:=I3.call' (s':=s6) (I6.os) (I6.base) I6.hok I6.bare hch
   have szC:X.s₀.heap.objs.size≤s3.heap.objs.size:=I3.sz
   have hCL:s3.heap.objs.size≠X.env.locals:=Ve I3.lt
   have hCc:∀x c,X.env.cells.lookup x=some c->c≠s3.heap.objs.size:=fun x c e=>by
    obtain⟨v,q⟩:=I3.cell x c e;exact Qr q.lt
   have hCp:∀q∈X.pn++pins,q.1≠s3.heap.objs.size:=fun q hq=>Qr (Qu (I3.pin q hq).1)
   refine hRR p s3.heap.objs.size s6 H5 m6 IX qf hn6 hCL hCc I6.free fun σ'' H'' s'' h' I'' hn hs=>?_
   exact I''.turned (t':=s''.toks) (it:=s3.heap.objs.size) (fun b o hb e=>(hs.2 b hb).trans e) hn hCL (.inr szC) hCc hCp
  ·refine thn (T.item (w9_ X N' scope s3 H3 fp) rfl rfl rfl hc i [] s5 σ5 H5 (fun _ _=>False) I5 (stat fr5) st5 go) fun r s6 ⟨u,hr,h6⟩=>?_
   subst hr;refine thn h6 fun _ s7 ⟨x,H7,I7,r7,y7,st7,fr7⟩=>?_
   have I7':=I7.pinned (stat fr7) (T.obj _ _ st7)
   have back:∀{σ8:St}{H8:Hp}{s8:Shared}{m':Nat},Inv (w9_ X N' scope s3 H3 fp) ([]++a4t fp s7.heap) σ8 H8 s8->m'<n->W (i+1) m' σ8 H8->∃m,m<n/\∃i σ' H',Inv (w9_ X N' scope s3 H3 fp) [] σ' H' s8/\tn i s8.heap/\(∀b∈fp,H' b=none)/\W i m σ' H':=fun{σ8 H8 s8 m'} I8 hm w8=>by
    refine⟨m',hm,i+1,σ8,H8,I8.unpinned,T.keep _ _ _ st7 fun b hb o e=>(I8.pin (b,o) (Zu _ (Zu _ (a5k hb e)))).1,fun b hb=>?_,w8⟩
    obtain⟨o,e,d⟩:=T.obj _ _ st7 b hb;exact(I8.pin (b,o) (Zu _ (Zu _ (a5k hb e)))).2.1
   refine thn (hg s3 H3 fp _ s7 σ5 H7 x u _ I7' r7 (step x H7 y7)) fun _ s8 ⟨σ8,H8,I8,q8⟩=>?_
   refine thn (ht s3 H3 fp _ s8 σ8 H8 _ I8 q8) fun b s9 ⟨H9,I9,q9⟩=>?_
   cases b with
   |false=>
    simp only[Zh,Jx]at q9 ⊢;obtain⟨m',hm,w9⟩:=q9;exact back I9 hm w9
   |true=>
    simp only[Zs]at q9 ⊢;refine thn (he s3 H3 fp _ s9 σ8 H9 _ I9 q9) fun v s10 ⟨y,H10,I10,r10,ys,hys,hl,m',hm,w10⟩=>?_
    exact thn (b0m (X:=w9_ X N' scope s3 H3 fp) _ s10 σ8 H10 (.ref p) [y] (.ref p) [v] (fun _ H11=>W (i+1) m' σ8 H11) I10 rfl (.cons r10 .nil) ⟨p,ys,y,rfl,rfl,hys,hl,w10⟩) fun _ s11 ⟨_,H11,I11,_,w11⟩=>back I11 hm w11
 refine codeAny_compStart_list loop ?_
 exact Zv (T.self X.A 0 s4 _ (fun _ _=>False) st4 loop) (fun _ _ q=>q) fun _ _ q=>q.elim
def a7m(wi:TI)(keep:List Bool)(more:Nat)(g:TG)(tt:TT)(te:TE):TE:=fun σ H Q=>wi σ H fun J H1=>∀p,H1 p=none->b0L J g tt te p (j0_ keep more σ) H1 (Q (.ref p))
theorem b6j{wi:TI}(ok:CompOk X N' scope keep more)(hc:X.calm=true)(hi:PI X tg iter wi)(hg:∀s H fp,PG (w9_ X N' scope s H fp) tg g)(ht:∀s H fp,a1R (w9_ X N' scope s H fp) ifs tt)(he:∀s H fp,PE (w9_ X N' scope s H fp) elt te)
  (hs:∀x,foldedSetIterable iter X.env x=pure x:=by intro _;rfl):PE X (.ListComp elt [⟨tg,iter,ifs,0⟩] scope pos) (a7m wi keep more g tt te):=by
 intro pins s σ H Q I h;rw[eval_ListComp];refine wpAny_comprehension_free (use:=none) rfl hs ok.clos ok.kind (fun x hx hl=>by have:=ok.uniq x hx;rwa [hl]at this) (thn (hi pins s σ H _ I h) fun v s1 h1=>thn h1 fun itv s2 h2=>?_)
 obtain⟨it,fp,tn,J,H2,e,I2,T,st2,f2,run⟩:=h2;subst e;refine b0M (Qf:=fun p H'=>Q (.ref p) H') (RR:=fun acc C=>compPost (model X.prog X.w) X.A X.xe none (EP X pins σ Q) acc C) ok hc hg ht he I2 T st2 f2 run ?_
 intro p C s' H' m IX qf hn hCL hCc hCn turn;exact⟨m,hn,fun h' hs'=>⟨.ref p,H',turn σ H' s' h' IX hCn hs',rfl,qf⟩⟩
theorem b6k{wi:TI}{i:Nat}{y:Str}{py spos:Pos}(ok:CompOk X N' scope keep more)(hc:X.calm=true)(hN:X.N.Nodup)(hy:X.N[i]? =some y)(hyl:X.env.scope.names.lookup y=some .local)
  (hsw:swapsWith (.ListComp elt [⟨tg,iter,ifs,0⟩] scope pos) (some (.Name y py)) spos.line X.env=pure true)
  (hi:PI X tg iter wi)(hg:∀s H fp,PG (w9_ X N' scope s H fp) tg g)(ht:∀s H fp,a1R (w9_ X N' scope s H fp) ifs tt)(he:∀s H fp,PE (w9_ X N' scope s H fp) elt te)
  (hs:∀x,foldedSetIterable iter X.env x=pure x:=by intro _;rfl):PS X (.Assign [.Name y py] (.ListComp elt [⟨tg,iter,ifs,0⟩] scope pos) spos) (a6w (a7m wi keep more g tt te) (a6v i)):=by
 intro pins s σ H D I h;rw[exec_Assign_Name_used _ _ _ _ hsw];refine Qz (wpAny_standAt (Qz ?_));show wpAny _ X.A (do let _←comprehension (.ListComp elt [⟨tg,iter,ifs,0⟩] scope pos) scope X.env _ (newList []) false (eval iter X.env) (some (assign (.Name y py) X.env))) _ _ s
 refine Qz (Zv (wpAny_comprehension_free (use:=some (assign (.Name y py) X.env)) (Q:=fun _ s'=>SP X pins D .next s') rfl hs ok.clos ok.kind (fun x hx hl=>by have:=ok.uniq x hx;rwa [hl]at this) (thn (hi pins s σ H _ I h) fun v s1 h1=>thn h1 fun itv s2 h2=>?_)) (fun _ s' hq=>Qv (Qv hq)) fun _ _ e=>e)
 obtain⟨it,fp,tn,J,H2,e,I2,T,st2,f2,run⟩:=h2;subst e;refine b0M (Qf:=fun p H'=>D.nx (σ.set i (some (.ref p))) H') (RR:=fun acc C=>compPost (model X.prog X.w) X.A X.xe (some (assign (.Name y py) X.env)) (fun _ s'=>SP X pins D .next s') acc C) ok hc hg ht he I2 T st2 f2 run ?_
 intro p C s' H' m IX qf hn hCL hCc hCn turn;refine wpAny_assign_Name (a9D (v:=.ref p) (u:=.ref p) IX hN hy (.inl hyl) rfl (fun s'' I'' hs''=>?_) (.inr hyl))
 obtain⟨a,hsb,ha⟩:=hs'';have hCa:C≠a:=by
  rcases ha with z|z
  ·rw[z];exact hCL
  ·exact fun q=>hCc y a z q.symm
 exact⟨m,hn.sameBut hsb hCa,fun h' hs'=>⟨_,H',turn _ H' s'' h' I'' hCn hs',qf⟩⟩
end
def j9_(keep:List Bool)(more:Nat)(env:Env'):Env':=List.zipWith (fun k w=>if k then w else .nil) keep env++List.replicate more .nil
def a0V:Bool->W->W->Option W
 |false,w,_=>some w
 |true,.nil,_=>some .nil
 |true,.dat d,_=>some (.dat d)
 |true,.own _,.own ds=>some (.own ds)
 |true,.own _,.dat d=>some (.dat d)
 |true,.par _,.par ds=>some (.par ds)
 |true,.ownD _ _,.ownD ks vs=>some (.ownD ks vs)
 |true,.ownD _ _,.dat d=>some (.dat d)
 |true,.parD _ _,.parD ks vs=>some (.parD ks vs)
 |_,_,_=>none
theorem b6l{w w2 w':W}{m:Mu}(h:a0V true w w2=some w')(e:w'.mut=some m):w2=w'/\∃d0,w.mut=some d0/\w.isOwn=w'.isOwn/\w.isPar=w'.isPar:=by
 cases w<;>cases w2<;>first
  |(simp only[a0V,Zb]at h;subst h;exact⟨rfl,_,rfl,rfl,rfl⟩)
  |(simp only[a0V,Zb]at h;subst h;cases e;done)
  |(simp[a0V]at h;done)
theorem b6m{w w2:W}{d:D}(h:a0V true w w2=some (.dat d)):w=.dat d∨(w2=.dat d/\∃d0,w.mut=some d0):=by
 cases w<;>cases w2<;>first
  |(simp only[a0V,Zb]at h;exact .inl h)
  |(simp only[a0V,Zb]at h;exact .inr ⟨h,_,rfl⟩)
  |(simp[a0V]at h;done)
def g0_:List Bool->Env'->Env'->Option Env'
 |[],[],_=>some []
 |k::ks,w::ws,w2::ws2=>(a0V k w w2).bind fun x=>(g0_ ks ws ws2).map fun r=>x::r
 |_,_,_=>none
theorem a7n:∀{keep:List Bool}{env env2 env':Env'}{i:Nat}{w':W},g0_ keep env env2=some env'->env'[i]? =some w'->∃k w w2,keep[i]? =some k/\env[i]? =some w/\env2[i]? =some w2/\a0V k w w2=some w'
 |[],[],_,env',i,w',h,e=>by simp only[g0_,Zb]at h;subst h;simp at e
 |[],_::_,_,env',i,w',h,e=>by simp[g0_]at h
 |k::ks,[],_,env',i,w',h,e=>by simp[g0_]at h
 |k::ks,w::ws,[],env',i,w',h,e=>by simp[g0_]at h
 |k::ks,w::ws,w2::ws2,env',i,w',h,e=>by
  unfold g0_ at h;obtain⟨x,h1,h2⟩:=q6_ h;obtain⟨r,h3,h4⟩:=y5_ h2;subst h4;cases i with
  |zero=>simp at e;subst e;exact⟨k,w,w2,rfl,rfl,rfl,h1⟩
  |succ i=>simpa using a7n (i:=i) h3 (by simpa using e)
theorem b0N:∀{keep:List Bool}{env env2 env':Env'},g0_ keep env env2=some env'->env'.length=env.length
 |[],[],_,env',h=>by simp only[g0_,Zb]at h;subst h;rfl
 |[],_::_,_,env',h=>by simp[g0_]at h
 |k::ks,[],_,env',h=>by simp[g0_]at h
 |k::ks,w::ws,[],env',h=>by simp[g0_]at h
 |k::ks,w::ws,w2::ws2,env',h=>by
  unfold g0_ at h;obtain⟨x,h1,h2⟩:=q6_ h;obtain⟨r,h3,h4⟩:=y5_ h2;subst h4
  simp[b0N h3]
theorem a3f{keep:List Bool}{more:Nat}{env:Env'}{i:Nat}{w:W}(h:(j9_ keep more env)[i]? =some w)(hw:w≠.nil):keep[i]? =some true/\env[i]? =some w:=by
 unfold j9_ at h
 rcases a2j h with⟨_,h⟩|⟨_,h⟩
 ·rw[Jq]at h
  cases e1:keep[i]? with
  |none=>rw[e1]at h;cases h
  |some k=>
   cases e2:env[i]? with
   |none=>rw[e1,e2]at h;cases h
   |some u=>
    rw[e1,e2]at h;cases k with
    |true=>simp at h;exact⟨rfl,by rw[h]⟩
    |false=>simp at h;exact absurd h.symm hw
 ·exact absurd h hw
theorem a4D{keep:List Bool}{more:Nat}{σ:St}{i:Nat}{v:Option V}(hk:keep[i]? =some true)(h:σ[i]? =some v):(j0_ keep more σ)[i]? =some v:=by
 unfold j0_;have h1:i<keep.length:=(Qg.mp hk).1;have h2:i<σ.length:=(Qg.mp h).1;rw[Jz (by rw[Yp];omega),Jq,hk,h]
 rfl
theorem a4E{w:W}{ds:Mu}(h:w.mut=some ds):w≠.nil:=fun z=>by rw[z]at h;cases h
section
variable{K:Qq}{B:OA}{G G':Hp}{σ σ':St}{env env2 env':Env'}{H H':Hp}{keep:List Bool}{more:Nat}
theorem a7o{a:Addr}(h:Owned (j0_ keep more σ) (j9_ keep more env) a):Owned σ env a:=by
 obtain⟨i,w,ds,e1,e2,e3⟩:=h;exact⟨i,w,ds,(a3f e1 (a4E e2)).2,e2,(a3e e3).2⟩
theorem Rel.ext(r:Rel K B G σ env H)(hk:keep.length=σ.length):Rel K B G (j0_ keep more σ) (j9_ keep more env) H:=by
 refine⟨r.sub,?_,fun i d e=>?_,fun i w ds e1 e2=>?_,fun i j w w' ds es a q1 q2 q3 q4 q5 q6=>?_,fun i w a q1 qo q2=>?_,r.old,r.tabs,r.gnt⟩
 ·unfold j9_ j0_
  rw[Zq,Zq,Yp,Yp,Zc,Zc,r.len]
 ·obtain⟨k1,k2⟩:=a3f e (by simp)
  obtain⟨v,e1,e2⟩:=r.dat i d k2;exact⟨v,a4D k1 e1,e2⟩
 ·obtain⟨k1,k2⟩:=a3f e1 (a4E e2)
  obtain⟨a,xs,e3,e4⟩:=r.own i w ds k2 e2;exact⟨a,xs,a4D k1 e3,e4⟩
 ·exact r.inj i j w w' ds es a (a3f q1 (a4E q2)).2 q2 (a3f q3 (a4E q4)).2 q4 (a3e q5).2 (a3e q6).2
 ·exact r.fresh i w a (a3f q1 (by rintro rfl;cases qo)).2 qo (a3e q2).2
theorem Ev.out(r:Rel K B G σ env H)(hk:keep.length=σ.length)(ev:Ev K B G (j0_ keep more σ) (j9_ keep more env) H G' σ' env2 H')(hσ:∀j,j<σ.length->σ'[j]? =(j0_ keep more σ)[j]?)(ho:g0_ keep env env2=some env'):
  Ev K B G σ env H G' σ env' H':=by
 have mutO:∀(i:Nat) (w':W) (ds:Mu),env'[i]? =some w'->w'.mut=some ds->∃w0 d0,env[i]? =some w0/\w0.mut=some d0/\w0.isOwn=w'.isOwn/\w0.isPar=w'.isPar/\
   ∃a o,σ[i]? =some (some (V.ref a))/\H' a=some o/\RepM K G' o ds/\G' a=none:=fun i w' ds e1 e2=>by
  obtain⟨k,w,w2,h1,h2,h3,h4⟩:=a7n ho e1;have hi:i<σ.length:=by have:=(Qg.mp h2).1;rw[←r.len];exact this
  cases k with
  |false=>
   simp only[a0V,Zb]at h4;subst h4;obtain⟨a,xs,q1,q2,q3,q4⟩:=r.own i w ds h2 e2;have no:¬ Owned (j0_ keep more σ) (j9_ keep more env) a:=by
    rintro⟨j,v,es,y1,y2,y3⟩;obtain⟨z1,z2⟩:=a3f y1 (a4E y2);have:=r.inj j i v w es ds a z2 y2 h2 e2 (a3e y3).2 q1;subst this;rw[h1]at z1;cases z1
   exact⟨w,ds,h2,e2,rfl,rfl,a,xs,q1,ev.keep a _ no q3.nt q2,q3.mono ev.same,ev.stay a (by rw[q2];simp) no q4⟩
  |true=>
   obtain⟨z,d0,z1,z2,z3⟩:=b6l h4 e2;subst z;refine⟨w,d0,h2,z1,z2,z3,?_⟩;obtain⟨a,xs,q1,q2,q3,q4⟩:=ev.rel.own i w2 ds h3 e2;obtain⟨a0,xs0,p1,_⟩:=r.own i w d0 h2 z1;rw[hσ i hi,a4D h1 p1]at q1;cases q1;exact⟨a,xs,p1,q2,q3,q4⟩
 refine⟨⟨ev.rel.sub,by rw[b0N ho];exact r.len,fun i d e=>?_,fun i w ds e1 e2=>?_,fun i j w w' ds es a q1 q2 q3 q4 q5 q6=>?_,fun i w a q1 qo q2=>?_,ev.rel.old,ev.rel.tabs,ev.rel.gnt⟩,ev.same,fun b o n t e=>ev.keep b o (fun z=>n (a7o z)) t e,ev.live,fun b e n g=>ev.stay b e (fun z=>n (a7o z)) g,fun a z=>.inl ?_,fun i w e hp=>⟨rfl,?_⟩,rfl⟩
 ·obtain⟨k,w,w2,h1,h2,h3,h4⟩:=a7n ho e
  have hi:i<σ.length:=by have:=(Qg.mp h2).1;rw[←r.len];exact this
  have old:w=.dat d->∃v,σ[i]? =some (some v)/\Rep K G' v d:=fun z=>by
   subst z;obtain⟨v,e1,e2⟩:=r.dat i d h2;exact⟨v,e1,Rep.mono ev.same d e2⟩
  cases k with
  |false=>simp only[a0V,Zb]at h4;exact old h4
  |true=>
   rcases b6m h4 with z|⟨z,d0,z0⟩
   ·exact old z
   ·subst z
    obtain⟨v,q1,q2⟩:=ev.rel.dat i d h3;obtain⟨a0,xs0,p1,_⟩:=r.own i _ d0 h2 z0;rw[hσ i hi,a4D h1 p1]at q1;cases q1;exact⟨_,p1,q2⟩
 ·obtain⟨w0,d0,_,_,_,_,q⟩:=mutO i w ds e1 e2
  exact q
 ·obtain⟨w0,d0,y1,y2,_⟩:=mutO i w ds q1 q2
  obtain⟨w1,d1,y3,y4,_⟩:=mutO j w' es q3 q4;exact r.inj i j w0 w1 d0 d1 a y1 y2 y3 y4 q5 q6
 ·obtain⟨m,hm⟩:=own_mut qo
  obtain⟨w0,d0,y1,_,y3,_⟩:=mutO i _ m q1 hm;exact r.fresh i w0 a y1 (y3.trans qo) q2
 ·obtain⟨i,w,ds,e1,e2,e3⟩:=z
  obtain⟨w0,d0,y1,y2,_⟩:=mutO i w ds e1 e2;exact⟨i,w0,d0,y1,y2,e3⟩
 ·obtain⟨m,hm⟩:=par_mut hp
  obtain⟨w0,d0,y1,_,_,y4,_⟩:=mutO i _ m e hm;exact⟨w0,y1,y4.trans hp⟩
theorem Ev.swapAt{p:Addr}{o:HO}(ev:Ev K B G σ env H G' σ' env' H')(no:¬ Owned σ env p)(hp:H p≠none)(gp:G p=none)(nt:NT o)(nx:∀φ,H' p≠some (.ext φ)):Ev K B G σ env (upd H p o) G' σ' env' (upd H' p o):=by
 have np:∀(i:Nat) (w:W) (ds:Mu) (a:Addr),env'[i]? =some w->w.mut=some ds->σ'[i]? =some (some (V.ref a))->a≠p:=fun i w ds a e1 e2 e3 z=>by
  rcases ev.sub a ⟨i,w,ds,e1,e2,e3⟩with q|q
  ·exact no (z ▸ q)
  ·exact hp (z ▸ q)
 have gp':G' p=none:=ev.stay p hp no gp
 have live':∀b,H' b≠none->(upd H' p o) b≠none:=fun b h=>by
  by_cases hb:b=p
  ·subst hb;rw[y6_];simp
  ·rw[q4_ hb];exact h
 refine⟨⟨fun b u e=>?_,ev.rel.len,ev.rel.dat,fun i w ds e1 e2=>?_,ev.rel.inj,ev.rel.fresh,fun b h=>live' b (ev.rel.old b h),ev.rel.tabs.upd nt nx,ev.rel.gnt⟩,ev.same,fun b u n t e=>?_,fun b e=>?_,fun b e n g=>?_,fun a z=>?_,ev.par,ev.slen⟩
 ·have hb:b≠p:=fun z=>by rw[z,gp']at e;cases e
  rw[q4_ hb];exact ev.rel.sub b u e
 ·obtain⟨a,xs,e3,e4,e5,e6⟩:=ev.rel.own i w ds e1 e2
  exact⟨a,xs,e3,by rw[q4_ (np i w ds a e1 e2 e3)];exact e4,e5,e6⟩
 ·by_cases hb:b=p
  ·subst hb;rw[y6_]at e ⊢;exact e
  ·rw[q4_ hb]at e ⊢;exact ev.keep b u n t e
 ·by_cases hb:b=p
  ·subst hb;rw[y6_];simp
  ·rw[q4_ hb]at e ⊢;exact ev.live b e
 ·by_cases hb:b=p
  ·subst hb;exact gp'
  ·rw[q4_ hb]at e;exact ev.stay b e n g
 ·obtain⟨i,w,ds,e1,e2,e3⟩:=id z
  rw[q4_ (np i w ds a e1 e2 e3)];exact ev.sub a z
end
def j1_(g:OZ)(t:Mo Bool)(m:Mo D):List D->Mo (List D)
 |[],env=>some ([],env)
 |d::ds,env=>(g d env).bind fun e1=>(t e1).bind fun p=>if p.1 then(m p.2).bind fun q=>(j1_ g t m ds q.2).map fun r=>(q.1::r.1,r.2)else j1_ g t m ds p.2
def y7_(mi:Mo (List D))(keep:List Bool)(more:Nat)(g:OZ)(t:Mo Bool)(m:Mo D):Mo (List D):=fun env=>(mi env).bind fun p=>if p.1.length≤100000 then
 (j1_ g t m p.1 (j9_ keep more p.2)).bind fun q=>(g0_ keep p.2 q.2).map fun e=>(q.1,e)else none
def x3_:Mo Bool:=fun env=>some (true,env)
theorem a0W{X:Cx}{B:OA}:a1R X [] (TTm X.K B x3_):=fun pins s σ H Q I h=>by
 obtain⟨G,env,b,env',rl,e,k⟩:=h;cases e;exact b6h pins s σ H Q I (k G H (.refl rl))
theorem b0O{X:Cx}{B:OA}{c:Expr}{t:Mo Bool}(h:ET X B c t):a1R X [c] (TTm X.K B t):=b6i h
theorem b0P{K:Qq}{B:OA}{mi:Mo (List D)}{keep:List Bool}{more n:Nat}{g:OZ}{t:Mo Bool}{m:Mo D}(hkl:keep.length=n):
  ∀(σ:St) H Q,σ.length=n->TL K B (y7_ mi keep more g t m) σ H Q->a7m (TIm K B mi) keep more (TGm K B n g) (TTm K B t) (TD K B m) σ H Q:=by
 rintro σ H Q hσn ⟨G,env,total,env',rl,e,k⟩;obtain⟨⟨items,env1⟩,e1,e2⟩:=q6_ e;dsimp only at e2;split at e2
 ·rename_i hlen
  obtain⟨⟨total',envF⟩,e3,e4⟩:=q6_ e2;obtain⟨env'',e5,e6⟩:=y5_ e4;cases e6;refine⟨G,env,items,env1,rl,e1,fun J G1 H1 ev1 itd p hp=>?_⟩
  have hk:keep.length=σ.length:=by rw[hkl,hσn]
  have gp:G1 p=none:=ev1.rel.gnone hp
  have no1:¬ Owned σ env1 p:=ev1.rel.unowned hp
  have no:¬ Owned (j0_ keep more σ) (j9_ keep more env1) p:=fun z=>no1 (a7o z)
  have relS:∀ys,Rel K B G1 σ env1 (upd H1 p (.lst ys)):=fun ys=>(ev1.rel.allocM hp).rel
  refine⟨fun i m' σ2 H2=>m'=items.length-i/\i≤items.length/\∃G2 env2 ys acc rest,Ev K B G1 (j0_ keep more σ) (j9_ keep more env1) (upd H1 p (.lst ys)) G2 σ2 env2 H2/\(∀j,j<n->σ2[j]? =(j0_ keep more σ)[j]?)/\
   z9_ K G2 ys acc/\j1_ g t m (items.drop i) env2=some (rest,envF)/\acc++rest=total'/\acc.length≤i,⟨_,rfl,Ub _,G1,_,[],[],total',.refl ((relS []).ext hk),fun _ _=>rfl,repL_nil,by simpa using e3,by simp,Qb _⟩,?_⟩
  rintro i m' σ2 H2 ⟨rfl,hi,G2,env2,ys,acc,rest,ev2,y2,r2,c2,t2,l2⟩;have hpS:(upd H1 p (.lst ys)) p=some (.lst ys):=y6_;have hp2:H2 p=some (.lst ys):=ev2.keep p _ no nt_lst hpS;have lH:Le G1 H2:=ev2.same.trans ev2.rel.sub
  by_cases hlt:i<items.length
  ·refine .inr ⟨itd.go i H2 lH hlt,fun x H3 y=>?_⟩
   have ed:items.drop i=items[i]::items.drop (i+1):=List.drop_eq_getElem_cons hlt
   rw[ed]at c2;obtain⟨env4,e7,e8⟩:=q6_ c2;obtain⟨⟨b,env5⟩,e9,e10⟩:=q6_ e8;have hget:items[i]? =some items[i]:=by simp[hlt]
   have st:∃G3,Ev K B G1 (j0_ keep more σ) (j9_ keep more env1) (upd H1 p (.lst ys)) G3 σ2 env2 H3/\Le G2 G3/\Rep K G3 x items[i]:=by
    rcases itd.yld i H2 x H3 items[i] lH y hget with⟨rfl,r⟩|⟨q,o,hno,hq,rfl,r⟩
    ·exact⟨G2,ev2,Le.refl,Rep.mono ev2.same _ r⟩
    ·have gq:=ev2.rel.gnone hq
     refine⟨upd G2 q o,ev2.trans (ev2.rel.alloc hq hno),Le.upd gq,Rep.mono (fun b u z=>?_) _ r⟩
     by_cases hb2:b=q
     ·subst hb2;rw[y6_]at z ⊢;exact z
     ·rw[q4_ hb2]at z ⊢;exact ev2.same b u z
   obtain⟨G3,ev3,l3,r3⟩:=st;refine⟨G3,env2,items[i],env4,ev3.rel,r3,e7,fun σ4 G4 H4 ev4 y4=>?_⟩
   refine⟨G4,env4,b,env5,ev4.rel,e9,fun G5 H5 ev5=>?_⟩
   have ev6:=(ev3.trans ev4).trans ev5
   have r5:z9_ K G5 ys acc:=z9_.mono ((l3.trans ev4.same).trans ev5.same) acc r2
   have y5:∀j,j<n->σ4[j]? =(j0_ keep more σ)[j]?:=fun j hj=>(y4 j hj).trans (y2 j hj)
   cases b with
   |true=>
    simp only[Zs]at e10 ⊢;obtain⟨⟨d7,env7⟩,e11,e12⟩:=q6_ e10;obtain⟨⟨rest8,env8⟩,e13,e14⟩:=y5_ e12;cases e14;refine .bind ev5.rel e11 fun v G7 H7 ev7 r7=>?_
    have ev8:=ev6.trans ev7
    have hp7:H7 p=some (.lst ys):=ev8.keep p _ no nt_lst hpS
    refine⟨ys,hp7,by rw[r2.length];exact Vl l2 (Qd hlt (Qo hlen (by decide))),items.length-(i+1),by omega,rfl,hlt,G7,env7,ys++[v],acc++[d7],rest8,?_,y5,(z9_.mono ev7.same acc r5).append (repL_cons r7 repL_nil),e13,by rw[List.append_assoc];exact t2,by rw[Zq];simp;omega⟩
    have:=ev8.swapAt (o:=.lst (ys++[v])) no (by rw[hpS];simp) gp nt_lst (fun φ z=>by rw[ev8.keep p _ no nt_lst hpS]at z;cases z)
    rwa [b3Y]at this
   |false=>
    simp only[Zh,Jx]at e10 ⊢;exact⟨items.length-(i+1),by omega,rfl,hlt,G5,env5,ys,acc,rest,ev6,y5,r5,e10,t2,by omega⟩
  ·have ei:i=items.length:=by omega
   subst ei;rw[List.drop_length]at c2;cases c2;rw[Um]at t2;subst t2;refine .inl ⟨itd.stop _ H2 lH (Qb _),?_⟩;have evO:=Ev.out (relS ys) hk ev2 (fun j hj=>y2 j (by omega)) e5
   have evA:=ev1.trans ((ev1.rel.allocM (o:=.lst ys) hp).trans evO)
   have hpn:H p=none:=by
    cases q:H p with
    |none=>rfl
    |some o=>exact absurd hp (ev1.live p (by rw[q];simp))
   refine k p ys G2 H2 evA hpn (fun z=>?_) hp2 (ev2.stay p (by rw[hpS];simp) no gp) r2
   rcases evO.sub p z with q|q
   ·exact no1 q
   ·rw[hpS]at q;cases q
 ·cases e2
section
variable{X:Cx}{B:OA}{N':List Str}{scope:Scope}{keep:List Bool}{more:Nat}{tg iter elt:Expr}{ifs:List Expr}{g:OZ}{t:Mo Bool}{m:Mo D}{mi:Mo (List D)}{pos:Pos}
theorem a0G(ok:CompOk X N' scope keep more)(hc:X.calm=true)(hi:EI X B tg iter mi)(hg:∀s H fp,EG (w9_ X N' scope s H fp) B X.N.length tg g)(ht:∀s H fp,a1R (w9_ X N' scope s H fp) ifs (TTm X.K B t))(he:∀s H fp,ED (w9_ X N' scope s H fp) B elt m)
  (hs:∀x,foldedSetIterable iter X.env x=pure x:=by intro _;rfl):EL X B (.ListComp elt [⟨tg,iter,ifs,0⟩] scope pos) (y7_ mi keep more g t m):=by
 intro pins s σ H Q I h;exact b6j ok hc hi hg ht he hs pins s σ H Q I (b0P ok.klen σ H Q I.len h)
theorem b6n{i:Nat}{y:Str}{py spos:Pos}(ok:CompOk X N' scope keep more)(hc:X.calm=true)(hN:X.N.Nodup)(hy:X.N[i]? =some y)(hyl:X.env.scope.names.lookup y=some .local)
  (hsw:swapsWith (.ListComp elt [⟨tg,iter,ifs,0⟩] scope pos) (some (.Name y py)) spos.line X.env=pure true)
  (hi:EI X B tg iter mi)(hg:∀s H fp,EG (w9_ X N' scope s H fp) B X.N.length tg g)(ht:∀s H fp,a1R (w9_ X N' scope s H fp) ifs (TTm X.K B t))(he:∀s H fp,ED (w9_ X N' scope s H fp) B elt m)
  (hs:∀x,foldedSetIterable iter X.env x=pure x:=by intro _;rfl):ES X B (.Assign [.Name y py] (.ListComp elt [⟨tg,iter,ifs,0⟩] scope pos) spos) (u5_ i (y7_ mi keep more g t m)):=by
 intro pins s σ H D I h;obtain⟨G,env,fl,env',rl,e,k⟩:=h;obtain⟨⟨d,env1⟩,e1,e2⟩:=y5_ e;cases e2;exact b6k ok hc hN hy hyl hsw hi hg ht he hs pins s σ H D I (b0P ok.klen σ H _ I.len ⟨G,env,d,_,rl,e1,fun a xs G' H' ev ha no h' g' r=>k _ G' H' (ev.setOwn (fun z=>rl.old a z ha) ha no h' g' r)⟩)
end
section
variable{X:Cx}{B:OA}{pos:Pos}{a b c e:Expr}{ma mb mc:Mo D}{ms:Mo (List D)}{es:List Expr}
def tyD:D->String
 |.non=>"NoneType"|.bl _=>"bool"|.int _=>"int"|.str _=>"str"|.tup _=>"tuple"|.lst _=>"list"|.emp=>"dict"|.obj _=>"object"|.dct _ _=>"dict"
def k6_(K:Qq)(T:String):Prop:=T∈(["tuple","list","int","bool","str"]:List String)
def a0n(t T:String):Bool:=t==T||(t=="bool"&&T=="int")
theorem a7p{K:Qq}{T:String}(h:k6_ K T):∀d,(∀o,d≠.obj o)->PySem.W.kitOne K (.type (tyD d)) (.type T)=some (a0n (tyD d) T):=by
 intro d hd;unfold k6_ at h;simp only[Qh,Qa,Yg]at h
 rcases h with rfl|rfl|rfl|rfl|rfl<;>cases d<;>first|rfl|exact absurd rfl (hd _)
theorem b6o{pins:OX}{σ:St}{G H:Hp}{s:Shared}{A:Around}{E:OE}{Q:OE}{T:String}{x:V}{u:Value}{d:D}(I:Inv X pins σ H s)(l:Le G H)(rx:v4_ x u)(rp:Rep X.K G x d)
  (kt:k6_ X.K T)(h:∀tk,Q (.bool (a0n (tyD d) T)) {s with toks:=tk}):wpAny (model X.prog X.w) A (call (.builtin "isinstance") [u,.type T]) Q E s:=by
 have e:=a7p kt d
 cases d with
 |non=>simp only[Rep]at rp;subst rp;exact a3L I rx (.non) (e nofun) h
 |bl b=>simp only[Rep]at rp;subst rp;exact a3L I rx (.bl b) (e nofun) h
 |int i=>simp only[Rep]at rp;subst rp;exact a3L I rx (.int i) (e nofun) h
 |str z=>simp only[Rep]at rp;obtain⟨rp,_⟩:=rp;subst rp;exact a3L I rx (.str z) (e nofun) h
 |tup ds=>
  simp only[Rep]at rp;obtain⟨a,xs,rfl,q,_⟩:=rp;cases rx;obtain⟨its,_,⟨o,h1,h2,_⟩,_⟩:=I.tuple (l.sqT q);exact Zj Vc I.kIn ⟨o,h1,h2⟩ (e nofun) (fun z=>nomatch z) h
 |lst ds=>
  simp only[Rep]at rp;obtain⟨a,xs,rfl,q,_⟩:=rp;cases rx;obtain⟨its,_,⟨o,n,h1,h2,_⟩,_⟩:=I.list (l.sqL q);exact Zj Us I.kIn ⟨o,h1,h2⟩ (e nofun) (fun z=>nomatch z) h
 |emp=>
  simp only[Rep]at rp;obtain⟨a,kvs,rfl,q⟩:=rp;exact a3L I rx (.dK (l _ _ q)) (e nofun) h
 |dct ks vs=>
  simp only[Rep]at rp;obtain⟨a,kvs,rfl,q,_⟩:=rp;exact a3L I rx (.dT (l _ _ q)) (e nofun) h
 |obj o=>
  have h0:a0n "object" T=false:=by
   unfold k6_ at kt;simp only[Qh,Qa,Yg]at kt
   rcases kt with rfl|rfl|rfl|rfl|rfl<;>rfl
  have h':∀tk,Q (.bool false) {s with toks:=tk}:=fun tk=>by have:=h tk;rwa [show a0n (tyD (.obj o)) T=false from h0]at this
  simp only[Rep]at rp;cases o with
  |exc n=>
   obtain⟨a,C,HP,rfl,_,h3,h4,h5⟩:=rp;cases rx;exact Zj h4 I.kIn (I.hok a _ (l _ _ h3)).1 (h5 T kt) (fun z=>nomatch z) h'
  |fn n=>
   obtain⟨f,rfl,_,h4⟩:=rp;cases rx;refine Zj h4 I.kIn True.intro ?_ (fun z=>nomatch z) h'
   unfold k6_ at kt;simp only[Qh,Qa,Yg]at kt
   rcases kt with rfl|rfl|rfl|rfl|rfl<;>rfl
  |dk kvs=>
   obtain⟨a,rfl,q⟩:=rp;obtain⟨_,_,vs,_,dd⟩:=(show k1_ X.prog X.w H s.heap a (.dK _)from I.hok a _ (l _ _ q))
   obtain⟨o,h1,h2⟩:∃o,s.heap.get? a=some o/\o.cls=.type "dict":=by
    obtain⟨o,es,ep,g1,g2,_⟩:=dd;exact⟨o,g1,g2.1⟩
   cases rx;refine Zj Yc I.kIn ⟨o,h1,h2⟩ ?_ (fun z=>nomatch z) h'
   unfold k6_ at kt;simp only[Qh,Qa,Yg]at kt
   rcases kt with rfl|rfl|rfl|rfl|rfl<;>rfl
  |dt kvs=>
   obtain⟨a,ps,rfl,q,_⟩:=rp;obtain⟨_,_,vs,_,dd⟩:=(show k1_ X.prog X.w H s.heap a (.dK _)from I.hok a _ (l _ _ q))
   obtain⟨o,h1,h2⟩:∃o,s.heap.get? a=some o/\o.cls=.type "dict":=by
    obtain⟨o,es,ep,g1,g2,_⟩:=dd;exact⟨o,g1,g2.1⟩
   cases rx;refine Zj Yc I.kIn ⟨o,h1,h2⟩ ?_ (fun z=>nomatch z) h'
   unfold k6_ at kt;simp only[Qh,Qa,Yg]at kt
   rcases kt with rfl|rfl|rfl|rfl|rfl<;>rfl
theorem a2n{K:Qq}:k6_ K "tuple":=by simp[k6_]
theorem a7q{K:Qq}:k6_ K "list":=by simp[k6_]
theorem b0Q{K:Qq}:k6_ K "int":=by simp[k6_]
theorem a5J{K:Qq}:k6_ K "bool":=by simp[k6_]
theorem b6p{K:Qq}:k6_ K "str":=by simp[k6_]
def mIs(T:String)(m:Mo D):Mo D:=fun env=>(m env).map fun p=>(.bl (a0n (tyD p.1) T),p.2)
theorem a0h{T:String}{y:Str}{p p2:Pos}(kt:k6_ X.K T)(ha:ED X B a ma)(hg:Gl X "isinstance")(hm:X.mg "isinstance"=none)(hgT:Gl X y)(hmT:X.mg y=none)(hvT:bootBuiltins y=some (.type T))
  (hnT:y≠"__name__":=by decide)(hdT:(y==("__debug__":Str))=false:=by decide)
  (he:starEach [a,.Name y p2] X.env=[(false,eval a X.env),(false,eval (.Name y p2) X.env)]:=by rfl):ED X B (.Call (.Name "isinstance" p) [a,.Name y p2] [] pos) (mIs T ma):=by
 have hT:PE X (.Name y p2) (tC (.ty T)):=a5i hgT hmT hvT rfl hnT hdT
 have hc:w1_ X (.builtin "isinstance") (fun xs H Q=>∃x G d,xs=[x,.ty T]/\Le G H/\Rep X.K G x d/\Q (.bl (a0n (tyD d) T)) H):=by
  intro pins s σ H xs us Q I r h;obtain⟨x,G,d,rfl,l,rp,q⟩:=h;obtain⟨u,w',rfl,r1,r2⟩:=a2c r;cases r2;exact b6o I l r1 rp kt fun tk=>⟨.bl _,H,I.tok _,rfl,q⟩
 have h1:starEach [Expr.Name y p2] X.env=[(false,eval (.Name y p2) X.env)]:=rfl
 refine pe_imp (a3N (pos:=pos) (p:=p) hc hg hm (by decide+kernel) (a0t ha (a0t hT a2d) he) (he:=he)) ?_
 rintro σ H Q ⟨G,env,d,env',rl,e,k⟩;obtain⟨⟨d1,env1⟩,e1,e2⟩:=y5_ e;cases e2;exact .bind rl e1 fun v G1 H1 ev r=>⟨v,G1,d1,rfl,ev.rel.sub,r,k _ G1 H1 ev (by simp only[Rep])⟩
def a0H:List D->Option Bool
 |[]=>some true
 |.bl b::r=>(a0H r).map fun k=>b&&k
 |_::_=>none
def a2o:List D->Option D
 |[.lst ds]=>(a0H ds).map fun k=>.bl k
 |_=>none
theorem b0R{K:Qq}{G:Hp}:∀{ds:List D}{xs:List V}{us:List Value}{k:Bool},z9_ K G xs ds->q5_ xs us->a0H ds=some k->∃bs,LSm.BoolsAre us bs/\bs.all id=k
 |[],_,us,k,r,v,e=>by
  simp only[z9_]at r;subst r;cases v;cases e;exact⟨[],.nil,rfl⟩
 |d::ds,_,us,k,r,v,e=>by
  simp only[z9_]at r;obtain⟨x,t,rfl,q,r⟩:=r;cases d<;>first|(exact absurd (show(none:Option Bool)=some k from e) (by simp))|skip
  obtain⟨k',e1,e2⟩:=y5_ (show(a0H ds).map _=some k from e)
  simp only[Rep]at q;subst q;cases v with
  |cons v1 v2=>
   cases v1;obtain⟨bs,h1,h2⟩:=b0R r v2 e1;exact⟨_::bs,.cons _ h1,by rw[←e2,←h2];rfl⟩
theorem a4F(hc:X.calm=true):w1_ X (.builtin "all") (fun xs H Q=>∃p G ys ds k,xs=[.ref p]/\Le G H/\SqL X.K G p ys/\z9_ X.K G ys ds/\a0H ds=some k/\Q (.bl k) H):=by
 intro pins s σ H xs us Q I r h;obtain⟨p,G,ys,ds,k,rfl,l,hq,rp,ek,q⟩:=h;obtain⟨u,rfl,rx⟩:=a1v r;cases rx;obtain⟨its,r',pl,hz⟩:=I.list (l.sqL hq);obtain⟨bs,hb,hk⟩:=b0R rp r' ek;have hh:X.A.handled=none:=I.ok.hd hc;have hl:=pl.isList;have hlt:p<s.heap.objs.size:=by obtain⟨_,e,_⟩:=hl;exact Qu e
 refine call_all_walk (Ui hl ?_);refine⟨s.heap.objs.size,[s.heap.objs.size,p],[s.heap.objs.size],its.toArray.size,_,_,fun i=>(bs[i]?).getD true,rfl,Walks.list (A:=X.A.in1) hh _ p (Qr hlt) its.toArray,
  ⟨⟨_,Qn _ rfl,rfl,rfl⟩,hl.push _⟩,fun i v s' Q' E' hP hQ=>?_,fun h' tk hk'=>?_⟩
 ·obtain⟨b,e,rfl⟩:=hb.get i v (by simpa using hP)
  simp only[e,Option.getD_some]at hQ;exact Yy hQ
 ·have e:((List.range its.toArray.size).all fun i=>(bs[i]?).getD true)=bs.all id:=by
   rw[Qp,hb.length];exact LSm.range_all bs
  rw[e,hk];exact⟨.bl k,H,I.kept (t':=tk) (LSm.kept_iter hk'),rfl,q⟩
theorem a4G:a1h X B (fun xs H Q=>∃p G ys ds k,xs=[.ref p]/\Le G H/\SqL X.K G p ys/\z9_ X.K G ys ds/\a0H ds=some k/\Q (.bl k) H) a2o:=by
 intro G σ env H xs ds c Q rl r e k;unfold a2o at e;split at e
 ·rename_i ds
  obtain⟨x,rfl,q⟩:=a0D r;obtain⟨k',e1,e2⟩:=y5_ e;subst e2;simp only[Rep]at q;obtain⟨a,ys,rfl,h1,h2⟩:=q;exact⟨a,G,ys,ds,k',rfl,rl.sub,h1,h2,e1,k _ G H (.refl rl) (by simp only[Rep])⟩
 ·cases e
def a3W:List D->Option D
 |[.int i,.int j]=>some (.int (if j>i then j else i))
 |_=>none
def a3X:List D->Option D
 |[.int i,.int j]=>some (.int (if j<i then j else i))
 |_=>none
def a7r:List D->Option D
 |[.int i]=>some (.int i)
 |[.bl k]=>some (.int (if k then 1 else 0))
 |_=>none
theorem b6q:a1h X B (fun xs H Q=>∃i j,xs=[.int i,.int j]/\Q (.int (if j>i then j else i)) H) a3W:=by
 intro G σ env H xs ds c Q rl r e k;unfold a3W at e;split at e
 ·rename_i i j
  cases e;obtain⟨x,y,rfl,q1,q2⟩:=a6X r;simp only[Rep]at q1 q2;subst q1 q2;exact⟨i,j,rfl,k _ G H (.refl rl) (by simp only[Rep])⟩
 ·cases e
theorem b6r:a1h X B (fun xs H Q=>∃i j,xs=[.int i,.int j]/\Q (.int (if j<i then j else i)) H) a3X:=by
 intro G σ env H xs ds c Q rl r e k;unfold a3X at e;split at e
 ·rename_i i j
  cases e;obtain⟨x,y,rfl,q1,q2⟩:=a6X r;simp only[Rep]at q1 q2;subst q1 q2;exact⟨i,j,rfl,k _ G H (.refl rl) (by simp only[Rep])⟩
 ·cases e
theorem b6s:a1h X B (fun xs H Q=>(∃i,xs=[.int i]/\Q (.int i) H)∨ ∃k,xs=[.bl k]/\Q (.int (if k then 1 else 0)) H) a7r:=by
 intro G σ env H xs ds c Q rl r e k;unfold a7r at e;split at e
 ·rename_i i
  cases e;obtain⟨x,rfl,q1⟩:=a0D r;simp only[Rep]at q1;subst q1;exact .inl ⟨i,rfl,k _ G H (.refl rl) (by simp only[Rep])⟩
 ·rename_i b
  cases e;obtain⟨x,rfl,q1⟩:=a0D r;simp only[Rep]at q1;subst q1;exact .inr ⟨b,rfl,k _ G H (.refl rl) (by simp only[Rep])⟩
 ·cases e
def ints?:List D->Option (List Int)
 |[]=>some []
 |.int i::r=>(ints? r).map fun l=>i::l
 |_::_=>none
theorem a3Y{K:Qq}{G:Hp}:∀{ds:List D}{xs:List V}{ns:List Int},z9_ K G xs ds->ints? ds=some ns->xs=ns.map V.int
 |[],_,ns,r,e=>by simp only[z9_]at r;subst r;cases e;rfl
 |d::ds,_,ns,r,e=>by
  simp only[z9_]at r;obtain⟨x,t,rfl,q,r⟩:=r;cases d<;>first|(exact absurd (show(none:Option (List Int))=some ns from e) (by simp))|skip
  obtain⟨l,e1,e2⟩:=y5_ (show(ints? ds).map _=some ns from e)
  subst e2;simp only[Rep]at q;subst q;rw[a3Y r e1];rfl
def dIn(neg:Bool):D->D->Option D
 |.int i,d=>d.items.bind fun ds=>(ints? ds).map fun ns=>.bl (if neg then !ns.contains i else ns.contains i)
 |_,_=>none
theorem b6t(ns:List Int):(ns.map V.int).all a0R=true:=by
 induction ns with
 |nil=>rfl
 |cons n ns ih=>simp[a0R,ih]
theorem b6u(i:Int)(ns:List Int):inV (.int i) (ns.map V.int)=ns.contains i:=by
 unfold inV
 induction ns with
 |nil=>rfl
 |cons n ns ih=>
  rw[Qs,Je,ih,Vr]
  congr 1
  show(n==i)=(i==n);exact Bool.beq_comm ..
theorem b6v{neg:Bool}:OpD X B (rIn X.K neg) (dIn neg):=by
 intro G σ env H x y a b d Q rl ra rb e k;cases a<;>first|(exact absurd (show(none:Option D)=some d from e) (by simp))|skip
 rename_i i;obtain⟨ds,e1,e2⟩:=q6_ (show b.items.bind _=some d from e)
 obtain⟨ns,e3,e4⟩:=y5_ e2;subst e4;simp only[Rep]at ra;subst ra;obtain⟨p,xs,rfl,h1,h2⟩:=a6Y rl.sub rb e1;have hx:=a3Y h2 e3;subst hx;exact⟨p,_,rfl,h1,rfl,b6t ns,k _ G H (.refl rl) (by rw[b6u];simp only[Rep])⟩
end
section
variable{X:Cx}{pins:OX}{σ:St}{G H:Hp}{s:Shared}
end
mutual
def toP:D->PyData
 |.non=>.none
 |.bl b=>.bool b
 |.int i=>.int i
 |.str x=>.str x
 |.tup ds=>.tuple (x6_ ds)
 |.lst ds=>.list (x6_ ds)
 |.emp=>.dict []
 |.obj _=>.dict []
 |.dct _ _=>.dict []
def x6_:List D->List PyData
 |[]=>[]
 |d::ds=>toP d::x6_ ds
end
def shp(d:D):Bool:=SeqAt.shaped (toP d)
section
variable{X:Cx}{B:OA}{pins:OX}{σ:St}{G H:Hp}{s:Shared}
mutual
theorem reads_of(I:Inv X pins σ H s)(l:Le G H):∀(d:D) (x:V) (u:Value),(toP d).canLay0=true->v4_ x u->Rep X.K G x d->∃as,Reads s.heap u (toP d) as
 |.non,x,u,c,r,p=>by simp only[Rep]at p;subst p;cases r;exact⟨_,.none⟩
 |.bl b,x,u,c,r,p=>by simp only[Rep]at p;subst p;cases r;exact⟨_,.bool b⟩
 |.int i,x,u,c,r,p=>by simp only[Rep]at p;subst p;obtain⟨t,rfl⟩:=r;exact⟨_,.int i t⟩
 |.str z,x,u,c,r,p=>by simp only[Rep]at p;obtain⟨p,_⟩:=p;subst p;obtain⟨t,rfl⟩:=r;exact⟨_,.str z t⟩
 |.tup ds,x,u,c,r,p=>by
  simp only[Rep]at p;obtain⟨a,xs,rfl,q,rp⟩:=p;cases r;obtain⟨its,rv,⟨o,h1,h2,n,h3⟩,_⟩:=I.tuple (l.sqT q);have hc:PyData.canLayAll0 (x6_ ds)=true:=by simpa [toP,PyData.canLay0]using c
  obtain⟨as,h⟩:=readsAll_of I l ds xs its hc rv rp;exact⟨_,.tuple h1 h2 h3 (by simpa using h)⟩
 |.lst ds,x,u,c,r,p=>by
  simp only[Rep]at p;obtain⟨a,xs,rfl,q,rp⟩:=p;cases r;obtain⟨its,rv,⟨o,n,h1,h2,_,h3⟩,_⟩:=I.list (l.sqL q);have hc:PyData.canLayAll0 (x6_ ds)=true:=by simpa [toP,PyData.canLay0]using c
  obtain⟨as,h⟩:=readsAll_of I l ds xs its hc rv rp;exact⟨_,.list h1 h2 h3 (by simpa using h)⟩
 |.emp,x,u,c,r,p=>by simp[toP,PyData.canLay0]at c
 |.obj _,x,u,c,r,p=>by simp[toP,PyData.canLay0]at c
 |.dct _ _,x,u,c,r,p=>by simp[toP,PyData.canLay0]at c
theorem readsAll_of(I:Inv X pins σ H s)(l:Le G H):∀(ds:List D) (xs:List V) (us:List Value),PyData.canLayAll0 (x6_ ds)=true->q5_ xs us->z9_ X.K G xs ds->∃as,ReadsAll s.heap us (x6_ ds) as
 |[],xs,us,c,v,p=>by simp only[z9_]at p;subst p;cases v;exact⟨_,.nil⟩
 |d::ds,xs,us,c,v,p=>by
  simp only[z9_]at p;obtain⟨x,r,rfl,q,t⟩:=p;have hc:(toP d).canLay0=true/\PyData.canLayAll0 (x6_ ds)=true:=by simpa [x6_,PyData.canLayAll0]using c
  cases v with
  |cons v1 v2=>
   obtain⟨as,h1⟩:=reads_of I l d x _ hc.1 v1 q;obtain⟨bs,h2⟩:=readsAll_of I l ds r _ hc.2 v2 t;exact⟨_,.cons h1 h2⟩
end
def rEqD(K:Qq)(neg:Bool):R2:=fun x y H Q=>∃G a b,Le G H/\Rep K G x a/\Rep K G y b/\shp a=true/\shp b=true/\Q (.bl (if neg then !PyData.eqv (toP a) (toP b)else PyData.eqv (toP a) (toP b))) H
theorem op_eqD(hu:X.A.units+64<cLine):OpR X (compareOp .Eq) (rEqD X.K false):=by
 intro pins s σ H x y v u Q I rx ry h;obtain⟨G,a,b,l,ra,rb,ha,hb,q⟩:=h;obtain⟨as,h1⟩:=reads_of I l a x v (Yd ha) rx ra;obtain⟨bs,h2⟩:=reads_of I l b y u (Yd hb) ry rb;exact eq_dataH h1 h2 ha hb hu ⟨.bl _,H,I,rfl,q⟩
theorem op_neD(hu:X.A.units+64<cLine):OpR X (compareOp .NotEq) (rEqD X.K true):=by
 intro pins s σ H x y v u Q I rx ry h;obtain⟨G,a,b,l,ra,rb,ha,hb,q⟩:=h;obtain⟨as,h1⟩:=reads_of I l a x v (Yd ha) rx ra;obtain⟨bs,h2⟩:=reads_of I l b y u (Yd hb) ry rb;exact ne_dataH h1 h2 ha hb hu ⟨.bl _,H,I,rfl,q⟩
def dEq(neg:Bool):D->D->Option D:=fun a b=>if shp a&&shp b then some (.bl (if neg then !PyData.eqv (toP a) (toP b)else PyData.eqv (toP a) (toP b)))else none
theorem opd_eq{neg:Bool}:OpD X B (rEqD X.K neg) (dEq neg):=by
 intro G σ env H x y a b d Q rl ra rb e k;unfold dEq at e;split at e
 ·rename_i h
  rw[Qy]at h;cases e;exact⟨G,a,b,rl.sub,ra,rb,h.1,h.2,k _ G H (.refl rl) (by simp only[Rep])⟩
 ·cases e
end
section
variable{X:Cx}{B:OA}
def rCatT'(K:Qq):R2:=fun x y H Q=>∃a b xs ys,x=.ref a/\y=.ref b/\SqT K H a xs/\SqT K H b ys/\xs.length+ys.length≤sizeLine/\
 (xs=[]->Q (.ref b) H)/\(ys=[]->Q (.ref a) H)/\(∀p,H p=none->Q (.ref p) (upd H p (.tup (xs++ys))))
theorem op_catT':OpR X (binaryOp .Add) (rCatT' X.K):=by
 intro pins s σ H x y v u Q I rx ry h;obtain⟨a,b,xs,ys,rfl,rfl,ha,hb,hz,q0,q1,q2⟩:=h;cases rx;cases ry;obtain⟨vs,r1,p1,_⟩:=I.tuple ha;obtain⟨ws,r2,p2,_⟩:=I.tuple hb;have hsz:vs.length+ws.length≤sizeLine:=by rw[←r1.length,←r2.length];exact hz
 obtain⟨⟨cls,dd,data,sl⟩,ho,hc,n,hd⟩:=id p1;obtain⟨⟨cls2,dd2,data2,sl2⟩,ho2,hc2,n2,hd2⟩:=id p2;simp only at hc hd hc2 hd2;subst hc hd hc2 hd2;have e:vs.toArray++ws.toArray=(vs++ws).toArray:=by simp
 by_cases hv:vs=[]
 ·exact concat_meets ⟨_,ho,rfl⟩ ⟨_,ho2,rfl⟩ noFill_tuple_add seq_tuple_add Ue Ur (Ul _ _)
   (tuple_addW0 a b vs.toArray ws.toArray n n2 dd dd2 sl sl2 (by simp[hv])) ⟨ho,ho2,⟨.ref b,H,I,rfl,q0 (r1.nil_iff.mp hv)⟩⟩
 ·by_cases hw:ws=[]
  ·exact concat_meets ⟨_,ho,rfl⟩ ⟨_,ho2,rfl⟩ noFill_tuple_add seq_tuple_add Ue Ur (Ul _ _)
    (tuple_addW1 a b vs.toArray ws.toArray n n2 dd dd2 sl sl2 (by simpa using hv) (by simp[hw])) ⟨ho,ho2,⟨.ref a,H,I,rfl,q1 (r2.nil_iff.mp hw)⟩⟩
  ·refine concat_meets ⟨_,ho,rfl⟩ ⟨_,ho2,rfl⟩ noFill_tuple_add seq_tuple_add Ue Ur (Ul _ _)
    (tuple_addW2 a b vs.toArray ws.toArray n n2 dd dd2 sl sl2 (by simpa using hv) (by simpa using hw) (by rw[Qp,Qp];exact hsz)) ⟨ho,ho2,?_⟩
   rw[e];refine⟨.ref s.heap.objs.size,_,I.laid (t':=s.toks) (o:=.tup (xs++ys)) (fun b ob q=>Qj _ q) (Qb _) ?_,rfl,q2 _ (I.hok.fresh (Qb _))⟩
   exact⟨by rw[Zq];exact hz,_,r1.append r2,a0A.new _ _⟩
def rCatL'(K:Qq):R2:=fun x y H Q=>∃a b xs ys,x=.ref a/\y=.ref b/\SqL K H a xs/\SqL K H b ys/\xs.length+ys.length≤sizeLine/\
 (∀p,H p=none->Q (.ref p) (upd H p (.lst (xs++ys))))
theorem op_catL':OpR X (binaryOp .Add) (rCatL' X.K):=by
 intro pins s σ H x y v u Q I rx ry h;obtain⟨a,b,xs,ys,rfl,rfl,ha,hb,hz,q2⟩:=h;cases rx;cases ry;obtain⟨vs,r1,p1,_⟩:=I.list ha;obtain⟨ws,r2,p2,_⟩:=I.list hb;have hsz:vs.length+ws.length≤sizeLine:=by rw[←r1.length,←r2.length];exact hz
 obtain⟨⟨cls,dd,data,sl⟩,ho,hc,n,hd⟩:=id p1.isList;obtain⟨⟨cls2,dd2,data2,sl2⟩,ho2,hc2,n2,hd2⟩:=id p2.isList;simp only at hc hd hc2 hd2;subst hc hd hc2 hd2;have e:vs.toArray++ws.toArray=(vs++ws).toArray:=by simp
 refine concat_meets ⟨_,ho,rfl⟩ ⟨_,ho2,rfl⟩ noFill_list_add seq_list_add PySem.F.slot_list_add PySem.F.entry_list_add (PySem.F.args_list_add_2 _ _)
    (list_addW a b vs.toArray ws.toArray n n2 dd dd2 sl sl2 (by rw[Qp,Qp];exact hsz)) ⟨ho,ho2,?_⟩
 rw[e];refine⟨.ref s.heap.objs.size,_,I.lnew (t':=s.toks) (r1.append r2) (by rw[Zq];exact hz),rfl,q2 _ I.fresh⟩
end
end L2.Mir
namespace L2.Mir
open PySem PySem.Spec PyProof.Rows PySem.Builtin
open AutoSeq1 (wpAny_loadPart')
theorem b6w:fillsNumberSlot (.type "tuple") "mul"=pure false:=
 PySem.fillsNumberSlot_seq (id:="tuple.__mul__") (r:=some (.builtin "tuple.__rmul__")) Vz.lookup (by decide+kernel) F.slot_tuple_rmul.lookup (by decide+kernel)
theorem b6x:seqRepeat? (.type "tuple")=pure (some (.builtin "tuple.__mul__")):=by
 unfold seqRepeat?;rw[PySem.seqSlot_of (T:="tuple") (name:="__mul__") (id:="tuple.__mul__") Vz.lookup (by decide+kernel),PySem.seqSlot_of (T:="tuple") (name:="__rmul__") (id:="tuple.__rmul__") F.slot_tuple_rmul.lookup (by decide+kernel)]
 rfl
theorem b6y(a:Int)(t:Tok)(l:Addr)(items:Array Value)(n:Nat)(dd:Option Addr)(sl:Array (Option Value)):
  Meets (Builtin.«int.__rmul__» ⟨[.int a t,.ref l],[]⟩) (fun _ R s=>s.heap.get? l=some {cls:=.type "tuple",dict:=dd,data:=.seq items n,slots:=sl}/\R (.ok (.ret Value.notImplemented)) s):=
 .of_wp fun prog w A R s h=>by obtain⟨hp,g,d,tk,os⟩:=s;obtain⟨hl,h⟩:=h;wp_walk;exact⟨_,rfl,h⟩
theorem b6z(l:Addr)(items:Array Value)(n:Nat)(dd:Option Addr)(sl:Array (Option Value))(x:Int)(u:Tok)(hx:x=1):
  Meets (Builtin.«tuple.__mul__» ⟨[.ref l,.int x u],[]⟩) (fun _ R s=>s.heap.get? l=some {cls:=.type "tuple",dict:=dd,data:=.seq items n,slots:=sl}/\R (.ok (.ret (.ref l))) s):=
 .of_wp fun prog w A R s h=>by
  obtain⟨hp,g,d,tk,os⟩:=s;obtain⟨hl,h⟩:=h;subst hx;have f1:=AutoSeq1.idx_int
  wp_walk using Jk hl
  exact⟨_,rfl,h⟩
theorem b6A(l:Addr)(its:List Value)(n:Nat)(dd:Option Addr)(sl:Array (Option Value))(x:Int)(u:Tok)(hi:its≠[])(h1:2≤x)(h2:x<2^63)(hz:its.length * x.toNat≤sizeLine):
  Meets (Builtin.«tuple.__mul__» ⟨[.ref l,.int x u],[]⟩) (fun _ R s=>s.heap.get? l=some {cls:=.type "tuple",dict:=dd,data:=.seq its.toArray n,slots:=sl}/\R (.ok (.ret (.ref s.heap.objs.size))) {s with heap:=s.heap.push {cls:=Value.type "tuple",data:=Data.seq (List.replicate x.toNat its).flatten.toArray}}):=
 .of_wp fun prog w A R s h=>by
  obtain⟨hp,g,d,tk,os⟩:=s;obtain⟨hl,h⟩:=h;have f1:=AutoSeq1.idx_int;have hi':its.toArray.isEmpty=false:=by simpa using hi
  have hb:¬ ((decide (x< -(2^63))||decide (x ≥ 2^63))=true):=by simp;omega
  have hc:¬ ((its.toArray.isEmpty||x==1)=true):=by rw[hi'];simp;omega
  have hd:¬ ((decide (x≤0)||its.toArray.isEmpty)=true):=by rw[hi'];simp;omega
  have e1:(its.toArray.size:Int) * x=((its.length * x.toNat:Nat):Int):=by rw[Qp,Int.natCast_mul,Int.toNat_of_nonneg (by omega)]
  have he:¬ ((its.toArray.size:Int) * x>(2^63-1)/8):=by
   have e2:(sizeLine:Nat)≤(2^63-1)/8:=by decide
   rw[e1];omega
  have hf:¬ (Tuple.tupleTooMany ((its.toArray.size:Int) * x)=true):=by
   rw[e1];intro z;have z':=Ut z
   omega
  have hnew:List.foldl (fun x1 x2=>x1++x2) #[] (List.replicate x.toNat its.toArray)=(List.replicate x.toNat its).flatten.toArray:=by
   have:=b0l its x.toNat [];rw[List.nil_append]at this;exact this
  have hsz:sizeOk (.seq (List.replicate x.toNat its).flatten.toArray):=by
   show(List.replicate x.toNat its).flatten.toArray.size≤sizeLine;rw[Qp,b0n,Nat.mul_comm];exact hz
  wp_walk using Jk hl
  refine Jo (Zx hb) ?_
  wp_walk using Jk hl
  refine Jo (Zx hc) ?_
  wp_walk using Jk hl
  refine Jo (Zx hd) ?_
  wp_walk using Jk hl
  refine Jo (Zx he) ?_
  wp_walk using Jk hl
  refine Jo (Zx hf) ?_
  rw[hnew]
  wp_walk using Jk hl
  refine Jo (Zx (Nat.not_lt.mpr hsz)) ?_
  wp_walk using Jk hl
  exact⟨_,rfl,h⟩
section
variable{X:Cx}{B:OA}
def a5K(K:Qq):R2:=fun x y H Q=>∃a k xs,x=.ref a/\y=.int k/\SqT K H a xs/\xs≠[]/\1≤k/\k<2^63/\xs.length * k.toNat≤sizeLine/\
 (k=1->Q (.ref a) H)/\∀p,H p=none->Q (.ref p) (upd H p (.tup (List.replicate k.toNat xs).flatten))
theorem b6B:OpR X (binaryOp .Mult) (a5K X.K):=by
 intro pins s σ H x y v u Q I rx ry h;obtain⟨a,k,xs,rfl,rfl,ha,hne,h1,h2,hz,q1,q2⟩:=h;cases rx;obtain⟨t,rfl⟩:=ry;obtain⟨its,r,⟨⟨cls,dd,data,sl⟩,ho,hc,n,hd⟩,hzz⟩:=I.tuple ha;simp only at hc hd;subst hc hd;refine wpAny_binaryOp_repeat_ref (T:="tuple") (U:="int") (by decide) ⟨_,ho,rfl⟩ (fun s'=>typeIs_int s' k t) b6w F.fills_int_mul F.slot_int_rmul b6x F.slot_int_index.lookup
  (Va F.slot_int_rmul (typeIs_int s k t) F.entry_int_rmul (F.args_int_rmul_2 _ _) (b6y k t a its.toArray n dd sl)
   ⟨ho,rfl,⟨_,ho,rfl⟩,?_⟩)
 by_cases hk:k=1
 ·exact Va Vz ⟨_,ho,rfl⟩ F.entry_tuple_mul (F.args_tuple_mul_2 _ _) (b6z a its.toArray n dd sl k t hk) ⟨ho,⟨.ref a,H,I,rfl,q1 hk⟩⟩
 ·refine Va Vz ⟨_,ho,rfl⟩ F.entry_tuple_mul (F.args_tuple_mul_2 _ _) (b6A a its n dd sl k t (fun z=>hne (r.nil_iff.mp z)) (by omega) h2 (by rw[←r.length];exact hz)) ⟨ho,?_⟩
  refine⟨.ref s.heap.objs.size,_,I.laid (t':=s.toks) (o:=.tup (List.replicate k.toNat xs).flatten) (fun b ob q=>Qj _ q) (Qb _) ?_,rfl,q2 _ (I.hok.fresh (Qb _))⟩
  exact⟨by rw[b0n,Nat.mul_comm];exact hz,_,r.rep k.toNat,a0A.new _ _⟩
end
section
variable{X:Cx}{B:OA}{pos:Pos}{a b:Expr}{ma mb:Mo D}
def a7s:D->D->Option D
 |.tup xs,.tup ys=>if xs.length+ys.length≤10000 then some (.tup (xs++ys))else none
 |_,_=>none
theorem a5L{n:Nat}(h:n≤10000):n≤sizeLine:=Qo h (by decide)
theorem b6C:OpD X B (rCatT' X.K) a7s:=by
 intro G σ env H x y a b d Q rl ra rb e k;cases a<;>cases b<;>first|(exact absurd (show(none:Option D)=some d from e) (by simp))|skip
 rename_i ds es;simp only[a7s]at e;split at e
 ·rename_i hl
  cases e;have ra0:=ra;have rb0:=rb;simp only[Rep]at ra rb;obtain⟨p,xs,rfl,q1,r1⟩:=ra;obtain⟨p',ys,rfl,q2,r2⟩:=rb;refine⟨p,p',xs,ys,rfl,rfl,rl.sub.sqT q1,rl.sub.sqT q2,by rw[r1.length,r2.length];exact a5L hl,fun z=>?_,fun z=>?_,fun l hp=>?_⟩
  ·subst z
   have:ds=[]:=List.length_eq_zero_iff.mp r1.length.symm;subst this;exact k _ G H (.refl rl) rb0
  ·subst z
   have:es=[]:=List.length_eq_zero_iff.mp r2.length.symm;subst this;exact k _ G H (.refl rl) (by rw[Um];exact ra0)
  ·exact k _ _ _ (rl.alloc hp) (a2T y6_ (z9_.mono (Le.upd (rl.gnone hp)) _ (r1.append r2)))
 ·cases e
def a7t:D->D->Option D
 |.tup [d],.int k=>if 1≤k/\k≤1000 then some (.tup (List.replicate k.toNat d))else none
 |_,_=>none
theorem b6D{α:Type}(x:α)(n:Nat):(List.replicate n [x]).flatten=List.replicate n x:=by
 induction n with
 |zero=>rfl
 |succ n ih=>rw[Zt,Ux,ih,Zt];rfl
theorem b0S{K:Qq}{G:Hp}{x:V}{d:D}(h:Rep K G x d):∀n,z9_ K G (List.replicate n x) (List.replicate n d)
 |0=>repL_nil
 |n+1=>by rw[Zt,Zt];exact repL_cons h (b0S h n)
theorem b6E:OpD X B (a5K X.K) a7t:=by
 intro G σ env H x y a b d Q rl ra rb e k;unfold a7t at e;split at e
 ·rename_i d0 n
  split at e
  ·rename_i hn
   cases e;have ra0:=ra;simp only[Rep]at ra rb;obtain⟨p,xs,rfl,q1,r1⟩:=ra;subst rb;obtain⟨v,rfl,rv⟩:=a0D r1;refine⟨p,n,[v],rfl,rfl,rl.sub.sqT q1,by simp,by omega,by omega,?_,fun z=>?_,fun l hp=>?_⟩
   ·exact a5L (by simp;omega)
   ·subst z
    exact k _ G H (.refl rl) ra0
   ·rw[b6D]
    exact k _ _ _ (rl.alloc hp) (a2T y6_ (z9_.mono (Le.upd (rl.gnone hp)) _ (b0S rv _)))
  ·cases e
 ·cases e
def v5_:=fOr a5t a7s
def g7_:=fOr a6R a7t
theorem k7_:OpR X (binaryOp .Add) (fun x y H Q=>rI0 (fun i j=>.int (i+j)) x y H Q∨rCatT' X.K x y H Q):=OpR.or b4U op_catT'
theorem k8_:OpD X B (fun x y H Q=>rI0 (fun i j=>.int (i+j)) x y H Q∨rCatT' X.K x y H Q) v5_:=b0v.or b6C
theorem a3g:OpR X (binaryOp .Mult) (fun x y H Q=>rI a2N (fun i j=>.int (i * j)) x y H Q∨a5K X.K x y H Q):=OpR.or b4V b6B
theorem a3h:OpD X B (fun x y H Q=>rI a2N (fun i j=>.int (i * j)) x y H Q∨a5K X.K x y H Q) g7_:=b5K.or b6E
def a2p(ma mb:Mo D):Mo (List D):=fun env=>(ma env).bind fun p=>(mb p.2).bind fun q=>match p.1,q.1 with
 |.lst xs,.lst ys=>if xs.length+ys.length≤10000 then some (xs++ys,q.2)else none
 |_,_=>none
theorem a5M(ha:ED X B a ma)(hb:ED X B b mb):EL X B (.BinOp a .Add b pos) (a2p ma mb):=by
 refine pe_imp (a9N op_catL' ha hb) ?_
 rintro σ H Q ⟨G,env,ds,env',rl,e,k⟩;obtain⟨⟨d1,env1⟩,e1,e2⟩:=q6_ e;obtain⟨⟨d2,env2⟩,e3,e4⟩:=q6_ e2;dsimp only at e4 e3;refine .bind rl e1 fun v1 G1 H1 ev1 r1=>.bind ev1.rel e3 fun v2 G2 H2 ev2 r2=>?_
 split at e4
 ·rename_i xs ys
  split at e4
  ·rename_i hl
   cases e4;have r1':=Rep.mono ev2.same _ r1;simp only[Rep]at r1' r2;obtain⟨p,us,rfl,q1,t1⟩:=r1';obtain⟨p',ws,rfl,q2,t2⟩:=r2;exact⟨p,p',us,ws,rfl,rfl,ev2.rel.sub.sqL q1,ev2.rel.sub.sqL q2,by rw[t1.length,t2.length];exact a5L hl,fun l hp=>a6U (ev1.trans ev2) hp (t1.append t2) k⟩
  ·cases e4
 ·cases e4
end
end L2.Mir
namespace HT
open PySem PySem.Spec PyProof.Rows
section
variable{prog:Program}{w:World}{A:Around}{E:OE}{s:Shared}
theorem getItem_tuple_whole{t sl:Addr}{items:Array Value}{vl vu:Value}{lo hi:Option Int}{Q:OE}(ht:IsTup s.heap t items)(hs:s.heap.IsSliceOf sl vl vu .none)(pl:IsPart vl lo)(pu:IsPart vu hi)
  (hw:sIx items.size 0 lo=0/\sIx items.size items.size hi=items.size)
  (h:Q (.ref t) s):wpAny (model prog w) A (getItem (.ref t) (.ref sl)) Q E s:=by
 obtain⟨os,hos,hcs,hds⟩:=id hs;have hTs:s.TypeIs (.ref sl) "slice":=⟨os,hos,hcs⟩;unfold getItem
 try with_reducible refine Jh ?_
 first|refine Qz (Qv ?_)|skip
 refine Qz (wpAny_sequenceKey ht.typeIs (by decide) ?_)
 refine Qz (Yv (name:=Str.ofString "__getitem__") ht.typeIs Qe
  (Ys Qe ht.typeIs entry_tuple_getitem ?_ (args_tuple_getitem _ _)))
 show wpAny _ _ (Builtin.Tuple.tupleItemsOf (.ref t)>>=_) _ _ s;refine Qz (tupleItemsOf_ ht ?_);refine Qz (wpAny_typeOf hTs ?_);rw[Qc (by decide)]
 refine Qz (sliceApplied_gen hs pl pu ?_);have hno:((((sIx items.size 0 lo:Nat):Int)==0&&(1:Int)==1&&(sIx items.size items.size hi-sIx items.size 0 lo)==items.size)=true):=by
  rw[hw.1,hw.2];simp
 show wpAny _ _ (if(((sIx items.size 0 lo:Nat):Int)==0&&(1:Int)==1&&(sIx items.size items.size hi-sIx items.size 0 lo)==items.size)=true then _ else _) _ _ s
 rw[Qc hno];refine Qz (Qz (m:=typeOf (.ref t)) (wpAny_typeOf ht.typeIs (Qv ?_)));rw[Qc (by decide)]
 refine Qz (wpAny_rule ?_)
 first
  |exact Qv ⟨_,rfl,Qv h⟩
  |exact Qz (Qv ⟨_,rfl,Qv h⟩)
  |exact Qz (Qz (Qv ⟨_,rfl,Qv h⟩))
theorem sliceApplied_rev{sl:Addr}{t:Tok}{n:Nat}{Q:Int×Int×Nat->Shared->Prop}(hs:s.heap.IsSliceOf sl .none .none (.int (-1) t))
  (h:Q ((n:Int)-1,-1,n) s):wpAny (model prog w) A (Builtin.Slice.sliceApplied (.ref sl) (pure (n:Int))) Q E s:=by
 obtain⟨os,hos,hcs,hds⟩:=id hs;unfold Builtin.Slice.sliceApplied Builtin.Slice.sliceFields;refine Qz (Qz (Zf hos hds (x:=.none) rfl (Qz (Zf hos hds (x:=.none) rfl (Qz (Zf hos hds (x:=.int (-1) t) rfl (Qv ?_)))))));refine Qz (slicePart_int ?_);show wpAny _ _ (if((-1:Int)==0)=true then _ else _) _ _ s
 rw[Ql (by decide)]
 refine Qz (slicePart_none (Qz (slicePart_none (Qz (Qv ?_)))));have e:Builtin.Slice.slicePlaces ((n:Int)-1) (-1) (-1)=n:=by
  unfold Builtin.Slice.slicePlaces;have h1:¬ ((-1:Int)>0):=by omega
  simp only[h1,Jx];split
  ·rw[show(- -1:Int)=1 by decide,Int.ediv_one];omega
  ·omega
 show wpAny _ _ (pure ((n:Int)-1,(-1:Int),Builtin.Slice.slicePlaces ((n:Int)-1) (-1) (-1))) _ _ s;rw[e];exact Qv h
theorem filterMap_congr'{α β:Type}{f g:α->Option β}:∀{l:List α},(∀x∈l,f x=g x)->l.filterMap f=l.filterMap g
 |[],_=>rfl
 |a::l,h=>by
  rw[Jy,Jy,h a (by simp),filterMap_congr' (l:=l) fun x hx=>h x (by simp[hx])]
theorem pick_rev(xs:Array Value):((List.range xs.size).filterMap fun(m:Nat)=>xs[(((xs.size:Int)-1)+(m:Int) * (-1)).toNat]?).toArray=xs.toList.reverse.toArray:=by
 have h:=PySem.W.krv_all xs
 have h2:=Jf List.reverse h
 rw[←List.filterMap_reverse,←PySem.W.krv_range,List.filterMap_map]at h2;rw[←h2]
 congr 1
 apply filterMap_congr'
 intro m hm;have:=Yq.mp hm;show xs[_]? =xs[xs.size-1-m]?
 congr 1
 omega
theorem getItem_tuple_rev{t sl:Addr}{items:Array Value}{tk:Tok}{Q:OE}(ht:IsTup s.heap t items)(hs:s.heap.IsSliceOf sl .none .none (.int (-1) tk))
  (h:Q (.ref s.heap.objs.size) {s with heap:=s.heap.push {cls:=.type "tuple",data:=.seq items.toList.reverse.toArray}})
  (hsz:items.size≤sizeLine):wpAny (model prog w) A (getItem (.ref t) (.ref sl)) Q E s:=by
 have htake:sizeOk (.seq items.toList.reverse.toArray):=by
  show items.toList.reverse.toArray.size≤sizeLine
  simpa using hsz
 obtain⟨os,hos,hcs,hds⟩:=id hs;have hTs:s.TypeIs (.ref sl) "slice":=⟨os,hos,hcs⟩;unfold getItem
 try with_reducible refine Jh ?_
 first|refine Qz (Qv ?_)|skip
 refine Qz (wpAny_sequenceKey ht.typeIs (by decide) ?_)
 refine Qz (Yv (name:=Str.ofString "__getitem__") ht.typeIs Qe
  (Ys Qe ht.typeIs entry_tuple_getitem ?_ (args_tuple_getitem _ _)))
 show wpAny _ _ (Builtin.Tuple.tupleItemsOf (.ref t)>>=_) _ _ s;refine Qz (tupleItemsOf_ ht ?_);refine Qz (wpAny_typeOf hTs ?_);rw[Qc (by decide)]
 refine Qz (sliceApplied_rev hs ?_);have hno:¬ ((((items.size:Int)-1)==0&&(-1:Int)==1&&items.size==items.size)=true):=by
  rw[show((-1:Int)==1)=false by decide];simp
 show wpAny _ _ (if(((items.size:Int)-1)==0&&(-1:Int)==1&&items.size==items.size)=true then _ else _) _ _ s
 rw[Ql hno,pick_rev]
 first
  |exact Qz (m:=Builtin.Tuple.tupleExact _) (Zl (Qv ⟨_,rfl,Qv h⟩) htake)
  |exact Qz (m:=Builtin.Tuple.tupleExact _) (Zl (Qz (Qv (Qv ⟨_,rfl,Qv h⟩))) htake)
  |exact Qz (Qz (m:=Builtin.Tuple.tupleExact _) (Zl (Qv (Qv ⟨_,rfl,Qv h⟩)) htake))
  |exact Qz (Qz (m:=Builtin.Tuple.tupleExact _) (Zl (Qv ⟨_,rfl,Qv h⟩) htake))
end
end HT
namespace L2.Mir
open PySem PySem.Spec PyProof.Rows
section
variable{X:Cx}{B:OA}{e lo hi st:Expr}{ma ml mh:Mo D}{pos p2:Pos}
def b6F(K:Qq):V->Option Int->Option Int->Hp->VK->Prop:=fun x lo hi H Q=>∃a xs,x=.ref a/\SqT K H a xs/\
 ((HT.sIx xs.length 0 lo=0/\HT.sIx xs.length xs.length hi=xs.length)->Q (.ref a) H)/\∀p,H p=none->Q (.ref p) (upd H p (.tup (a1N xs lo hi)))
theorem b6G:SlR X (b6F X.K):=by
 intro pins s σ H x v vl vu lo hi sl Q I rx hs pl pu h;obtain⟨a,xs,rfl,hx,qw,q⟩:=h
 by_cases hw:HT.sIx xs.length 0 lo=0/\HT.sIx xs.length xs.length hi=xs.length
 ·cases rx
  obtain⟨its,r,ht,hz⟩:=I.tuple hx;have hlen:its.toArray.size=xs.length:=by rw[Qp];exact r.length.symm
  refine⟨"tuple",_,Qe.lookup,ht.typeIs,?_⟩;exact HT.getItem_tuple_whole ht hs pl pu (by rw[hlen];exact hw) ⟨.ref a,H,I,rfl,qw hw⟩
 ·exact b0d pins s σ H (.ref a) v vl vu lo hi sl Q I rx hs pl pu ⟨a,xs,rfl,hx,hw,q⟩
def a1i(xs:List D)(lo hi:Option Int):List D:=(xs.drop (HT.sIx xs.length 0 lo)).take (HT.sIx xs.length xs.length hi-HT.sIx xs.length 0 lo)
def k3_:Mo (Option Int):=fun env=>some (none,env)
def k4_(m:Mo D):Mo (Option Int):=fun env=>(m env).bind fun p=>match p.1 with
 |.int i=>some (some i,p.2)
 |_=>none
def TOm(K:Qq)(B:OA)(m:Mo (Option Int)):TO:=fun σ H Q=>∃G env o env',Rel K B G σ env H/\m env=some (o,env')/\∀G' H',Ev K B G σ env H G' σ env' H'->Q o H'
abbrev EO(X:Cx)(B:OA)(e:Option Expr)(m:Mo (Option Int)):Prop:=PO X e (TOm X.K B m)
theorem b0T{X:Cx}{e:Option Expr}{t t':TO}(h:PO X e t)(i:∀σ H Q,t' σ H Q->t σ H Q):PO X e t':=fun pins s σ H Q I q=>h pins s σ H Q I (i σ H Q q)
theorem a0u:EO X B none k3_:=by
 refine b0T b5q ?_
 rintro σ H Q ⟨G,env,o,env',rl,e,k⟩;cases e;exact k G H (.refl rl)
theorem a0v(h:ED X B e ma):EO X B (some e) (k4_ ma):=by
 refine b0T (b5r h) ?_
 rintro σ H Q ⟨G,env,o,env',rl,e,k⟩;obtain⟨⟨d,env1⟩,e1,e2⟩:=q6_ e;dsimp only at e2;split at e2
 ·rename_i i
  cases e2;refine .bind rl e1 fun v G1 H1 ev r=>?_
  simp only[Rep]at r;exact⟨i,r,k G1 H1 ev⟩
 ·cases e2
def mSl(m:Mo D)(ml mh:Mo (Option Int)):Mo D:=fun env=>(m env).bind fun p=>(ml p.2).bind fun q=>(mh q.2).bind fun r=>match p.1 with
 |.tup ds=>some (.tup (a1i ds q.1 r.1),r.2)
 |_=>none
theorem z9_.cut{K:Qq}{G:Hp}{xs:List V}{ds:List D}(r:z9_ K G xs ds)(lo hi:Option Int):z9_ K G (a1N xs lo hi) (a1i ds lo hi):=by
 unfold a1N a1i;rw[r.length];exact(r.drop _).take _
theorem b6H{ds:List D}{lo hi:Option Int}(h:HT.sIx ds.length 0 lo=0/\HT.sIx ds.length ds.length hi=ds.length):a1i ds lo hi=ds:=by
 unfold a1i;rw[h.1,h.2];simp
theorem a0X{lo hi:Option Expr}{ml mh:Mo (Option Int)}(he:ED X B e ma)(hl:EO X B lo ml)(hh:EO X B hi mh):ED X B (.Subscript e (.Slice lo hi none p2) pos) (mSl ma ml mh):=by
 refine pe_imp (b0b b6G he hl hh) ?_
 rintro σ H Q ⟨G,env,d,env',rl,e,k⟩;obtain⟨⟨d1,env1⟩,e1,e2⟩:=q6_ e;obtain⟨⟨l,env2⟩,e3,e4⟩:=q6_ e2;obtain⟨⟨u,env3⟩,e5,e6⟩:=q6_ e4;dsimp only at e3 e5 e6;split at e6
 ·rename_i ds
  cases e6;refine .bind rl e1 fun v G1 H1 ev1 r1=>⟨G1,env1,l,env2,ev1.rel,e3,fun G2 H2 ev2=>⟨G2,env2,u,_,ev2.rel,e5,fun G3 H3 ev3=>?_⟩⟩
  have r3:=Rep.mono (ev2.same.trans ev3.same) _ r1
  have r30:=r3
  simp only[Rep]at r3;obtain⟨p,xs,rfl,q,t⟩:=r3;refine⟨p,xs,rfl,ev3.rel.sub.sqT q,fun hw=>?_,fun l' hp=>?_⟩
  ·rw[t.length]at hw
   exact k _ G3 H3 ((ev1.trans ev2).trans ev3) (by rw[b6H hw];exact r30)
  ·exact k _ _ _ (((ev1.trans ev2).trans ev3).trans (ev3.rel.alloc hp)) (a2T y6_ (z9_.mono (Le.upd (ev3.rel.gnone hp)) _ (t.cut l u)))
 ·cases e6
theorem b6I{te:TE}(he:PE X e te)(hst:PE X st (tC (.int (-1)))):PE X (.Subscript e (.Slice none none (some st) p2) pos) (fun σ H Q=>te σ H fun x H1=>∃a xs,x=.ref a/\SqT X.K H1 a xs/\∀p,H1 p=none->Q (.ref p) (upd H1 p (.tup xs.reverse))):=by
 intro pins s σ H Q I h;refine Subscript_ (thn (he pins s σ H _ I h) fun v s1 ⟨x,H1,I1,r1,q1⟩=>?_)
 refine wpAny_Slice ?_
 rw[evalPart_none];refine Qv (Qv ?_);rw[evalPart_some];refine thn (hst pins s1 σ H1 (fun x H2=>x=.int (-1)/\H2=H1) I1 ⟨rfl,rfl⟩) fun vst s3 ⟨y,H3,I3,r3,q3⟩=>?_
 obtain⟨rfl,rfl⟩:=q3;obtain⟨tk,rfl⟩:=r3;obtain⟨a,xs,rfl,hx,q⟩:=q1;cases r1;have I4:Inv X pins σ H3 {s3 with heap:=s3.heap.push {cls:=.type "slice",data:=.fields #[.none,.none,.int (-1) tk]}}:=I3.kept (t':=s3.toks) fun b ob q=>Qj _ q
 obtain⟨its,r,ht,hz⟩:=I4.tuple hx;have hlen:its.toArray.size=xs.length:=by rw[Qp];exact r.length.symm
 show wpAny (model X.prog X.w) X.A (subscriptTail e (.Slice none none (some st) p2) (.ref a) (.ref s3.heap.objs.size)) (EP X pins σ Q) X.xe {s3 with heap:=s3.heap.push {cls:=.type "slice",data:=.fields #[.none,.none,.int (-1) tk]}}
 refine tail_any (ops:=[.ref a,.ref s3.heap.objs.size]) ht.typeIs Qe.lookup ?_ (by with_unfolding_all rfl)
 refine HT.getItem_tuple_rev (tk:=tk) ht (Heap.IsSliceOf.new ..) ?_ (by rw[hlen];exact hz)
 refine⟨.ref _,_,I4.laid (t':=s3.toks) (o:=.tup xs.reverse) (fun b ob q=>Qj _ q) (Qb _) ?_,rfl,q _ (I4.hok.fresh (Qb _))⟩
 exact⟨by rw[List.length_reverse];exact hz,_,r.reverse,a0A.new _ _⟩
def a1j(m:Mo D):Mo D:=fun env=>(m env).bind fun p=>match p.1 with
 |.tup ds=>some (.tup ds.reverse,p.2)
 |_=>none
theorem a4H(he:ED X B e ma)(hst:PE X st (tC (.int (-1)))):ED X B (.Subscript e (.Slice none none (some st) p2) pos) (a1j ma):=by
 refine pe_imp (b6I he hst) ?_
 rintro σ H Q ⟨G,env,d,env',rl,e,k⟩;obtain⟨⟨d1,env1⟩,e1,e2⟩:=q6_ e;dsimp only at e2;split at e2
 ·rename_i ds
  cases e2;refine .bind rl e1 fun v G1 H1 ev1 r1=>?_
  simp only[Rep]at r1;obtain⟨p,xs,rfl,q,t⟩:=r1;exact⟨p,xs,rfl,ev1.rel.sub.sqT q,fun l' hp=>k _ _ _ (ev1.trans (ev1.rel.alloc hp)) (a2T y6_ (z9_.mono (Le.upd (ev1.rel.gnone hp)) _ t.reverse))⟩
 ·cases e2
theorem a4I{j:Nat}{p:Pos}:PE X (.UnaryOp .USub (.Constant (.int 1) j p) pos) (tC (.int (-1))):=pe_imp (a9O a9Q a9E) fun σ H Q q=>⟨1,rfl,q⟩
end
section
variable{X:Cx}{pins:OX}{σ:St}{H:Hp}{s:Shared}{h':Heap}
theorem b0U{t':Nat}{ch:List Addr}(I:Inv X pins σ H s)(k:∀b o,b∉ch->s.heap.get? b=some o->h'.get? b=some o)(hf:∀b∈ch,a0s X pins H b):Inv X pins σ H {s with heap:=h',toks:=t'}:=by
 have nit:∀b u,H b=some u->b∉ch:=fun b u e z=>by rw[(hf b z).1]at e;cases e
 refine I.step (g':=s.gens) (d':=s.drawn) (ch:=ch) (fun b hb=>⟨(hf b hb).2.2.2.1,(hf b hb).2.1,(hf b hb).2.2.2.2.1,(hf b hb).2.2.2.2.2⟩) (fun b o _ _ hc e _=>k b o hc e) (fun b o _ _ hc e _=>⟨o.slots,k b o hc e⟩) (fun _ _ _ _ n=>n)
  (fun b o hc e=>⟨o,k b o hc e⟩) (fun _ _ e=>e) (fun _ _ _ e=>e) (fun b ps e=>⟨#[],by rw[e];simp⟩) (fun m hm=>?_) (fun b u e=>?_) I.bare
 ·obtain⟨o,es,ep,ho,r⟩:=hm
  exact⟨o,es,ep,k _ o (fun z=>(hf _ z).2.1 rfl) ho,r⟩
 ·refine(I.hok b u e).stay (fun c v hc q=>k c v ?_ q) (fun _ q=>q) fun _ _ q=>q
  rcases hc with z|z
  ·rw[z];exact nit b u e
  ·exact nit c _ z
theorem b6J{t':Nat}{ch:List Addr}{p:Addr}{o:HO}(I:Inv X pins σ H s)(k:∀b o,b∉ch->s.heap.get? b=some o->h'.get? b=some o)(hf:∀b∈ch,a0s X pins H b)
  (hp:s.heap.objs.size≤p)(new:k1_ X.prog X.w (upd H p o) h' p o):Inv X pins σ (upd H p o) {s with heap:=h',toks:=t'}:=by
 have nit:∀b u,H b=some u->b∉ch:=fun b u e z=>by rw[(hf b z).1]at e;cases e
 have hn:H p=none:=I.hok.fresh hp
 have np:∀b u,s.heap.get? b=some u->b≠p:=fun b u q=>Qr (Qd (Qu q) hp)
 refine I.step (g':=s.gens) (d':=s.drawn) (ch:=ch) (fun b hb=>⟨(hf b hb).2.2.2.1,(hf b hb).2.1,(hf b hb).2.2.2.2.1,(hf b hb).2.2.2.2.2⟩) (fun b o _ _ hc e _=>k b o hc e) (fun b o _ _ hc e _=>⟨o.slots,k b o hc e⟩) (fun b o _ e n=>by rw[q4_ (np b o e)];exact n)
  (fun b o hc e=>⟨o,k b o hc e⟩) (fun b xs q=>by rw[q4_ (j3_ q hn)];exact q) (fun b u xs q=>by rw[q4_ (j3_ q hn)];exact q) (fun b ps e=>⟨#[],by rw[q4_ (j3_ e hn),e];simp⟩) (fun m hm=>?_) (fun b u e=>?_) I.bare
 ·obtain⟨o,es,ep,ho,r⟩:=hm
  exact⟨o,es,ep,k _ o (fun z=>(hf _ z).2.1 rfl) ho,r⟩
 ·by_cases hb:b=p
  ·subst hb;rw[y6_]at e;cases e;exact new
  ·rw[q4_ hb]at e
   refine(I.hok b u e).stay (fun c v hc q=>k c v ?_ q) (fun c q=>by rw[q4_ (j3_ q hn)];exact q) fun c xs q=>by rw[q4_ (j3_ q hn)];exact q
   rcases hc with z|z
   ·rw[z];exact nit b u e
   ·exact nit c _ z
end
def Sq1(k:Bool)(h:Heap)(l:Addr)(xs:Array Value):Prop:=if k then h.IsTuple l xs else h.IsList l xs
def It1(k:Bool)(h:Heap)(i l:Addr)(n:Nat):Prop:=if k then h.IsTupleIter i l n else h.IsListIter i l n
section
variable{k:Bool}{h h':Heap}{i l b:Addr}{n:Nat}{xs:Array Value}
theorem Sq1.at'(x:Sq1 k h l xs)(e:∀o,h.get? l=some o->h'.get? l=some o):Sq1 k h' l xs:=by
 cases k
 ·exact Heap.IsList.at (show h.IsList l xs from x) e
 ·obtain⟨o,ho,r⟩:=(show h.IsTuple l xs from x)
  exact(⟨o,e _ ho,r⟩:h'.IsTuple l xs)
theorem It1.at'(x:It1 k h i l n)(e:∀o,h.get? i=some o->h'.get? i=some o):It1 k h' i l n:=by
 cases k
 ·exact Heap.IsListIter.at (show h.IsListIter i l n from x) e
 ·exact Heap.IsTupleIter.at (show h.IsTupleIter i l n from x) e
theorem It1.get(x:It1 k h i l n):∃o,h.get? i=some o/\∀v,o.data≠.cell v:=by
 cases k
 ·obtain⟨o,ho,_,d⟩:=(show h.IsListIter i l n from x);exact⟨o,ho,fun v z=>by rw[d]at z;cases z⟩
 ·obtain⟨o,ho,_,d⟩:=(show h.IsTupleIter i l n from x);exact⟨o,ho,fun v z=>by rw[d]at z;cases z⟩
theorem It1.but(x:It1 k h i l n)(hs:Heap.ExtBut b h h')(hb:i≠b):It1 k h' i l n:=x.at' fun o e=>hs i o hb e
theorem Sq1.but(x:Sq1 k h l xs)(hs:Heap.ExtBut b h h')(hb:l≠b):Sq1 k h' l xs:=x.at' fun o e=>hs l o hb e
end
section
variable{prog:Program}{w:World}{A:Around}{E:OE}{s:Shared}
theorem b6K{it l:Addr}{i:Nat}{items:Array Value}{x:Value}{Q:OE}(hit:s.heap.IsTupleIter it l i)(hl:s.heap.IsTuple l items)(hx:items[i]? =some x)
  (hQ:∀h',h'.IsTupleIter it l (i+1)->Heap.SameBut it s.heap h'->Q x {s with heap:=h'}):wpAny (model prog w) A (Builtin.SmallTypes.nextOf (.ref it)) Q E s:=by
 obtain⟨o,ho,hc,hd⟩:=id hit;obtain⟨ol,hol,_,nl,hdl⟩:=hl;unfold Builtin.SmallTypes.nextOf;refine Qz (Yv (name:=Str.ofString "__next__") hit.typeIs Yi (Ys Yi hit.typeIs Uo ?_ (Ua _)));show wpAny _ _ (field (.ref it) 0>>=_) _ _ s;refine Qz (Zf ho hd (x:=.ref l) rfl ?_);rw[Ql (show ¬ ((Value.ref l==Value.none)=true)from Yk)]
 refine Qz (Zf ho hd (x:=.int i 0) rfl ?_);refine Qz (Ju hol hdl ?_);simp only[Yl,hx];refine Qz (wpAny_setField ho hd (by simp) (Qv ⟨x,rfl,Qv (hQ _ ⟨_,Heap.get?_update_self _ ho (Obj.isFreed_of_fields (Obj.data_mapFields hd _)),(Obj.cls_mapFields ..).trans hc,?_⟩ (Heap.SameBut.update ..))⟩))
 rw[Obj.data_mapFields hd];simp[rawInt]
theorem b6L{it l:Addr}{i:Nat}{items:Array Value}{Q:OE}(hh:A.handled=none)(hit:s.heap.IsTupleIter it l i)(hl:s.heap.IsTuple l items)(hx:items[i]? =none)
  (hE:∀h' e,Heap.ExtBut it s.heap h'->(∃o,h'.get? e=some o/\o.cls=.type "StopIteration")->E (.ref e) {s with heap:=h'}):wpAny (model prog w) A (Builtin.SmallTypes.nextOf (.ref it)) Q E s:=by
 obtain⟨o,ho,hc,hd⟩:=id hit;obtain⟨ol,hol,_,nl,hdl⟩:=hl;unfold Builtin.SmallTypes.nextOf;refine Qz (Yv (name:=Str.ofString "__next__") hit.typeIs Yi (Ys Yi hit.typeIs Uo ?_ (Ua _)));show wpAny _ _ (field (.ref it) 0>>=_) _ _ s;refine Qz (Zf ho hd (x:=.ref l) rfl ?_);rw[Ql (show ¬ ((Value.ref l==Value.none)=true)from Yk)]
 refine Qz (Zf ho hd (x:=.int i 0) rfl ?_);refine Qz (Ju hol hdl ?_);simp only[Yl,hx];refine Qz (wpAny_rule (Qz (wpAny_setField ho hd (by simp) ?_)))
 refine Qz ?_
 simp only[newExc,newTuple];refine Qz (Zl ?_ (by size_fits))
 refine Qz (m:=firstArgMember _ _) (wpAny_of_eq (a:=Value.none) (by first|rfl|(simp only[firstArgMember];rfl)) ?_)
 refine Zl ?_ (by size_fits)
 simp only[raiseNew];refine Qz (wpAny_handled ?_)
 first|rw[show A.in1.handled=none from hh]|rw[hh]
 refine Qz (Qv (wpAny_throw ?_));exact hE _ _ (((Heap.SameBut.update ..).extBut.push _).push _) ⟨_,Qn _ rfl,rfl⟩
theorem a7u{k:Bool}{it l:Addr}{i:Nat}{items:Array Value}{x:Value}{Q:OE}(hit:It1 k s.heap it l i)(hl:Sq1 k s.heap l items)(hx:items[i]? =some x)
  (hQ:∀h',It1 k h' it l (i+1)->Heap.SameBut it s.heap h'->Q x {s with heap:=h'}):wpAny (model prog w) A (Builtin.SmallTypes.nextOf (.ref it)) Q E s:=by
 cases k
 ·exact wpAny_nextOf_list_item hit hl hx hQ
 ·exact b6K hit hl hx hQ
theorem b0V{k:Bool}{it l:Addr}{i:Nat}{items:Array Value}{Q:OE}(hh:A.handled=none)(hit:It1 k s.heap it l i)(hl:Sq1 k s.heap l items)(hx:items[i]? =none)
  (hE:∀h' e,Heap.ExtBut it s.heap h'->(∃o,h'.get? e=some o/\o.cls=.type "StopIteration")->E (.ref e) {s with heap:=h'}):wpAny (model prog w) A (Builtin.SmallTypes.nextOf (.ref it)) Q E s:=by
 cases k
 ·exact wpAny_nextOf_list_end hh hit hl hx hE
 ·exact b6L hh hit hl hx hE
end
section
variable{prog:Program}{w:World}{A:Around}{E:OE}{s:Shared}{c1 c2:Bool}
theorem b6M{z TI TO i1 i2 l1 l2:Addr}{k1 k2:Nat}{xs ys:Array Value}{x y a b:Value}{Q:OE}(D:ZipApart z TI TO i1 i2 l1 l2)
  (hz:IsZip s.heap z TI TO .none)(hTI:IsPair s.heap TI (.ref i1) (.ref i2))(hTO:IsPair s.heap TO a b)
  (h1:It1 c1 s.heap i1 l1 k1)(h2:It1 c2 s.heap i2 l2 k2)(hl1:Sq1 c1 s.heap l1 xs)(hl2:Sq1 c2 s.heap l2 ys)(hx:xs[k1]? =some x)(hy:ys[k2]? =some y)
  (hQ:∀h',IsZip h' z TI TO (rawInt s.heap.objs.size)->IsPair h' TO x y->It1 c1 h' i1 l1 (k1+1)->It1 c2 h' i2 l2 (k2+1)->IsPair h' s.heap.objs.size x y->h'.objs.size=s.heap.objs.size+1->
   (∀c o,c≠z->c≠TO->c≠i1->c≠i2->s.heap.get? c=some o->h'.get? c=some o)->Q (.ref s.heap.objs.size) {s with heap:=h'}):
  wpAny (model prog w) A (Builtin.«zip.__next__» ⟨[.ref z],[]⟩) (fun fin s'=>∃v,fin=.done (.ret v)/\Q v s') E s:=by
 show wpAny _ _ (field (.ref z) 2>>=_) _ _ _;refine Qz (Zf hz rfl (x:=.bool false) rfl (Qz (Zf hz rfl (x:=.ref TI) rfl ?_)));refine Qz (Ju hTI rfl (Qz ?_));unfold Builtin.SmallTypes.ownedTupleIsFree;refine Qz (Zf hz rfl (x:=.none) rfl (Qv ?_));simp only[Zs];refine Qz (wpAny_rule (Qz (Zf hz rfl (x:=.ref TO) rfl ?_)));refine Qz (Jb hz (by simp) fun g1 (z1:IsZip g1 z TI TO .ellipsis) s1=>Qz ?_)
 simp only[List.zipIdx_cons,List.zipIdx_nil,List.forIn_cons,List.forIn_nil];refine Qz (Qz (Vq (Qz (m:=Builtin.SmallTypes.nextOf (.ref i1)) ?_)));refine a7u (h1.but s1.extBut D.i1z) (hl1.but s1.extBut D.l1z) hx fun g2 a2 s2=>Qv ?_
 have p2:IsPair g2 TO a b:=s2.extBut _ _ D.TOi1 (s1.extBut _ _ D.TOz hTO)
 refine Qz (Ju p2 rfl (Qz (Vb p2 fun g3 (p3:IsPair g3 TO x b) s3=>?_)))
 refine Qz (wpAny_letGo (Qv (Qz (Qz (Vq (Qz (m:=Builtin.SmallTypes.nextOf (.ref i2)) ?_))))));refine a7u (((h2.but s1.extBut D.i2z).but s2.extBut D.i12.symm).but s3.extBut D.TOi2.symm) (((hl2.but s1.extBut D.l2z).but s2.extBut D.l2i1).but s3.extBut D.l2TO) hy fun g4 a4 s4=>Qv ?_
 have p4:IsPair g4 TO x b:=s4.extBut _ _ D.TOi2 p3
 refine Qz (Ju p4 rfl (Qz (Vb p4 fun g5 (p5:IsPair g5 TO x y) s5=>?_)))
 refine Qz (wpAny_letGo (Qv (Qv (Qz (Ju p5 rfl (Qz (wpAny_newTuple ?_)))))));have hsz:g5.objs.size=s.heap.objs.size:=by rw[s5.1,s4.1,s3.1,s2.1,s1.1]
 have z5:IsZip g5 z TI TO .ellipsis:=s5.extBut _ _ D.TOz.symm (s4.extBut _ _ D.i2z.symm (s3.extBut _ _ D.TOz.symm (s2.extBut _ _ D.i1z.symm z1)))
 have k5:∀c o,c≠z->c≠TO->c≠i1->c≠i2->s.heap.get? c=some o->g5.get? c=some o:=fun c o n1 n2 n3 n4 e=>
  s5.extBut _ _ n2 (s4.extBut _ _ n4 (s3.extBut _ _ n2 (s2.extBut _ _ n3 (s1.extBut _ _ n1 e))))
 have b1:It1 c1 g5 i1 l1 (k1+1):=((a2.but s3.extBut D.TOi1.symm).but s4.extBut D.i12).but s5.extBut D.TOi1.symm
 have b2:It1 c2 g5 i2 l2 (k2+1):=a4.but s5.extBut D.TOi2.symm
 refine Qz (m:=Builtin.SmallTypes.ownedTupleHandOut (.ref z) (.ref g5.objs.size)) ?_
 unfold Builtin.SmallTypes.ownedTupleHandOut;have z6:IsZip (g5.push {cls:=.type "tuple",data:=.seq #[x,y]}) z TI TO .ellipsis:=Qj _ z5;refine Qz (Jb z6 (by simp) fun g7 (z7:IsZip g7 z TI TO (rawInt g5.objs.size)) s7=>?_)
 refine Jb z7 (by simp) fun g8 (z8:IsZip g8 z TI TO (rawInt g5.objs.size)) s8=>?_
 have up:∀c o,c≠z->g5.get? c=some o->g8.get? c=some o:=fun c o n1 e=>s8.extBut _ _ n1 (s7.extBut _ _ n1 (Qj _ e))
 have t8:IsPair g8 g5.objs.size x y:=s8.extBut _ _ (Ve (Qu z5)) (s7.extBut _ _ (Ve (Qu z5)) (Qn _ rfl))
 have e8:g8.objs.size=g5.objs.size+1:=by rw[s8.1,s7.1,Zr]
 rw[hsz]at z8 t8 e8;refine Qv ⟨_,rfl,?_⟩;show Q (.ref g5.objs.size) _;rw[hsz];exact hQ g8 z8 (up _ _ D.TOz p5) (b1.at' fun o e=>up _ o D.i1z e) (b2.at' fun o e=>up _ o D.i2z e) t8 e8 fun c o n1 n2 n3 n4 e=>up c o n1 (k5 c o n1 n2 n3 n4 e)
theorem b6N{z TI TO i1 i2 l1 l2:Addr}{k1 k2:Nat}{xs ys:Array Value}{a b:Value}{Q:PySem.Fin->Shared->Prop}(hh:A.handled=none)(D:ZipApart z TI TO i1 i2 l1 l2)
  (hz:IsZip s.heap z TI TO .none)(hTI:IsPair s.heap TI (.ref i1) (.ref i2))(hTO:IsPair s.heap TO a b)
  (h1:It1 c1 s.heap i1 l1 k1)(h2:It1 c2 s.heap i2 l2 k2)(hl1:Sq1 c1 s.heap l1 xs)(hl2:Sq1 c2 s.heap l2 ys)(hend:xs[k1]? =none∨ys[k2]? =none)
  (hE:∀h' e,(∀c o,c≠z->c≠TO->c≠i1->c≠i2->s.heap.get? c=some o->h'.get? c=some o)->(∃o,h'.get? e=some o/\o.cls=.type "StopIteration")->E (.ref e) {s with heap:=h'}):
  wpAny (model prog w) A (Builtin.«zip.__next__» ⟨[.ref z],[]⟩) Q E s:=by
 show wpAny _ _ (field (.ref z) 2>>=_) _ _ _;refine Qz (Zf hz rfl (x:=.bool false) rfl (Qz (Zf hz rfl (x:=.ref TI) rfl ?_)));refine Qz (Ju hTI rfl (Qz ?_));unfold Builtin.SmallTypes.ownedTupleIsFree;refine Qz (Zf hz rfl (x:=.none) rfl (Qv ?_));simp only[Zs];refine Qz (wpAny_rule (Qz (Zf hz rfl (x:=.ref TO) rfl ?_)));refine Qz (Jb hz (by simp) fun g1 (z1:IsZip g1 z TI TO .ellipsis) s1=>Qz ?_)
 simp only[List.zipIdx_cons,List.zipIdx_nil,List.forIn_cons,List.forIn_nil];refine Qz (Qz (Vq (Qz (m:=Builtin.SmallTypes.nextOf (.ref i1)) ?_)));cases hx:xs[k1]? with
 |none=>
  refine b0V hh (h1.but s1.extBut D.i1z) (hl1.but s1.extBut D.l1z) hx fun g2 e s2 he=>?_
  obtain⟨oe,q1,q2⟩:=he;have z2:IsZip g2 z TI TO .ellipsis:=s2 _ _ D.i1z.symm z1;have ne:e≠z:=fun x=>by subst x;rw[z2]at q1;cases q1;simp at q2
  exact Jb z2 (by simp) fun g3 _ s3=>hE g3 e (fun c o n1 _ n3 _ x=>s3.extBut _ _ n1 (s2 _ _ n3 (s1.extBut _ _ n1 x))) ⟨oe,s3.extBut _ _ ne q1,q2⟩
 |some x=>
  have hy:ys[k2]? =none:=by
   rcases hend with h|h
   ·rw[hx]at h;cases h
   ·exact h
  refine a7u (h1.but s1.extBut D.i1z) (hl1.but s1.extBut D.l1z) hx fun g2 a2 s2=>Qv ?_
  have p2:IsPair g2 TO a b:=s2.extBut _ _ D.TOi1 (s1.extBut _ _ D.TOz hTO)
  refine Qz (Ju p2 rfl (Qz (Vb p2 fun g3 p3 s3=>?_)))
  refine Qz (wpAny_letGo (Qv (Qz (Qz (Vq (Qz (m:=Builtin.SmallTypes.nextOf (.ref i2)) ?_))))));refine b0V hh (((h2.but s1.extBut D.i2z).but s2.extBut D.i12.symm).but s3.extBut D.TOi2.symm) (((hl2.but s1.extBut D.l2z).but s2.extBut D.l2i1).but s3.extBut D.l2TO) hy fun g4 e s4 he=>?_
  obtain⟨oe,q1,q2⟩:=he;have z4:IsZip g4 z TI TO .ellipsis:=s4 _ _ D.i2z.symm (s3.extBut _ _ D.TOz.symm (s2.extBut _ _ D.i1z.symm z1));have ne:e≠z:=fun x=>by subst x;rw[z4]at q1;cases q1;simp at q2
  exact Jb z4 (by simp) fun g5 _ s5=>hE g5 e (fun c o n1 n2 n3 n4 x=>s5.extBut _ _ n1 (s4 _ _ n4 (s3.extBut _ _ n2 (s2.extBut _ _ n3 (s1.extBut _ _ n1 x))))) ⟨oe,s5.extBut _ _ ne q1,q2⟩
theorem b6O{z TI TO i1 i2 l1 l2:Addr}{k1 k2:Nat}{xs ys:Array Value}{x y a b:Value}{Q:Option Value->Shared->Prop}(D:ZipApart z TI TO i1 i2 l1 l2)
  (hz:IsZip s.heap z TI TO .none)(hTI:IsPair s.heap TI (.ref i1) (.ref i2))(hTO:IsPair s.heap TO a b)
  (h1:It1 c1 s.heap i1 l1 k1)(h2:It1 c2 s.heap i2 l2 k2)(hl1:Sq1 c1 s.heap l1 xs)(hl2:Sq1 c2 s.heap l2 ys)(hx:xs[k1]? =some x)(hy:ys[k2]? =some y)
  (hQ:∀h',IsZip h' z TI TO (rawInt s.heap.objs.size)->IsPair h' TO x y->It1 c1 h' i1 l1 (k1+1)->It1 c2 h' i2 l2 (k2+1)->IsPair h' s.heap.objs.size x y->h'.objs.size=s.heap.objs.size+1->
   (∀c o,c≠z->c≠TO->c≠i1->c≠i2->s.heap.get? c=some o->h'.get? c=some o)->Q (some (.ref s.heap.objs.size)) {s with heap:=h'}):
  wpAny (model prog w) A (pyNext (.ref z)) Q E s:=by
 have hT:s.TypeIs (.ref z) "zip":=⟨_,hz,rfl⟩
 unfold pyNext;exact Qz (wpAny_attempt (Yv (name:=Str.ofString "__next__") hT Uv (Ys Uv hT PySem.F.entry_zip_next
  (b6M D hz hTI hTO h1 h2 hl1 hl2 hx hy fun h' a1 a2 a3 a4 a5 a6 a7=>Qv (hQ h' a1 a2 a3 a4 a5 a6 a7)) (PySem.F.args_zip_next_1 _))))
theorem b6P{z TI TO i1 i2 l1 l2:Addr}{k1 k2:Nat}{xs ys:Array Value}{a b:Value}{Q:Option Value->Shared->Prop}(hh:A.handled=none)(D:ZipApart z TI TO i1 i2 l1 l2)
  (hz:IsZip s.heap z TI TO .none)(hTI:IsPair s.heap TI (.ref i1) (.ref i2))(hTO:IsPair s.heap TO a b)
  (h1:It1 c1 s.heap i1 l1 k1)(h2:It1 c2 s.heap i2 l2 k2)(hl1:Sq1 c1 s.heap l1 xs)(hl2:Sq1 c2 s.heap l2 ys)(hend:xs[k1]? =none∨ys[k2]? =none)
  (hQ:∀h',(∀c o,c≠z->c≠TO->c≠i1->c≠i2->s.heap.get? c=some o->h'.get? c=some o)->Q none {s with heap:=h'}):wpAny (model prog w) A (pyNext (.ref z)) Q E s:=by
 have hT:s.TypeIs (.ref z) "zip":=⟨_,hz,rfl⟩
 unfold pyNext;refine Qz (wpAny_attempt (Yv (name:=Str.ofString "__next__") hT Uv (Ys Uv hT PySem.F.entry_zip_next
  (b6N hh D hz hTI hTO h1 h2 hl1 hl2 hend fun h' e hk he=>?_) (PySem.F.args_zip_next_1 _))))
 obtain⟨o,ho,hc⟩:=he;exact Qz (wpAny_isInstance (T:="StopIteration") (b:=true) ⟨o,ho,hc⟩ isSubtype_stop (Qv (hQ _ hk)))
end
def b0W(c:Bool):String:=if c then "tuple_iterator" else "list_iterator"
abbrev zh1(c1:Bool)(h:Heap)(l1:Addr):Heap:=h.push {cls:=.type (b0W c1),data:=.fields #[.ref l1,.int 0 0]}
abbrev zh2(c1 c2:Bool)(h:Heap)(l1 l2:Addr):Heap:=(zh1 c1 h l1).push {cls:=.type (b0W c2),data:=.fields #[.ref l2,.int 0 0]}
abbrev zh3(c1 c2:Bool)(h:Heap)(l1 l2:Addr):Heap:=(zh2 c1 c2 h l1 l2).push {cls:=.type "tuple",data:=.seq #[.ref h.objs.size,.ref (zh1 c1 h l1).objs.size]}
abbrev zh4(c1 c2:Bool)(h:Heap)(l1 l2:Addr):Heap:=(zh3 c1 c2 h l1 l2).push {cls:=.type "tuple",data:=.seq #[.none,.none]}
abbrev zh5(c1 c2:Bool)(h:Heap)(l1 l2:Addr):Heap:=(zh4 c1 c2 h l1 l2).push {cls:=.type "zip",data:=.fields #[.none,.bool false,.bool false,.ref (zh2 c1 c2 h l1 l2).objs.size,.ref (zh3 c1 c2 h l1 l2).objs.size]}
section
variable{prog:Program}{w:World}{A:Around}{E:OE}{s:Shared}
theorem b0X{c:Bool}{l:Addr}{items:Array Value}{Q:OE}(hl:Sq1 c s.heap l items)(hQ:Q (.ref s.heap.objs.size) {s with heap:=zh1 c s.heap l}):wpAny (model prog w) A (pyIter (.ref l)) Q E s:=by
 cases c
 ·exact Ui hl hQ
 ·exact Vd hl hQ
end
theorem b6Q(c1 c2:Bool)(l1 l2:Addr)(xs ys:Array Value):
  Meets (Builtin.«zip.__new__» ⟨[.type "zip",.ref l1,.ref l2],[]⟩) (fun _ R s=>Sq1 c1 s.heap l1 xs/\Sq1 c2 s.heap l2 ys/\R (.ok (.ret (.ref (zh4 c1 c2 s.heap l1 l2).objs.size))) {s with heap:=zh5 c1 c2 s.heap l1 l2}):=
 .of_wp fun prog w A R s h=>by
  obtain⟨hp,g,d,tk,os⟩:=s;obtain⟨hl1,hl2,h⟩:=h;have hsub:=sub_zip;have hL1:Sq1 c1 (Shared.heap ⟨hp,g,d,tk,os⟩) l1 xs:=hl1;have hL2:Sq1 c2 (Shared.heap ⟨zh1 c1 hp l1,g,d,tk,os⟩) l2 ys:=Sq1.at' hl2 fun o e=>Qj _ e
  wp_walk using b0X hL1,b0X hL2
  exact⟨_,rfl,h⟩
section
variable{prog:Program}{w:World}{A:Around}{E:OE}{s:Shared}
theorem b6R{c1 c2:Bool}{l1 l2:Addr}{xs ys:Array Value}{Q:OE}(hl1:Sq1 c1 s.heap l1 xs)(hl2:Sq1 c2 s.heap l2 ys)
  (h:∀h',IsZip h' (s.heap.objs.size+4) (s.heap.objs.size+2) (s.heap.objs.size+3) .none->IsPair h' (s.heap.objs.size+2) (.ref s.heap.objs.size) (.ref (s.heap.objs.size+1))->
   IsPair h' (s.heap.objs.size+3) .none .none->It1 c1 h' s.heap.objs.size l1 0->It1 c2 h' (s.heap.objs.size+1) l2 0->h'.objs.size=s.heap.objs.size+5->
   (∀c o,s.heap.get? c=some o->h'.get? c=some o)->Q (.ref (s.heap.objs.size+4)) {s with heap:=h'}):
  wpAny (model prog w) A (call (.type "zip") [.ref l1,.ref l2]) Q E s:=by
 refine callType_new PySem.F.called_zip (by decide) (PySem.F.typeCall_zip_2 _ _) (PySem.F.newCall_zip_2 _ _) (fun obj=>PySem.F.args_object_init_3 obj _ _) PySem.F.entry_zip_new (b6Q c1 c2 l1 l2 xs ys) ⟨hl1,hl2,?_⟩
 have z1:(zh1 c1 s.heap l1).objs.size=s.heap.objs.size+1:=Zr ..
 have z2:(zh2 c1 c2 s.heap l1 l2).objs.size=s.heap.objs.size+2:=by rw[Zr,z1]
 have z3:(zh3 c1 c2 s.heap l1 l2).objs.size=s.heap.objs.size+3:=by rw[Zr,z2]
 have z4:(zh4 c1 c2 s.heap l1 l2).objs.size=s.heap.objs.size+4:=by rw[Zr,z3]
 have z5:(zh5 c1 c2 s.heap l1 l2).objs.size=s.heap.objs.size+5:=by rw[Zr,z4]
 have g5:(zh5 c1 c2 s.heap l1 l2).get? (zh4 c1 c2 s.heap l1 l2).objs.size=some _:=Qn _ rfl
 have g4:(zh5 c1 c2 s.heap l1 l2).get? (zh3 c1 c2 s.heap l1 l2).objs.size=some _:=Qj _ (Qn _ rfl)
 have g3:(zh5 c1 c2 s.heap l1 l2).get? (zh2 c1 c2 s.heap l1 l2).objs.size=some _:=Qj _ (Qj _ (Qn _ rfl))
 have g2:(zh5 c1 c2 s.heap l1 l2).get? (zh1 c1 s.heap l1).objs.size=some _:=Qj _ (Qj _ (Qj _ (Qn _ rfl)))
 have g1:(zh5 c1 c2 s.heap l1 l2).get? s.heap.objs.size=some _:=Qj _ (Qj _ (Qj _ (Qj _ (Qn _ rfl))))
 show _/\_;rw[z2,z3,z4]at g5;rw[z1,z2]at g3;rw[z3]at g4;rw[z1]at g2;rw[z4];refine⟨⟨_,g5,rfl⟩,h _ g5 g3 g4 ?_ ?_ z5 fun c o x=>Qj _ (Qj _ (Qj _ (Qj _ (Qj _ x))))⟩
 ·cases c1
  ·exact(⟨_,g1,rfl,rfl⟩:Heap.IsListIter _ _ _ _)
  ·exact(⟨_,g1,rfl,rfl⟩:Heap.IsTupleIter _ _ _ _)
 ·cases c2
  ·exact(⟨_,g2,rfl,rfl⟩:Heap.IsListIter _ _ _ _)
  ·exact(⟨_,g2,rfl,rfl⟩:Heap.IsTupleIter _ _ _ _)
end
def SqA(c:Bool)(K:Qq)(H:Hp)(a:Addr)(xs:List V):Prop:=if c then SqT K H a xs else SqL K H a xs
theorem Le.sqA{K:Qq}{G G':Hp}(l:Le G G'){c:Bool}{a:Addr}{xs:List V}(h:SqA c K G a xs):SqA c K G' a xs:=by
 cases c
 ·exact l.sqL h
 ·exact l.sqT' h
section
variable{X:Cx}{pins:OX}{σ:St}{H:Hp}{s:Shared}{c:Bool}{a b:Addr}{xs:List V}
theorem a3Z(I:Inv X pins σ H s)(h:SqA c X.K H a xs):∃its:List Value,q5_ xs its/\Sq1 c s.heap a its.toArray/\xs.length≤sizeLine:=by
 cases c
 ·obtain⟨its,r,p,z⟩:=I.list h
  exact⟨its,r,p.isList,z⟩
 ·obtain⟨its,r,p,z⟩:=I.tuple h
  exact⟨its,r,p,z⟩
theorem a5N(I:Inv X pins σ H s)(f:a0s X pins H b)(h:SqA c X.K H a xs):a≠b:=by
 have k:∀{u:HO},Rd H a u->a≠b:=fun r z=>by
  subst z
  rcases r with r|⟨_,r⟩
  ·rw[f.1]at r;cases r
  ·rw[f.1]at r;cases r
 have m:∀{o:Obj},X.K.lookup a=some o->a≠b:=fun{o} q z=>by
  subst z;have e:X.base.get? a=some o:=I.mod.kin a o q
  rcases f.2.2.2.1 with z|z
  ·exact I.ok.noex a o e z
  ·exact absurd (Qd (Qu e) (Qo I.ok.bsz z)) (Yh _)
 cases c
 ·rcases h with h|⟨o,_,_,q,_⟩
  ·exact k h
  ·exact m q
 ·rcases h with h|⟨o,_,_,q,_⟩
  ·exact k h
  ·exact m q
end
def Itz(K:Qq)(c1 c2:Bool)(l1 l2:Addr)(xs ys:List V):It:=
 ⟨fun i H=>i<min xs.length ys.length/\SqA c1 K H l1 xs/\SqA c2 K H l2 ys,
  fun i H x H'=>∃p a b,H p=none/\x=.ref p/\H'=upd H p (.tup [a,b])/\xs[i]? =some a/\ys[i]? =some b,
  fun i H=>min xs.length ys.length≤i/\SqA c1 K H l1 xs/\SqA c2 K H l2 ys⟩
def b6S(c1 c2:Bool)(n:Nat)(l1 l2:Addr)(i:Nat)(h:Heap):Prop:=
 IsZip h (n+4) (n+2) (n+3) .none/\IsPair h (n+2) (.ref n) (.ref (n+1))/\(∃a b,IsPair h (n+3) a b)/\It1 c1 h n l1 i/\It1 c2 h (n+1) l2 i
theorem apart{n l1 l2:Addr}(h1:∀j,j<5->l1≠n+j)(h2:∀j,j<5->l2≠n+j):ZipApart (n+4) (n+2) (n+3) n (n+1) l1 l2:=by
 constructor<;>first
  |(show(_:Nat)≠_;omega)
  |exact h1 4 (by decide)
  |exact h1 3 (by decide)
  |exact h1 1 (by decide)
  |exact h1 0 (by decide)
  |exact h2 4 (by decide)
  |exact h2 3 (by decide)
  |exact h2 1 (by decide)
  |exact h2 0 (by decide)
abbrev fp5(n:Nat):List Addr:=[n+4,n+2,n+3,n,n+1]
abbrev fp4(n:Nat):List Addr:=[n+4,n+3,n,n+1]
theorem a5O(n:Nat):∀{j:Nat},j<5->(n+j:Nat)∈fp5 n
 |0,_=>by simp[fp5]
 |1,_=>by simp[fp5]
 |2,_=>by simp[fp5]
 |3,_=>by simp[fp5]
 |4,_=>by simp[fp5]
 |j+5,h=>by omega
theorem b0Y{n:Nat}{c:Addr}(h:c∈fp4 n):c∈fp5 n:=by
 simp only[fp4,fp5,Qh,Qa,Yg]at h ⊢
 rcases h with h|h|h|h<;>simp[h]
theorem b6T{n:Nat}{c:Addr}(h:c∈[n+4]):c∈fp5 n:=by
 simp only[Qh,Qa,Yg]at h;rw[h];simp
theorem le5{n:Nat}{c:Addr}(h:c∈fp5 n):n≤c:=by
 simp only[fp5,Qh,Qa,Yg]at h
 rcases h with rfl|rfl|rfl|rfl|rfl
 ·exact Vj _ _
 ·exact Vj _ _
 ·exact Vj _ _
 ·exact Qb _
 ·exact Vj _ _
theorem b6U{P:Program}{w:World}{K:Qq}{elts:List Expr}{kk:Nat}{tp:Pos}(c1 c2:Bool)(n l1 l2:Addr)(xs ys:List V):
  Turn P w K (.Tuple elts kk tp) (Itz K c1 c2 l1 l2 xs ys) [n+4,n+2,n+3,n,n+1] (n+4) (b6S c1 c2 n l1 l2)where
 mem:=by simp
 obj:=fun i h st b hb=>by
  obtain⟨hz,hI,⟨a,b',hO⟩,h1,h2⟩:=st;simp only[Qh,Qa,Yg]at hb
  rcases hb with rfl|rfl|rfl|rfl|rfl
  ·exact⟨_,hz,fun v z=>by cases z⟩
  ·exact⟨_,hI,fun v z=>by cases z⟩
  ·exact⟨_,hO,fun v z=>by cases z⟩
  ·exact h1.get
  ·exact h2.get
 keep:=fun i h h' st k=>by
  obtain⟨hz,hI,⟨a,b',hO⟩,h1,h2⟩:=st;exact⟨k _ (by simp) _ hz,k _ (by simp) _ hI,⟨a,b',k _ (by simp) _ hO⟩,h1.at' fun o e=>k _ (by simp) o e,h2.at' fun o e=>k _ (by simp) o e⟩
 item:=by
  intro X hP hw hK hc i pins s σ H E I hf st hg;subst hP hw hK;obtain⟨hi,q1,q2⟩:=hg;obtain⟨hz,hI,⟨a,b,hO⟩,h1,h2⟩:=st;obtain⟨its,r1,p1,_⟩:=a3Z I q1;obtain⟨jts,r2,p2,_⟩:=a3Z I q2;have ex:xs[i]? =some (xs[i]'(by omega)):=by simp
  have ey:ys[i]? =some (ys[i]'(by omega)):=by simp
  obtain⟨u,hu,ru⟩:=r1.get ex;obtain⟨v,hv,rv⟩:=r2.get ey;have D:ZipApart (n+4) (n+2) (n+3) n (n+1) l1 l2:=apart
   (fun j hj=>a5N I (hf _ (a5O n hj)) q1)
   (fun j hj=>a5N I (hf _ (a5O n hj)) q2)
  refine b6O D hz hI hO h1 h2 p1 p2 (x:=u) (y:=v) (by simpa using hu) (by simpa using hv) fun h' a1 a2 a3 a4 a5 a6 a7=>?_
  have hn:H s.heap.objs.size=none:=I.fresh
  have I1:Inv X pins σ (upd H s.heap.objs.size (.tup [xs[i]'(by omega),ys[i]'(by omega)])) {s with heap:=h'}:=b6J (ch:=[n+4,n+3,n,n+1]) (t':=s.toks) I
   (fun c o hc e=>a7 c o (fun z=>hc (by simp[z])) (fun z=>hc (by simp[z])) (fun z=>hc (by simp[z])) (fun z=>hc (by simp[z])) e)
   (fun c hc=>hf c (b0Y hc)) (Qb _)
   ⟨by show 2≤sizeLine;decide,[u,v],.cons ru (.cons rv .nil),_,a5,rfl,rfl,0,rfl⟩
  have lt5:∀c∈[n+4,n+2,n+3,n,n+1],c≠s.heap.objs.size:=fun c hc=>by
   have:∃o,s.heap.get? c=some o:=by
    simp only[Qh,Qa,Yg]at hc
    rcases hc with rfl|rfl|rfl|rfl|rfl
    ·exact⟨_,hz⟩
    ·exact⟨_,hI⟩
    ·exact⟨_,hO⟩
    ·obtain⟨o,e,_⟩:=h1.get;exact⟨o,e⟩
    ·obtain⟨o,e,_⟩:=h2.get;exact⟨o,e⟩
   obtain⟨o,e⟩:=this;exact Qr (Qu e)
  have hf2:∀c∈[n+4,n+2,n+3,n,n+1],a0s X pins (upd H s.heap.objs.size (.tup [xs[i]'(by omega),ys[i]'(by omega)])) c:=fun c hc=>⟨by rw[q4_ (lt5 c hc)];exact(hf c hc).1,(hf c hc).2⟩
  have hI':IsPair h' (n+2) (.ref n) (.ref (n+1)):=a7 _ _ D.TIz D.TITO D.TIi1 D.TIi2 hI
  refine⟨.ref s.heap.objs.size,rfl,wpAny_letOwnedTupleGo_zip (s:={s with heap:=h'}) a1 fun h2' b1 b2=>?_⟩
  have I2:Inv X pins σ (upd H s.heap.objs.size (.tup [xs[i]'(by omega),ys[i]'(by omega)])) {s with heap:=h2'}:=b0U (s:={s with heap:=h'}) (ch:=[n+4]) (t':=s.toks) I1
   (fun c o hc e=>b2.extBut _ _ (fun z=>hc (by simp[z])) e) (fun c hc=>hf2 c (b6T hc))
  exact⟨.ref s.heap.objs.size,_,I2,rfl,⟨_,_,_,hn,rfl,rfl,ex,ey⟩,
   ⟨b1,b2.extBut _ _ D.TIz hI',⟨_,_,b2.extBut _ _ D.TOz a2⟩,a3.but b2.extBut D.i1z,a4.but b2.extBut D.i2z⟩,fun c hc=>(hf2 c hc).1⟩
 done:=by
  intro X hP hw hK hc i pins s σ H E I hf st hg;subst hP hw hK;obtain⟨hi,q1,q2⟩:=hg;obtain⟨hz,hI,⟨a,b,hO⟩,h1,h2⟩:=st;obtain⟨its,r1,p1,_⟩:=a3Z I q1;obtain⟨jts,r2,p2,_⟩:=a3Z I q2;have D:ZipApart (n+4) (n+2) (n+3) n (n+1) l1 l2:=apart
   (fun j hj=>a5N I (hf _ (a5O n hj)) q1)
   (fun j hj=>a5N I (hf _ (a5O n hj)) q2)
  have e1:=r1.length
  have e2:=r2.length
  have hend:its.toArray[i]? =none∨jts.toArray[i]? =none:=by
   by_cases h:its.length≤i
   ·exact .inl (by simp;omega)
   ·exact .inr (by simp;omega)
  exact b6P (I.ok.hd hc) D hz hI hO h1 h2 p1 p2 hend fun h' hk=>⟨rfl,b0U (ch:=[n+4,n+3,n,n+1]) (t':=s.toks) I
   (fun c o hc e=>hk c o (fun z=>hc (by simp[z])) (fun z=>hc (by simp[z])) (fun z=>hc (by simp[z])) (fun z=>hc (by simp[z])) e)
   (fun c hc=>hf c (b0Y hc))⟩
 self:=fun _ _ _ _ _ st h=>wpAny_pyIter_zip st.1 h
theorem b6V:bootBuiltins "zip"=some (.type "zip"):=by decide+kernel
section
variable{X:Cx}{B:OA}{pos p:Pos}{a b:Expr}{ms:Mo (List D)}{elts:List Expr}{kk:Nat}{tp:Pos}
def b6W(K:Qq)(ta:TA):TI:=fun σ H R=>ta σ H fun vs H1=>∃c1 c2 l1 l2 xs ys,vs=[.ref l1,.ref l2]/\SqA c1 K H1 l1 xs/\SqA c2 K H1 l2 ys/\R (Itz K c1 c2 l1 l2 xs ys) H1
theorem b6X{ta:TA}(hg:Gl X "zip")(hm:X.mg "zip"=none)(ha:PA X [a,b] ta)(hs:starEach [a,b] X.env=[(false,eval a X.env),(false,eval b X.env)]:=by rfl)(hs2:starEach [b] X.env=[(false,eval b X.env)]:=by rfl):
  PI X (.Tuple elts kk tp) (.Call (.Name "zip" p) [a,b] [] pos) (b6W X.K ta):=by
 intro pins s σ H R I h;refine Call_ (a4s I hg hm b6V (Uw (thn (ha pos pins s σ H _ I h) fun us s1 ⟨vs,H1,I1,r1,q1⟩=>?_) (by rw[hs,hs2]) (by rw[hs2];rfl)))
 obtain⟨c1,c2,l1,l2,xs,ys,rfl,h1,h2,q⟩:=q1;obtain⟨u,v,rfl,ru,rv⟩:=a2c r1;cases ru;cases rv;obtain⟨its,r1,p1,_⟩:=a3Z I1 h1;obtain⟨jts,r2,p2,_⟩:=a3Z I1 h2;refine b6R p1 p2 fun h' a1 a2 a3 a4 a5 a6 a7=>?_
 refine wpAny_pyIter_zip a1 ?_
 refine⟨s1.heap.objs.size+4,_,_,_,H1,rfl,I1.kept (t':=s1.toks) a7,b6U c1 c2 s1.heap.objs.size l1 l2 xs ys,⟨a1,a2,⟨_,_,a3⟩,a4,a5⟩,fun c hc=>?_,q⟩
 have hle:s1.heap.objs.size≤c:=le5 hc
 exact I1.fpOk hle (I1.hok.fresh hle)
def a1A(xs ys:List D):List D:=(xs.zip ys).map fun p=>.tup [p.1,p.2]
def a1B(ms:Mo (List D)):Mo (List D):=fun env=>(ms env).bind fun p=>match p.1 with
 |[d,e]=>d.items.bind fun xs=>e.items.map fun ys=>(a1A xs ys,p.2)
 |_=>none
theorem b0Z{K:Qq}{G:Hp}{v:V}{d:D}{ds:List D}(r:Rep K G v d)(h:d.items=some ds):∃c a xs,v=.ref a/\SqA c K G a xs/\z9_ K G xs ds:=by
 cases d<;>first|(exact absurd (show(none:Option (List D))=some ds from h) (by simp))|skip
 ·cases h;simp only[Rep]at r;obtain⟨a,xs,e,q,t⟩:=r;exact⟨true,a,xs,e,q.t,t⟩
 ·cases h;simp only[Rep]at r;obtain⟨a,xs,e,q,t⟩:=r;exact⟨false,a,xs,e,q,t⟩
theorem b6Y{K:Qq}{G:Hp}{c1 c2:Bool}{l1 l2:Addr}{xs ys:List V}{ds es:List D}(h1:SqA c1 K G l1 xs)(h2:SqA c2 K G l2 ys)(r1:z9_ K G xs ds)(r2:z9_ K G ys es):ItD K (Itz K c1 c2 l1 l2 xs ys) G (a1A ds es)where
 go:=fun i H l hi=>⟨by rw[r1.length,r2.length];simpa [a1A]using hi,l.sqA h1,l.sqA h2⟩
 stop:=fun i H l hi=>⟨by rw[r1.length,r2.length];simpa [a1A]using hi,l.sqA h1,l.sqA h2⟩
 yld:=fun i H x H' d l y e=>by
  obtain⟨p,a,b,hp,rfl,rfl,ea,eb⟩:=y;obtain⟨da,e1,ra⟩:=r1.get' ea;obtain⟨db,e2,rb⟩:=r2.get' eb;have ed:d=.tup [da,db]:=by
   unfold a1A at e;rw[Yu,List.getElem?_zip_eq_some.mpr (⟨e1,e2⟩:ds[i]? =some (da,db).1/\es[i]? =some (da,db).2)]at e;cases e;rfl
  subst ed;have gp:G p=none:=by
   cases q:G p with
   |none=>rfl
   |some o=>rw[l p o q]at hp;cases hp
  exact .inr ⟨p,_,nt_tup,hp,rfl,a2T y6_ (repL_cons (Rep.mono (Le.upd gp) _ ra) (repL_cons (Rep.mono (Le.upd gp) _ rb) repL_nil))⟩
theorem b1a(hg:Gl X "zip")(hm:X.mg "zip"=none)(ha:EDs X B [a,b] ms)(hs:starEach [a,b] X.env=[(false,eval a X.env),(false,eval b X.env)]:=by rfl)(hs2:starEach [b] X.env=[(false,eval b X.env)]:=by rfl):
  EI X B (.Tuple elts kk tp) (.Call (.Name "zip" p) [a,b] [] pos) (a1B ms):=by
 refine a7c (b6X hg hm ha hs hs2) ?_
 rintro σ H R ⟨G,env,ds,env',rl,e,k⟩;obtain⟨⟨ds',env1⟩,e1,e2⟩:=q6_ e;dsimp only at e2;split at e2
 ·rename_i d1 d2
  obtain⟨xs,e3,e4⟩:=q6_ e2;obtain⟨ys,e5,e6⟩:=y5_ e4;cases e6;refine⟨G,env,_,_,rl,e1,fun vs G1 H1 ev r=>?_⟩
  obtain⟨v,w,rfl,r1,r2⟩:=a6X r;obtain⟨c1,l1,us,rfl,q1,t1⟩:=b0Z r1 e3;obtain⟨c2,l2,ws,rfl,q2,t2⟩:=b0Z r2 e5;exact⟨c1,c2,l1,l2,us,ws,rfl,ev.rel.sub.sqA q1,ev.rel.sub.sqA q2,k _ G1 H1 ev (b6Y q1 q2 t1 t2)⟩
 ·cases e2
end
def a4J{α:Type}(n:Nat)(lt:Nat->Nat->Bool):PySem.W.KasT α->Option α
 |.ret a=>some a
 |.ask i j k=>if i<n/\j<n then a4J n lt (k (lt i j))else none
theorem b1b{α:Type}{n:Nat}{lt:Nat->Nat->Bool}{cmp:Nat->Nat->(Bool->Shared->Prop)->Shared->Prop}{s:Shared}(hc:∀i j C,i<n->j<n->C (lt i j) s->cmp i j C s):
  ∀(t:PySem.W.KasT α) {Q:α->Shared->Prop}{a:α},a4J n lt t=some a->Q a s->t.kasWp cmp Q s
 |.ret a,Q,a',e,q=>by cases e;exact q
 |.ask i j k,Q,a',e,q=>by
  unfold a4J at e;split at e
  ·rename_i h
   exact hc i j _ h.1 h.2 (b1b hc (k (lt i j)) e q)
  ·cases e
def u7_(h:Heap):List Value->OI->Prop
 |[],[]=>True
 |v::vs,k::ks=>(∃a its,v=.ref a/\IsTup h a its.toArray/\IntsAre its k/\k≠[])/\u7_ h vs ks
 |_,_=>False
theorem b6Z{P:Program}{w:World}{H:Hp}{h:Heap}{a:Addr}{o:HO}(x:k1_ P w H h a o):∃ob,h.get? a=some ob:=by
 cases o with
 |lst xs=>obtain⟨_,_,_,_,e⟩:=x;exact⟨_,e⟩
 |tup xs=>obtain⟨_,_,_,ob,e,_⟩:=x;exact⟨_,e⟩
 |dK kvs=>obtain⟨_,_,_,_,o,_,_,e,_⟩:=x;exact⟨_,e⟩
 |dT C kvs=>obtain⟨_,_,_,_,o,_,_,e,_⟩:=x;exact⟨_,e⟩
 |set S n=>obtain⟨o,_,_,_,e,_⟩:=x;exact⟨_,e⟩
 |ins C dx fs=>obtain⟨_,_,_,e,_⟩:=x;exact⟨_,e⟩
 |own y=>obtain⟨_,e⟩:=x;exact⟨_,e⟩
 |xd fs=>obtain⟨_,⟨_,_,_,e,_⟩,_⟩:=x;exact⟨_,e⟩
 |rng lo hi=>obtain⟨_,_,_,e⟩:=x;exact⟨_,e⟩
 |frz ob u=>obtain⟨e,_⟩:=x;exact⟨_,e⟩
 |tbl ps=>exact⟨_,(show h.get? a=some _ from x)⟩
 |met f y=>exact⟨_,(show h.get? a=some _ from x)⟩
 |ext φ=>obtain⟨_,⟨_,e⟩,_⟩:=x;exact⟨_,e⟩
theorem u7_.mono{h h':Heap}:∀{vs:List Value}{ks:OI},u7_ h vs ks->(∀a its,IsTup h a its->IsTup h' a its)->u7_ h' vs ks
 |[],[],_,_=>trivial
 |v::vs,k::ks,⟨⟨a,its,e,t,i,n⟩,r⟩,f=>⟨⟨a,its,e,f _ _ t,i,n⟩,u7_.mono r f⟩
 |[],_::_,h,_=>h.elim
 |_::_,[],h,_=>h.elim
theorem u7_.len{h:Heap}:∀{vs:List Value}{ks:OI},u7_ h vs ks->vs.length=ks.length
 |[],[],_=>rfl
 |v::vs,k::ks,h=>by simp[u7_.len h.2]
 |[],_::_,h=>h.elim
 |_::_,[],h=>h.elim
theorem u7_.get{h:Heap}:∀{vs:List Value}{ks:OI}{i:Nat},u7_ h vs ks->i<vs.length->∃a its,vs.getD i Value.none=.ref a/\IsTup h a its.toArray/\IntsAre its (ks.getD i [])
 |v::vs,k::ks,0,⟨⟨a,its,e,t,i,n⟩,r⟩,_=>⟨a,its,by simpa using e,t,by simpa using i⟩
 |v::vs,k::ks,i+1,⟨_,r⟩,hi=>by
  obtain⟨a,its,e,t,j⟩:=u7_.get (i:=i) r (by simpa using hi)
  exact⟨a,its,by simpa using e,t,by simpa using j⟩
 |[],_,_,_,hi=>by simp at hi
 |_::_,[],_,h,_=>h.elim
theorem u7_.firsts{h:Heap}:∀{vs:List Value}{ks:OI},u7_ h vs ks->∃fs,PySem.W.KatTups h vs fs/\fs.length=vs.length/\∀v∈fs,∃i t,v=Value.int i t
 |[],[],_=>⟨[],.nil,rfl,fun _ h=>nomatch h⟩
 |_::vs,k::ks,⟨⟨a,its,rfl,⟨o,h1,h2,n,h3⟩,hi,hn⟩,r⟩=>by
  obtain⟨fs,f1,f2,f3⟩:=u7_.firsts r;cases hi with
  |nil=>exact absurd rfl hn
  |cons i t hi=>
   refine⟨.int i t::fs,.cons h1 h2 h3 (by simp) f1,by simp[f2],fun v hv=>?_⟩
   rcases Qh.mp hv with rfl|hv
   ·exact⟨i,t,rfl⟩
   ·exact f3 v hv
 |[],_::_,h=>h.elim
 |_::_,[],h=>h.elim
def a2q(fin:Bool):List Int->List Int->Bool
 |a::as,b::bs=>if a=b then a2q fin as bs else decide (a<b)
 |_,_=>fin
theorem b1c:∀(as bs:List Int),a2q (decide (as.length<bs.length)) as bs=HT.lexLt as bs
 |[],[]=>rfl
 |[],_::_=>by simp[a2q,HT.lexLt]
 |_::_,[]=>by simp[a2q,HT.lexLt]
 |a::as,b::bs=>by
  rw[HT.lexLt_cons,←b1c as bs]
  simp[a2q]
section
variable{prog:Program}{w:World}{A:Around}{s:Shared}{fin:Bool}{Q:Bool->Shared->Prop}
theorem b1d:∀{us ws:List Value}{as bs:List Int}{i:Nat},IntsAre us as->IntsAre ws bs->Q (a2q fin as bs) s->PySem.W.KatLex prog w A true fin Q (us.zip ws) i s
 |[],_,[],_,_,.nil,_,q=>q
 |_::_,[],_::_,[],_,.cons _ _ _,.nil,q=>q
 |_,_,_,_,i,.cons (vs:=us) (ns:=as) a t ha,.cons (vs:=ws) (ns:=bs) b u hb,q=>by
  refine PySem.W.kat_cons (SeqAt.EqAt.int_int a t b u prog w _ _ ?_)
  by_cases e:a=b
  ·subst e
   rw[Uy];exact PySem.W.kat_yes (b1d ha hb (by simpa [a2q]using q))
  ·have e':(a==b)=false:=by simpa using e
   rw[e'];refine PySem.W.kat_no ?_
   have q':Q (decide (a<b)) s:=by simpa [a2q,e]using q
   cases i with
   |zero=>exact oneLt_int q'
   |succ i=>exact PySem.W.kat_one _ _ (PyProof.Rows.lt_int (show PySem.W.BoolBack Q (.bool (decide (a<b))) s from q'))
end
section
variable{X:Cx}{pins:OX}{σ:St}{H:Hp}{s:Shared}
theorem b7a{h':Heap}{t':Nat}{m:OU}(I:Inv X pins σ H s)(hm:s.heap.Ns X.env.locals m)(hm':h'.Ns X.env.locals m)(k:∀b o,b≠X.env.locals->s.heap.get? b=some o->h'.get? b=some o):Inv X pins σ H {s with heap:=h',toks:=t'}:=by
 refine I.step (g':=s.gens) (d':=s.drawn) (ch:=[]) (fun _ z=>nomatch z) (fun b o hL _ _ e _=>k b o hL e) (fun b o hL _ _ e _=>⟨o.slots,k b o hL e⟩) (fun _ _ _ _ n=>n) (fun b o _ e=>?_) (fun _ _ e=>e) (fun _ _ _ e=>e) (fun b ps e=>⟨#[],by rw[e];simp⟩) (fun m2 hm2=>?_) (fun b u e=>?_) I.bare
 ·by_cases hb:b=X.env.locals
  ·subst hb
   obtain⟨o',_,_,ho,_⟩:=hm';exact⟨o',ho⟩
  ·exact⟨o,k b o hb e⟩
 ·have e:m2=m:=by
   funext x
   obtain⟨o1,es1,ep1,h1,h2,_,h3⟩:=hm;obtain⟨o2,es2,ep2,g1,g2,_,g3⟩:=hm2;rw[h1]at g1;cases g1;rw[h2]at g2;injection g2 with g4 _
   subst g4;rw[←h3,←g3]
  rw[e];exact hm'
 ·refine(I.hok b u e).stay (fun c v hc q=>k c v ?_ q) (fun _ q=>q) fun _ _ q=>q
  rcases hc with z|z
  ·rw[z];intro z2;rw[z2,I.free]at e;cases e
  ·intro z2;rw[z2,I.free]at z;cases z
theorem b1e{p:Addr}(I:Inv X pins σ H s)(np:∀b u,s.heap.get? b=some u->b≠p):H p=none:=by
 cases e:H p with
 |none=>rfl
 |some o=>
  obtain⟨ob,q⟩:=b6Z (I.hok p o e);exact absurd rfl (np p ob q)
theorem b7b{h':Heap}{t' n:Nat}{m:OU}{p:Addr}{ys:List V}{its:List Value}(I:Inv X pins σ H s)(hm:s.heap.Ns X.env.locals m)(hm':h'.Ns X.env.locals m)(k:∀b o,b≠X.env.locals->s.heap.get? b=some o->h'.get? b=some o)
  (np:∀b u,s.heap.get? b=some u->b≠p)(hv:q5_ ys its)(hz:ys.length≤sizeLine)(hn:h'.get? p=some {cls:=.type "list",data:=.seq its.toArray n}):Inv X pins σ (upd H p (.lst ys)) {s with heap:=h',toks:=t'}:=by
 have I1:Inv X pins σ H {s with heap:=h',toks:=t'}:=b7a I hm hm' k
 have hf:H p=none:=b1e I np
 refine I.step (g':=s.gens) (d':=s.drawn) (ch:=[]) (fun _ z=>nomatch z) (fun b o hL _ _ e _=>k b o hL e) (fun b o hL _ _ e _=>⟨o.slots,k b o hL e⟩) (fun b o _ e n=>by rw[q4_ (np b o e)];exact n) (fun b o _ e=>?_) (fun b xs q=>by rw[q4_ (j3_ q hf)];exact q) (fun b u xs q=>by rw[q4_ (j3_ q hf)];exact q) (fun b ps e=>⟨#[],by rw[q4_ (j3_ e hf),e];simp⟩) (fun m2 hm2=>?_) (fun b u e=>?_) I.bare
 ·by_cases hb:b=X.env.locals
  ·subst hb
   obtain⟨o',_,_,ho,_⟩:=hm';exact⟨o',ho⟩
  ·exact⟨o,k b o hb e⟩
 ·have e:m2=m:=by
   funext x
   obtain⟨o1,es1,ep1,h1,h2,_,h3⟩:=hm;obtain⟨o2,es2,ep2,g1,g2,_,g3⟩:=hm2;rw[h1]at g1;cases g1;rw[h2]at g2;injection g2 with g4 _
   subst g4;rw[←h3,←g3]
  rw[e];exact hm'
 ·by_cases hb:b=p
  ·subst hb
   rw[y6_]at e;cases e;exact⟨hz,its,n,hv,hn⟩
  ·rw[q4_ hb]at e
   exact(I1.hok b u e).stay (fun c v hc q=>q) (fun c q=>by rw[q4_ (j3_ q hf)];exact q) fun c xs q=>by rw[q4_ (j3_ q hf)];exact q
def keys(ds:List D):Option (OI):=ds.mapM fun d=>match d with
 |.tup es=>(ints? es).bind fun ns=>if ns.isEmpty then none else some ns
 |_=>none
def b1f(ks:OI):Option (List Nat):=if ks.length<2 then some (List.range ks.length)else if ks.length<64 then
 (a4J ks.length (fun i j=>HT.lexLt (ks.getD i []) (ks.getD j [])) (PySem.W.kas_sort ks.length)).bind fun p=>if p.toList.length≤1000 then some p.toList else none else none
def a7v(ds:List D):Option (List D):=(keys ds).bind fun ks=>(b1f ks).bind fun p=>p.mapM fun i=>ds[i]?
theorem b7c{l:Addr}{vs:List Value}{ks:OI}{p:Array Nat}{Q:OE}{E:OE}(I:Inv X pins σ H s)(hl:s.heap.IsList l vs.toArray)(ht:u7_ s.heap vs ks)(h2:2≤vs.length)(h64:vs.length<64)
  (hp:a4J vs.length (fun i j=>HT.lexLt (ks.getD i []) (ks.getD j [])) (PySem.W.kas_sort vs.length)=some p)
  (h:∀D c h' m,(∀b u,s.heap.get? b=some u->b≠D)->s.heap.Ns X.env.locals m->h'.Ns X.env.locals m->(∀b o,b≠X.env.locals->s.heap.get? b=some o->h'.get? b=some o)->
   h'.get? D=some {cls:=.type "list",data:=.seq (p.toList.map fun i=>vs.getD i Value.none).toArray c}->Q (.ref D) {s with heap:=h'}):
  wpAny (model X.prog X.w) X.A (call (.builtin "sorted") [.ref l]) Q E s:=by
 obtain⟨m,F⟩:=I.fr;have hm:s.heap.Ns X.env.locals m:=F.ns;have hbk:=I.bk;have keepOf:∀{h':Heap}{pre:OX},Fr X.base X.env.locals h' m->News X.base X.env.locals h' (pre++a4q X.base s.heap X.env.locals)->∀b o,b≠X.env.locals->s.heap.get? b=some o->h'.get? b=some o:=fun{h' pre} F' N' b o hL e=>by
  cases q:X.base.get? b with
  |some u=>
   have:=hbk b u q;rw[e]at this;cases this;exact F'.keep b _ q
  |none=>exact(N' (b,o) (Zu _ (a9A hL q e))).1
 have tl:∀{h':Heap},(∀b o,b≠X.env.locals->s.heap.get? b=some o->h'.get? b=some o)->∀a its,IsTup s.heap a its->IsTup h' a its:=fun{h'} k a its ⟨o,e,c,r⟩=>by
  refine⟨o,k a o ?_ e,c,r⟩;intro z;subst z;obtain⟨o',es,ep,g1,g2,_⟩:=hm;rw[e]at g1;cases g1;obtain⟨n,r⟩:=r;rw[g2]at r;cases r
 refine PySem.W.kat_sorted F a9B hl h2 h64 fun D e1 h' F' N' hD=>?_
 have k1:=keepOf (pre:=[(D,seqObj "list" #[] e1)]) F' N'
 have t1:u7_ h' vs ks:=ht.mono (tl k1)
 obtain⟨fs,f1,f2,f3⟩:=t1.firsts;refine PySem.W.kat_kind (s:={s with heap:=h'}) (T:=.type "int") f1 (by omega) (fun v hv=>?_) (by decide) ?_
 ·obtain⟨i,t,rfl⟩:=f3 v hv
  exact PySem.W.Looks.of_pure rfl
 ·have hDs:∀b o,s.heap.get? b=some o->b≠D:=fun b o e z=>by
   subst z
   by_cases hL:b=X.env.locals
   ·have:=(N' (b,seqObj "list" #[] e1) (Yx ..)).2.1
    exact this hL
   ·cases q:X.base.get? b with
    |some u=>
     have:=(N' (b,seqObj "list" #[] e1) (Yx ..)).2.2;simp only at this;rw[q]at this;cases this
    |none=>exact absurd (hD (b,o) (a9A hL q e)) (Yh _)
  refine b1b (s:={s with heap:=h'}) (lt:=fun i j=>HT.lexLt (ks.getD i []) (ks.getD j [])) (fun i j C hi hj hc=>?_) _ hp ?_
  ·obtain⟨a,its,ea,⟨oa,p1,_,na,p2⟩,ia⟩:=t1.get hi
   obtain⟨b,jts,eb,⟨ob,q1,_,nb,q2⟩,ib⟩:=t1.get hj;unfold PySem.W.kas_ask;rw[ea,eb];have hb:(Value.type "int" !=Value.type "tuple")=true:=by decide
   rw[hb];refine PySem.W.kat_lt (s:={s with heap:=h'}) p1 p2 q1 q2 ?_
   have la:=ia.length
   have lb:=ib.length
   refine b1d ia ib ?_
   have e:decide (its.toArray.size<jts.toArray.size)=decide ((ks.getD i []).length<(ks.getD j []).length):=by
    rw[Qp,Qp,la,lb]
   rw[e,b1c];exact hc
  ·refine PySem.W.KasFin.intro (s:={s with heap:=h'}) F' N' (.head fun q hq=>?_) fun h2' c F2 N2=>?_
   ·exact hDs q.1 q.2 (a9B q hq).1
   ·have k2:=keepOf (pre:=[(D,PySem.W.listOf (List.toArray (p.toList.map fun i=>vs.getD i Value.none)) c)]) F2 N2
    exact h D c h2' m hDs hm F2.ns k2 (N2 _ (Yx ..)).1
theorem b7d{l:Addr}{vs:List Value}{Q:OE}{E:OE}(I:Inv X pins σ H s)(hl:s.heap.IsList l vs.toArray)(h2:vs.length<2)
  (h:∀D c h' m,(∀b u,s.heap.get? b=some u->b≠D)->s.heap.Ns X.env.locals m->h'.Ns X.env.locals m->(∀b o,b≠X.env.locals->s.heap.get? b=some o->h'.get? b=some o)->
   h'.get? D=some {cls:=.type "list",data:=.seq vs.toArray c}->Q (.ref D) {s with heap:=h'}):
  wpAny (model X.prog X.w) X.A (call (.builtin "sorted") [.ref l]) Q E s:=by
 obtain⟨m,F⟩:=I.fr;have hm:s.heap.Ns X.env.locals m:=F.ns;refine Calls.call_function_entry kind_sorted plain_sorted entry_sorted (args_sorted1 _) ?_
 unfold Builtin.«sorted»;refine Qz (m:=checkCount "sorted" 1 1 _) (Qv (Qz (collect_list hl ?_ (by rw[Jd];omega))))
 refine Qz (wpAny_newList ?_ (by rw[Jd];omega))
 have hsz:((s.heap.push (seqObj "list" #[] 0)).update s.heap.objs.size (Obj.mapSeq (· ++vs.toArray))).objs.size=s.heap.objs.size+1:=by rw[Heap.size_update,size_push']
 generalize eg:((s.heap.push (seqObj "list" #[] 0)).update s.heap.objs.size (Obj.mapSeq (· ++vs.toArray)))=g1 at hsz
 have k1:∀b o,s.heap.get? b=some o->g1.get? b=some o:=fun b o q=>by
  have hlt:b<s.heap.objs.size:=Qu q
  rw[←eg,Vf _ _ _ _ (Qr hlt),Heap.get?_push_ne _ _ _ (Qr hlt)];exact q
 generalize eg2:g1.push (seqObj "list" vs.toArray 0)=g2;have hg2:({cls:=.type "list",data:=.seq vs.toArray}:Obj)=seqObj "list" vs.toArray 0:=rfl;show wpAny _ _ _ _ _ {s with heap:=g2}
 dsimp only;rw[hsz];have k2:∀b o,s.heap.get? b=some o->g2.get? b=some o:=fun b o q=>by rw[←eg2];exact Qj _ (k1 b o q)
 have hD:g2.get? (s.heap.objs.size+1)=some (seqObj "list" vs.toArray 0):=by rw[←eg2,←hsz];exact Qn _ rfl
 have hs2:g2.objs.size=s.heap.objs.size+2:=by rw[←eg2,size_push',hsz]
 refine Qz (Jh (Ys slot_list_sort ⟨_,hD,rfl⟩ entry_list_sort ?_ (args_list_sort _)));rw[list_sort_plain];refine Qz (listItems_at hD rfl (Qz (listUpdate_at hD rfl ?_ (by rw[Qp,Jd];omega) (Ub _))))
 obtain⟨e1,ho1⟩:∃e1,(g2.update (s.heap.objs.size+1) (Obj.mapSeq fun _=>#[])).get? (s.heap.objs.size+1)=some (seqObj "list" #[] e1):=⟨_,get?_update_seq hD fun _=>#[]⟩
 refine Qz (seqEpoch_at ho1 rfl (Qz (wpAny_newTuple (Qz (wpAny_newList (Jh ?_) (by rw[Jd];simp))) (by rw[Jd];simp;omega))))
 generalize eg3:(g2.update (s.heap.objs.size+1) (Obj.mapSeq fun _=>#[]))=g3 at ho1 ⊢
 have hs3:g3.objs.size=s.heap.objs.size+2:=by rw[←eg3,Heap.size_update];exact hs2
 have k3:∀b o,s.heap.get? b=some o->g3.get? b=some o:=fun b o q=>by
  rw[←eg3,Vf _ _ _ _ (Qr (Jm (Qu q)))];exact k2 b o q
 generalize eg4:(g3.push {cls:=.type "tuple",data:=.seq vs.toArray}).push {cls:=.type "list",data:=.seq #[]}=g4;have up4:∀b o,g3.get? b=some o->g4.get? b=some o:=fun b o q=>by rw[←eg4];exact Qj _ (Qj _ q)
 have ho4:g4.get? (s.heap.objs.size+1)=some (seqObj "list" #[] e1):=up4 _ _ ho1
 dsimp only;have hlt2:vs.toArray.size<2:=by simpa using h2
 rw[Qc hlt2,Qc hlt2];refine Qz (Qv ?_);rw[StateT.run_pure];refine Qz (Qv ?_);dsimp only;have ez:Array.map (fun(x:Keyed)=>x.snd) (arrOf (SortSt.mk' general' (vs.toArray.zip vs.toArray) #[] 7 none))=vs.toArray:=by
  show Array.map (fun(x:Keyed)=>x.snd) (vs.toArray.zip vs.toArray)=vs.toArray
  apply Array.toList_inj.mp
  rw[Array.toList_map,Array.toList_zip];exact List.map_snd_zip (Qb _)
 rw[ez];refine Qz (seqEpoch_at ho4 rfl (Qz (listUpdate_at ho4 rfl ?_ (by rw[Jd];simp) (by rw[Qp,Jd];omega))))
 rw[Ql (by simp)]
 have ho5:=get?_update_seq ho4 fun _=>vs.toArray
 refine Qv ⟨_,rfl,Qv ⟨_,rfl,?_⟩⟩;have k5:∀b o,s.heap.get? b=some o->(g4.update (s.heap.objs.size+1) (Obj.mapSeq fun _=>vs.toArray)).get? b=some o:=fun b o q=>by
  rw[Vf _ _ _ _ (Qr (Jm (Qu q)))];exact up4 b o (k3 b o q)
 obtain⟨ol,es,ep,q1,q2⟩:=id hm;exact h (s.heap.objs.size+1) _ _ m (fun b u q=>Qr (Jm (Qu q))) hm ⟨ol,es,ep,k5 _ _ q1,q2⟩ (fun b o _ q=>k5 b o q) ho5
end
section
variable{X:Cx}{B:OA}
theorem b1g{K:Qq}{G:Hp}:∀{es:List D}{xs:List V}{us:List Value}{ns:List Int},z9_ K G xs es->q5_ xs us->ints? es=some ns->IntsAre us ns
 |[],_,us,ns,r,v,e=>by simp only[z9_]at r;subst r;cases v;cases e;exact .nil
 |d::es,_,us,ns,r,v,e=>by
  simp only[z9_]at r;obtain⟨x,t,rfl,q,r⟩:=r;cases d<;>first|(exact absurd (show(none:Option (List Int))=some ns from e) (by simp))|skip
  obtain⟨l,e1,e2⟩:=y5_ (show(ints? es).map _=some ns from e)
  subst e2;simp only[Rep]at q;subst q;cases v with
  |cons v1 v2=>
   obtain⟨tk,rfl⟩:=v1;exact .cons _ _ (b1g r v2 e1)
theorem b1h{pins:OX}{σ:St}{G H:Hp}{s:Shared}(I:Inv X pins σ H s)(l:Le G H):∀{ds:List D}{xs:List V}{us:List Value}{ks:OI},z9_ X.K G xs ds->q5_ xs us->keys ds=some ks->u7_ s.heap us ks
 |[],_,us,ks,r,v,e=>by simp only[z9_]at r;subst r;cases v;cases e;trivial
 |d::ds,_,us,ks,r,v,e=>by
  simp only[z9_]at r;obtain⟨x,t,rfl,q,r⟩:=r;unfold keys at e;rw[List.mapM_cons]at e;obtain⟨k,e1,e2⟩:=q6_ e;obtain⟨ks',e3,e4⟩:=q6_ e2;cases e4;cases v with
  |cons v1 v2=>
   refine⟨?_,b1h I l r v2 e3⟩;split at e1
   ·rename_i es
    obtain⟨ns,e5,e6⟩:=q6_ e1;split at e6
    ·cases e6
    ·rename_i hne
     cases e6;simp only[Rep]at q;obtain⟨a,ys,rfl,q1,q2⟩:=q;cases v1;obtain⟨its,rv,p,_⟩:=I.tuple (l.sqT q1);exact⟨a,its,rfl,p,b1g q2 rv e5,fun z=>hne (by rw[z];rfl)⟩
   ·cases e1
theorem b1i{K:Qq}{G:Hp}{ds:List D}{xs:List V}{us:List Value}(r:z9_ K G xs ds)(v:q5_ xs us):∀{p:List Nat}{es:List D},(p.mapM fun i=>ds[i]?)=some es->∃ys,q5_ ys (p.map fun i=>us.getD i Value.none)/\z9_ K G ys es
 |[],es,e=>by cases e;exact⟨[],.nil,repL_nil⟩
 |i::p,es,e=>by
  rw[List.mapM_cons]at e;obtain⟨d,e1,e2⟩:=q6_ e;obtain⟨es',e3,e4⟩:=q6_ e2;cases e4;obtain⟨ys,h1,h2⟩:=b1i r v e3;obtain⟨x,g1,g2⟩:=r.get e1;obtain⟨u,g3,g4⟩:=v.get g1;refine⟨x::ys,?_,repL_cons g2 h2⟩;rw[Qs];have:us.getD i Value.none=u:=by simp[g3]
  rw[this];exact .cons g4 h1
theorem b7e:w1_ X (.builtin "sorted") (fun xs H Q=>∃p G ys ds es,xs=[.ref p]/\Le G H/\SqL X.K G p ys/\z9_ X.K G ys ds/\a7v ds=some es/\∀l zs,H l=none->z9_ X.K G zs es->Q (.ref l) (upd H l (.lst zs))):=by
 intro pins s σ H xs us Q I r h;obtain⟨p,G,ys,ds,es,rfl,l,hq,rp,es',q⟩:=h;obtain⟨u,rfl,rx⟩:=a1v r;cases rx;obtain⟨vs,rv,pl,hz⟩:=I.list (l.sqL hq);obtain⟨ks,e1,e2⟩:=q6_ es';obtain⟨pm,e3,e4⟩:=q6_ e2;have ht:u7_ s.heap vs ks:=b1h I l rp rv e1;have hlen:=ht.len;have hlen2:vs.length=ds.length:=by rw[←rv.length,rp.length]
 obtain⟨zs,h1,h2⟩:=b1i rp rv e4;have fin:∀(D:Addr) (c:Nat) (h':Heap) (m:OU),(∀b u,s.heap.get? b=some u->b≠D)->s.heap.Ns X.env.locals m->h'.Ns X.env.locals m->(∀b o,b≠X.env.locals->s.heap.get? b=some o->h'.get? b=some o)->
   h'.get? D=some {cls:=.type "list",data:=.seq (pm.map fun i=>vs.getD i Value.none).toArray c}->pm.length≤1000->EP X pins σ Q (.ref D) {s with heap:=h'}:=fun D c h' m a1 a2 a3 a4 a5 hpl=>by
  have hzl:zs.length≤sizeLine:=by
   have:=h1.length;rw[Qk]at this;rw[this];exact Jj (a3O hpl)
  exact⟨.ref D,_,b7b (t':=s.toks) I a2 a3 a4 a1 h1 hzl a5,rfl,q D zs (b1e I a1) h2⟩
 unfold b1f at e3;split at e3
 ·rename_i hn
  cases e3;refine b7d I pl.isList (by omega) fun D c h' m a1 a2 a3 a4 a5=>fin D c h' m a1 a2 a3 a4 ?_ (by simp;omega)
  have:((List.range ks.length).map fun i=>vs.getD i Value.none)=vs:=by
   apply Vx
   ·simp[hlen]
   ·intro i h1 h2
    simp[h2]
  rw[this];exact a5
 ·rename_i hn
  split at e3
  ·rename_i h64
   obtain⟨pa,e5,e6⟩:=q6_ e3;split at e6
   case isFalse=>cases e6
   rename_i hpl;cases e6;refine b7c (p:=pa) I pl.isList ht (by omega) (by omega) (by rw[hlen];exact e5) fun D c h' m a1 a2 a3 a4 a5=>fin D c h' m a1 a2 a3 a4 a5 hpl
  ·cases e3
end
section
variable{X:Cx}{B:OA}{pos:Pos}
theorem b7f{pins:OX}{σ:St}{H:Hp}{s:Shared}(I:Inv X pins σ H s):sysModules<s.heap.objs.size:=by
 have h:mainGlobals<s.heap.objs.size:=(I.mod.glob.keeps I.bk).lt
 exact Vu (by decide) h
theorem b7g:PE X (.Dict [] [] pos) (fun _ H Q=>∀p,H p=none->Q (.ref p) (upd H p (.dK []))):=fun pins s σ H Q I h=>
 wpAny_Dict_empty ⟨.ref s.heap.objs.size,_,I.laid (a:=s.heap.objs.size) (o:=.dK []) (t':=s.toks) (fun _ _ q=>Qj _ q) (Qb _)
  ⟨Ub _,Jw.mpr (Zy (Qr (b7f I))),[],.nil,Heap.DictOf.new s.heap⟩,rfl,h _ (I.hok.fresh (Qb _))⟩
theorem b7h:ED X B (.Dict [] [] pos) (mC .emp):=by
 refine pe_imp b7g ?_
 rintro σ H Q ⟨G,env,d,env',rl,e,k⟩;cases e;exact fun p hp=>k _ _ _ (rl.alloc hp) (by simp only[Rep];exact⟨p,[],rfl,y6_⟩)
end
section
variable{X:Cx}{B:OA}{pos p:Pos}{e:Expr}{es:List Expr}{as:Mo (List Ar)}{fn:Fn}{k n:Nat}{f:Addr}{fd:FuncData}{ps:List Str}{x:Str}
structure Def(P:Program)(w:World)(K:Qq)(mg:OU)(base:Heap)(x:Str)(k n:Nat)(fn:Fn):Prop where
 ex:∃(f:Addr) (fd:FuncData) (ps:List Str),FnOk P w K mg base CX0 k f fd ps (SpF K n fn)/\ps.length=n/\mg x=some (.ref f)/\PySem.W.keepIn K (.ref f)=true/\a0j K fd ps []
theorem y1_(D:Def X.prog X.w X.K X.mg X.base x k n fn)(hr:Room k X.A)(hg:Gl X x)(ha:EAr X B (e::es) as)(hdb:(x==("__debug__":Str))=false:=by decide)
  (he:starEach (e::es) X.env=(false,eval e X.env)::starEach es X.env:=by rfl)(hpl:(backTo pos (starEach es X.env)).any (·.1)=false:=by rfl):
  ED X B (.Call (.Name x p) (e::es) [] pos) (mCD n fn as):=by
 obtain⟨f,fd,ps,F,rfl,hm,hk,hb⟩:=D.ex;exact b6c F hr hg hm hk hb ha hdb he hpl
theorem b1j(D:Def X.prog X.w X.K X.mg X.base x k n fn)(hr:Room k X.A)(hg:Gl X x)(ha:EAr X B (e::es) as)(hdb:(x==("__debug__":Str))=false:=by decide)
  (he:starEach (e::es) X.env=(false,eval e X.env)::starEach es X.env:=by rfl)(hpl:(backTo pos (starEach es X.env)).any (·.1)=false:=by rfl):
  EL X B (.Call (.Name x p) (e::es) [] pos) (u3_ n fn as):=by
 obtain⟨f,fd,ps,F,rfl,hm,hk,hb⟩:=D.ex;exact b6d F hr hg hm hk hb ha hdb he hpl
def a2r:Option NameKind->Option NameKind->Bool:=fun a b=>decide (a=b)
def b1k(outN N':List Str)(outNames:List (Str×NameKind))(cells:List (Str×Addr))(scope:Scope)(keep:List Bool)(more:Nat):Bool:=
 (decide (scope.kind=.function)&&(scope.names.all (fun y=>a2r (scope.names.lookup y.1) (some y.2))&&(scope.names.all (fun y=>!a2r (some y.2) (some .free)||(cells.lookup y.1).isSome)&&(decide (keep.length=outN.length)&&(decide (N'.length=outN.length+more)&&
  (List.range keep.length).all fun i=>!(keep.getD i false)||match N'[i]?,outN[i]? with
   |some x,some y=>decide (x=y)&&(!a2r (scope.names.lookup x) (some .local)&&(!a2r (scope.names.lookup x) (some .cell)&&(!a2r (scope.names.lookup x) (some .free)||(a2r (outNames.lookup x) (some .cell)||a2r (outNames.lookup x) (some .free)))))
   |_,_=>false)))))
theorem a0c{N':List Str}{scope:Scope}{keep:List Bool}{more:Nat}(c:closureFor scope X.env=pure (g6_ X.env.cells scope.names []))(h:b1k X.N N' X.env.scope.names X.env.cells scope keep more=true):CompOk X N' scope keep more:=by
 unfold b1k at h;simp only[Qy,Zd,Qw,a2r]at h;obtain⟨h1,h2,h3,h4,h5,h6⟩:=h;have gt:∀(i:Nat) (x:Str),keep[i]? =some true->N'[i]? =some x->∃y,X.N[i]? =some y/\x=y/\ ¬ (scope.names.lookup x=some .local)/\ ¬ (scope.names.lookup x=some .cell)/\(scope.names.lookup x=some .free->X.env.scope.names.lookup x=some .cell∨X.env.scope.names.lookup x=some .free):=fun i x e1 e2=>by
  have hi:i<keep.length:=(Qg.mp e1).1
  have q:=h6 i (Yq.mpr hi)
  have e3:keep.getD i false=true:=by simp[e1]
  rw[e3,e2]at q;cases e4:X.N[i]? with
  |none=>rw[e4]at q;simp at q
  |some y=>
   rw[e4]at q;simp only[Bool.not_true,Bool.false_or,Qy,Zd,Vt,decide_eq_false_iff_not,Xx]at q;obtain⟨q1,q2,q3,q4⟩:=q;exact⟨y,rfl,q1,q2,q3,fun z=>q4.elim (fun n=>absurd z n) id⟩
 refine⟨h1,h2,c,fun y hy hf=>?_,h4,h5,fun i x e1 e2=>?_,fun i x e1 e2 e3=>?_⟩
 ·have q:=h3 y hy
  rw[hf]at q
  simpa using q
 ·obtain⟨y,g1,g2,g3,g4,_⟩:=gt i x e1 e2
  exact⟨by rw[g1,g2],g3,g4⟩
 ·have hi:i<keep.length:=(Qg.mp e1).1
  have hN:i<N'.length:=by omega
  obtain⟨y,g1,g2,g3,g4,g5⟩:=gt i _ e1 (Zw hN);rw[e2]at g1;cases g1;rw[g2]at g5;exact g5 e3
end
section
variable{X:Cx}{B:OA}{pos:Pos}
theorem b7i{x:Str}{i:Int}(hg:Gl X x)(hm:∃t,X.mg x=some (.int i t))(hd:(x==("__debug__":Str))=false:=by decide):ED X B (.Name x pos) (mC (.int i)):=by
 obtain⟨t,hm⟩:=hm;exact b5J hg hm hd
def Kp(i:Nat)(m:Mo D):Prop:=∀env d env' w ds,m env=some (d,env')->env'[i]? =some w->w.mut=some ds->∃w0 ds0,env[i]? =some w0/\w0.mut=some ds0
theorem a3i{i:Nat}{d:D}:Kp i (mC d):=fun env d' env' w ds e h1 h2=>by cases e;exact⟨w,ds,h1,h2⟩
theorem b1l{i j:Nat}(hj:j≠i):Kp i (z0_ j):=fun env d' env' w ds e h1 h2=>by
 unfold z0_ at e;split at e
 ·cases e;exact⟨w,ds,h1,h2⟩
 ·cases e
  rw[Qm hj]at h1;exact⟨w,ds,h1,h2⟩
 ·cases e
  rw[Qm hj]at h1;exact⟨w,ds,h1,h2⟩
 ·cases e
theorem a7w:bootBuiltins "int"=some (.type "int"):=by decide+kernel
theorem a5P:bootBuiltins "bool"=some (.type "bool"):=by decide+kernel
theorem b7j:bootBuiltins "str"=some (.type "str"):=by decide+kernel
theorem a0o:bootBuiltins "tuple"=some (.type "tuple"):=by decide+kernel
theorem a4a:bootBuiltins "list"=some (.type "list"):=by decide+kernel
theorem a4K:bootBuiltins "all"=some (.builtin "all"):=by decide+kernel
theorem b7k:bootBuiltins "max"=some (.builtin "max"):=by decide+kernel
theorem b7l:bootBuiltins "min"=some (.builtin "min"):=by decide+kernel
theorem b7m:bootBuiltins "sorted"=some (.builtin "sorted"):=by decide+kernel
end
theorem a5Q{K:Qq}{G:Hp}:∀ns:List Int,z9_ K G (ns.map V.int) (ns.map D.int)
 |[]=>repL_nil
 |n::ns=>repL_cons (by simp only[Rep]) (a5Q ns)
def a4L:Expr->Bool
 |.Starred _ _=>true
 |_=>false
theorem z2_{e:Expr}{es:List Expr}{env:Env}(h:a4L e=false):starEach (e::es) env=(false,eval e env)::starEach es env:=by
 cases e<;>first|rfl|cases h
theorem se1{a:Expr}{env:Env}(h:a4L a=false):starEach [a] env=[(false,eval a env)]:=by rw[z2_ h];rfl
theorem se2{a b:Expr}{env:Env}(h:a4L a=false)(h2:a4L b=false):starEach [a,b] env=[(false,eval a env),(false,eval b env)]:=by rw[z2_ h,se1 h2]
theorem q3_{pos:Pos}{env:Env}:∀{es:List Expr},es.all (fun e=>!a4L e)=true->(backTo pos (starEach es env)).any (·.1)=false
 |[],_=>rfl
 |e::es,h=>by
  rw[Up,Qy,Vt]at h;rw[z2_ h.1];show(false||(backTo pos (starEach es env)).any (·.1))=false
  rw[q3_ h.2];rfl
theorem y9_{m n:Mo Fl}{e e1:Env'}(h:m e=some (.nx,e1)):q2_ m n e=n e1:=by unfold q2_;rw[h];rfl
theorem a0I{m n:Mo Fl}{e e1:Env'}{d:D}(h:m e=some (.ret d,e1)):q2_ m n e=some (.ret d,e1):=by unfold q2_;rw[h];rfl
theorem a0Y{t:Mo Bool}{m n:Mo Fl}{e e1:Env'}(h:t e=some (true,e1)):y3_ t m n e=m e1:=by unfold y3_;rw[h];rfl
theorem a0w{t:Mo Bool}{m n:Mo Fl}{e e1:Env'}(h:t e=some (false,e1)):y3_ t m n e=n e1:=by unfold y3_;rw[h];rfl
theorem a7x{g:OZ}{m:Mo D}{P:Env'->Prop}{f:D->D}:∀{ds:List D}{env:Env'},(∀d∈ds,∀e,P e->∃e1 e2,g d e=some e1/\m e1=some (f d,e2)/\P e2)->P env->
  ∃env',j1_ g x3_ m ds env=some (ds.map f,env')/\P env'
 |[],env,_,p=>⟨env,rfl,p⟩
 |d::ds,env,h,p=>by
  obtain⟨e1,e2,h1,h2,h3⟩:=h d (by simp) env p
  obtain⟨e3,h4,h5⟩:=a7x (ds:=ds) (fun x hx=>h x (by simp[hx])) h3
  refine⟨e3,?_,h5⟩;unfold j1_;rw[h1];simp only[Qx,x3_,Zs];rw[h2];simp only[Qx];rw[h4];rfl
theorem a7y{g:OZ}{b:Mo Fl}{P:Env'->Prop}:∀{ds:List D}{env:Env'},(∀d∈ds,∀e,P e->∃e1 e2,g d e=some e1/\b e1=some (.nx,e2)/\P e2)->P env->∃env',loop g b ds env=some (.nx,env')/\P env'
 |[],env,_,p=>⟨env,rfl,p⟩
 |d::ds,env,h,p=>by
  obtain⟨e1,e2,h1,h2,h3⟩:=h d (by simp) env p
  obtain⟨e3,h4,h5⟩:=a7y (ds:=ds) (fun x hx=>h x (by simp[hx])) h3
  refine⟨e3,?_,h5⟩;unfold loop;rw[h1];simp only[Qx];rw[h2];exact h4
theorem a4b{α:Type}(f:α->Bool):∀l:List α,a0H (l.map fun x=>D.bl (f x))=some (l.all f)
 |[]=>rfl
 |x::l=>by simp[a0H,a4b f l]
theorem w3_{N:Nat}{mb:Mo Fl}{ws env:List W}{d:D}(h:mb (ws++List.replicate (N-ws.length) .nil)=some (.ret d,env)):fnM N mb ws=some (.d d,a0F ws env):=by unfold fnM;rw[h]
theorem b1m{N:Nat}{mb:Mo Fl}{ws env:List W}{d:List D}(h:mb (ws++List.replicate (N-ws.length) .nil)=some (.retL d,env)):fnM N mb ws=some (.l d,a0F ws env):=by unfold fnM;rw[h]
def stop(b:Bool)(d:D):Fl:=if b then .nx else .ret d
theorem a7z{g:OZ}{b:Mo Fl}{P:Env'->Prop}{ok:D->Bool}{r:D}:∀{ds:List D}{env:Env'},(∀d∈ds,∀e,P e->∃e1 e2,g d e=some e1/\b e1=some (stop (ok d) r,e2)/\P e2)->P env->∃env',loop g b ds env=some (stop (ds.all ok) r,env')/\P env'
 |[],env,_,p=>⟨env,rfl,p⟩
 |d::ds,env,h,p=>by
  obtain⟨e1,e2,h1,h2,h3⟩:=h d (by simp) env p
  by_cases hk:ok d=true
  ·obtain⟨e3,h4,h5⟩:=a7z (ds:=ds) (fun x hx=>h x (by simp[hx])) h3
   refine⟨e3,?_,h5⟩;unfold loop;rw[h1];simp only[Qx];rw[h2,hk,Up,hk,Ze];exact h4
  ·have hk':ok d=false:=by simpa using hk
   refine⟨e2,?_,h3⟩;unfold loop;rw[h1];simp only[Qx];rw[h2,hk',Up,hk',Jr];rfl
theorem a2s{mi:Mo (List D)}{keep:List Bool}{more:Nat}{g:OZ}{t:Mo Bool}{m:Mo D}{env e1 e2 e3:Env'}{ds r:List D}(h:mi env=some (ds,e1))(hl:ds.length≤100000)(hc:j1_ g t m ds (j9_ keep more e1)=some (r,e2))(ho:g0_ keep e1 e2=some e3):
  y7_ mi keep more g t m env=some (r,e3):=by
 unfold y7_;rw[h];show(if ds.length≤100000 then(j1_ g t m ds (j9_ keep more e1)).bind _ else none)=_
 rw[Qc hl,hc];show(g0_ keep e1 e2).map _=_;rw[ho];rfl
theorem a4M{ms:Mo (List D)}{env e1:Env'}{j:Int}(h:ms env=some ([.int j],e1))(h1: -1000000<j)(h2:j<1000000):j4_ ms env=some (a0l 0 j.toNat,e1):=by
 unfold j4_;rw[h];exact Qc ⟨h1,h2⟩
theorem a0J{f:List D->Option D}{ms:Mo (List D)}{env e1:Env'}{ds:List D}{d:D}(h:ms env=some (ds,e1))(hf:f ds=some d):mCB f ms env=some (d,e1):=by unfold mCB;rw[h];show(f ds).map _=_;rw[hf];rfl
theorem y2_{m:Mo D}{ms:Mo (List D)}{env e1 e2:Env'}{d:D}{ds:List D}(h:m env=some (d,e1))(h2:ms e1=some (ds,e2)):z1_ m ms env=some (d::ds,e2):=by unfold z1_;rw[h];show(ms e1).map _=_;rw[h2];rfl
theorem a3j{m:Mo D}{ms:Mo (List Ar)}{env e1 e2:Env'}{d:D}{ds:List Ar}(h:m env=some (d,e1))(h2:ms e1=some (ds,e2)):z7_ m ms env=some (.d d::ds,e2):=by unfold z7_;rw[h];show(ms e1).map _=_;rw[h2];rfl
theorem a0i{m:Mo (List D)}{env e1:Env'}{ds:List D}(h:m env=some (ds,e1)):mF m env=some (.lst ds,e1):=by unfold mF;rw[h];rfl
theorem a3k{m:Mo D}{env e1:Env'}{d:D}{ds:List D}(h:m env=some (d,e1))(hd:d.items=some ds):x2_ m env=some (ds,e1):=by unfold x2_;rw[h];show d.items.map _=_;rw[hd];rfl
theorem v6_{f:D->D->Option D}{ma mb:Mo D}{env e1 e2:Env'}{a b c:D}(h1:ma env=some (a,e1))(h2:mb e1=some (b,e2))(hf:f a b=some c):z4_ f ma mb env=some (c,e2):=by
 unfold z4_;rw[h1];show(mb e1).bind _=_;rw[h2];show(f a b).map _=_;rw[hf];rfl
theorem j2_{m:Mo D}{env e1:Env'}{d:D}(h:m env=some (d,e1)):v1_ m env=some (.ret d,e1):=by unfold v1_;rw[h];rfl
theorem b7n{m:Mo (List D)}{env e1:Env'}{d:List D}(h:m env=some (d,e1)):a2h m env=some (.retL d,e1):=by unfold a2h;rw[h];rfl
theorem g1_{i:Nat}{m:Mo D}{env e1:Env'}{d:D}(h:m env=some (d,e1)):q8_ i m env=some (.nx,e1.set i (.dat d)):=by unfold q8_;rw[h];rfl
theorem b1n{i:Nat}{m:Mo (List D)}{env e1:Env'}{d:List D}(h:m env=some (d,e1)):u5_ i m env=some (.nx,e1.set i (.own d)):=by unfold u5_;rw[h];rfl
theorem a0p{m:Mo D}{env e1:Env'}{b:Bool}(h:m env=some (.bl b,e1)):mT m env=some (b,e1):=by unfold mT;rw[h];rfl
theorem a1C{m:Mo Bool}{env e1:Env'}{b:Bool}(h:m env=some (b,e1)):y8_ m env=some (!b,e1):=by unfold y8_;rw[h];rfl
theorem a1D{mi:Mo (List D)}{g:OZ}{b:Mo Fl}{env e1:Env'}{ds:List D}(h:mi env=some (ds,e1)):w8_ mi g b env=loop g b ds e1:=by unfold w8_;rw[h];rfl
theorem a1S{n:Nat}{f:Fn}{as:Mo (List Ar)}{env e1:Env'}{av:List Ar}{r:Rr}{ws':List W}(h:as env=some (av,e1))(hn:av.length=n)(hs:slots av=[])(hf:f (av.map (u2_ (.l [])))=some (r,ws')):a1Q n f as env=some (r,e1):=by
 unfold a1Q;rw[h];show(if av.length=n then _ else none)=_
 rw[Qc hn];simp only[hs];rw[hf];rfl
theorem a3l{n i:Nat}{f:Fn}{as:Mo (List Ar)}{env e1:Env'}{av:List Ar}{r:Rr}{ws':List W}{w:W}{c c':List D}(h:as env=some (av,e1))(hn:av.length=n)(hs:slots av=[i])(hw:e1[i]? =some w)(hm:w.mutL=some c)(hf:f (av.map (u2_ (.l c)))=some (r,ws'))(hp:a2k ws'=some (.l c')):
  a1Q n f as env=some (r,e1.set i (w.put c')):=by
 unfold a1Q;rw[h];show(if av.length=n then _ else none)=_
 rw[Qc hn];simp only[hs];rw[hw];simp only[Qx];rw[W.mutL_of hm];simp only[Qx];rw[hf];simp only[Qx];rw[hp,W.put_eq hm];rfl
theorem a0K{n:Nat}{f:Fn}{as:Mo (List Ar)}{env e1:Env'}{d:D}(h:a1Q n f as env=some (.d d,e1)):mCD n f as env=some (d,e1):=by unfold mCD;rw[h];rfl
theorem a7A{n:Nat}{f:Fn}{as:Mo (List Ar)}{env e1:Env'}{d:List D}(h:a1Q n f as env=some (.l d,e1)):u3_ n f as env=some (d,e1):=by unfold u3_;rw[h];rfl
section
variable{X:Cx}{B:OA}{pos:Pos}{e:Expr}{ma:Mo D}
def a3m(m:Mo D):Mo Fl:=fun env=>(m env).map fun p=>(.nx,p.2)
theorem a5R(h:ED X B e ma)(hsw:swapsWith e none pos.line X.env=pure false:=by rfl):ES X B (.Expr e pos) (a3m ma):=by
 refine ps_imp (a6t (te:=TD X.K B ma) h hsw) ?_
 rintro D σ H ⟨G,env,fl,env',rl,e,k⟩;obtain⟨⟨d,env1⟩,e1,e2⟩:=y5_ e;cases e2;exact .bind rl e1 fun v G' H' ev r=>k σ G' H' ev
theorem a7B{m:Mo D}{env e1:Env'}{d:D}(h:m env=some (d,e1)):a3m m env=some (.nx,e1):=by unfold a3m;rw[h];rfl
theorem b1o{N:Nat}{mb:Mo Fl}{ws env:List W}(h:mb (ws++List.replicate (N-ws.length) .nil)=some (.nx,env)):fnM N mb ws=some (.d .non,a0F ws env):=by unfold fnM;rw[h]
end
def a3n(x:Int):List Int->List Int
 |[]=>[x]
 |y::l=>if x≤y then x::y::l else y::a3n x l
def a1T:List Int->List Int
 |[]=>[]
 |x::l=>a3n x (a1T l)
theorem a7C(x:Int):∀l,(a3n x l).Perm (x::l)
 |[]=>.refl _
 |y::l=>by
  unfold a3n;split
  ·exact .refl _
  ·exact((a7C x l).cons y).trans (.swap x y l)
theorem a7D:∀l,(a1T l).Perm l
 |[]=>.refl _
 |x::l=>(a7C x (a1T l)).trans ((a7D l).cons x)
theorem b1p{x:Int}:∀{l:List Int},l.Pairwise (· ≤ ·)->(a3n x l).Pairwise (· ≤ ·)
 |[],_=>by simp[a3n]
 |y::l,h=>by
  unfold a3n;obtain⟨h1,h2⟩:=Uq.mp h;split
  ·rename_i hx
   refine Uq.mpr ⟨fun z hz=>?_,h⟩
   rcases Qh.mp hz with rfl|hz
   ·exact hx
   ·exact Int.le_trans hx (h1 z hz)
  ·rename_i hx
   refine Uq.mpr ⟨fun z hz=>?_,b1p h2⟩
   rcases Qh.mp ((a7C x l).mem_iff.mp hz)with rfl|hz
   ·omega
   ·exact h1 z hz
theorem b1q:∀l,(a1T l).Pairwise (· ≤ ·)
 |[]=>.nil
 |x::l=>b1p (b1q l)
theorem b1r:∀{l k:List Int},l.Perm k->l.Pairwise (· ≤ ·)->k.Pairwise (· ≤ ·)->l=k
 |[],k,p,_,_=>p.nil_eq
 |x::l,k,p,h1,h2=>by
  cases k with
  |nil=>exact absurd p.symm.nil_eq (by simp)
  |cons y k=>
   obtain⟨a1,a2⟩:=Uq.mp h1;obtain⟨b1,b2⟩:=Uq.mp h2;have e:x=y:=by
    have m1:x∈y::k:=p.mem_iff.mp (by simp)
    have m2:y∈x::l:=p.mem_iff.mpr (by simp)
    rcases Qh.mp m1 with z|z
    ·exact z
    ·rcases Qh.mp m2 with w|w
     ·exact w.symm
     ·have:=a1 y w;have:=b1 x z;omega
   subst e;rw[b1r (p.cons_inv) a2 b2]
section
variable{X:Cx}{B:OA}
def b1s(X:Cx):List V->Hp->VK->Prop:=fun xs H Q=>∃p ns,xs=[.ref p]/\SqL X.K H p (ns.map V.int)/\ns.length<64/\∀l,H l=none->Q (.ref l) (upd H l (.lst ((a1T ns).map V.int)))
theorem b1t:∀{us:List Value}{ns:List Int},IntsAre us ns->q5_ (ns.map V.int) us
 |_,_,.nil=>.nil
 |_,_,.cons n t r=>.cons ⟨t,rfl⟩ (b1t r)
theorem b7o:w1_ X (.builtin "sorted") (b1s X):=by
 intro pins s σ H xs us Q I r h;obtain⟨p,ns,rfl,hq,h64,q⟩:=h;obtain⟨u,rfl,rx⟩:=a1v r;cases rx;obtain⟨vs,rv,pl,hz⟩:=I.list hq;have hi:IntsAre vs ns:=a6K rv;have hlen:vs.length=ns.length:=hi.length;refine sorted_ints pl.isList hi (by omega) fun out ns' a1 a2 a3=>?_
 obtain⟨e,he⟩:=sortedAll_at s.heap vs out;have es:ns'=a1T ns:=b1r (a2.trans (a7D ns).symm) a3 (b1q ns);subst es;have hl2:((a1T ns).map V.int).length≤sizeLine:=by
  rw[Qk,(a7D ns).length_eq];exact Jj (a3O (by omega))
 exact⟨.ref (s.heap.objs.size+1),_,I.laid (t':=s.toks) (a:=s.heap.objs.size+1) (o:=.lst ((a1T ns).map V.int)) (fun _ _ q=>sortedAll_old q) (Nat.le_succ _) ⟨hl2,out.toList,e,b1t a1,by simpa using he⟩,rfl,q _ (I.hok.fresh (Nat.le_succ _))⟩
def b1u(X:Cx):List V->Hp->VK->Prop:=fun xs H Q=>b1s X xs H Q∨ ∃p G ys ds es,xs=[.ref p]/\Le G H/\SqL X.K G p ys/\z9_ X.K G ys ds/\a7v ds=some es/\∀l zs,H l=none->z9_ X.K G zs es->Q (.ref l) (upd H l (.lst zs))
theorem b7p:w1_ X (.builtin "sorted") (b1u X):=w1_.or b7o b7e
def a7E:List D->Option (List D)
 |[.lst ds]=>match ints? ds with
  |some ns=>if ns.length<64 then some ((a1T ns).map .int)else none
  |none=>a7v ds
 |_=>none
theorem b7q:a4A X B (b1u X) a7E:=by
 intro G σ env H xs ds c Q rl r e k;unfold a7E at e;split at e
 ·rename_i ds
  obtain⟨x,rfl,q⟩:=a0D r;simp only[Rep]at q;obtain⟨a,ys,rfl,h1,h2⟩:=q;split at e
  ·rename_i ns en
   split at e
   ·rename_i h64
    cases e;have hx:=a3Y h2 en;subst hx;exact .inl ⟨a,ns,rfl,rl.sub.sqL h1,h64,fun l hl=>k l _ G H (.refl rl) hl (a5Q _)⟩
   ·cases e
  ·exact .inr ⟨a,G,ys,ds,c,rfl,rl.sub,h1,h2,e,fun l zs hl rz=>k l zs G H (.refl rl) hl rz⟩
 ·cases e
end
section
variable{X:Cx}{B:OA}{pos:Pos}{a b c e:Expr}{ma mb mc:Mo D}{ms:Mo (List D)}{es:List Expr}
theorem a4N{K:Qq}{t:Value}{T U:String}{b c:Bool}(h1:PySem.W.kitOne K t (.type T)=some b)(h2:PySem.W.kitOne K t (.type U)=some c):PySem.W.kitAny K t [.type T,.type U]=some (b||c):=by
 unfold PySem.W.kitAny;rw[h1];cases b with
 |true=>rfl
 |false=>
  dsimp only;unfold PySem.W.kitAny;rw[h2];cases c<;>rfl
theorem b7r{pins:OX}{σ:St}{G H:Hp}{s:Shared}{A:Around}{E:OE}{Q:OE}{tp:Addr}{T U:String}{x:V}{u:Value}{d:D}(I:Inv X pins σ H s)(l:Le G H)(rx:v4_ x u)(rp:Rep X.K G x d)
  (ht:IsTup s.heap tp [Value.type T,.type U].toArray)(kt:k6_ X.K T)(ku:k6_ X.K U)(h:∀tk,Q (.bool (a0n (tyD d) T||a0n (tyD d) U)) {s with toks:=tk}):wpAny (model X.prog X.w) A (call (.builtin "isinstance") [u,.ref tp]) Q E s:=by
 obtain⟨⟨oc,od,odt,os⟩,t1,t2,n,t3⟩:=ht;dsimp only at t2 t3;subst t2 t3;have e:(∀o,d≠.obj o)->_:=fun hd=>a4N (a7p kt d hd) (a7p ku d hd)
 cases d with
 |non=>simp only[Rep]at rp;subst rp;cases (show u=Value.none from rx);exact Zi PySem.W.kitx_none I.kIn True.intro t1 (e nofun) (fun z=>nomatch z) h
 |bl b=>simp only[Rep]at rp;subst rp;cases (show u=Value.bool b from rx);exact Zi PySem.W.kitx_bool I.kIn True.intro t1 (e nofun) (fun z=>nomatch z) h
 |int i=>simp only[Rep]at rp;subst rp;obtain⟨t,q⟩:=(show∃t,u=Value.int i t from rx);cases q;exact Zi PySem.W.kitx_int I.kIn True.intro t1 (e nofun) (fun z=>nomatch z) h
 |str z=>simp only[Rep]at rp;obtain⟨rp,_⟩:=rp;subst rp;obtain⟨t,q⟩:=(show∃t,u=Value.str z t from rx);cases q;exact Zi PySem.W.kitx_str I.kIn True.intro t1 (e nofun) (fun z=>nomatch z) h
 |tup ds=>
  simp only[Rep]at rp;obtain⟨a,xs,rfl,q,_⟩:=rp;cases rx;obtain⟨its,_,⟨o,h1,h2,_⟩,_⟩:=I.tuple (l.sqT q);exact Zi Vc I.kIn ⟨o,h1,h2⟩ t1 (e nofun) (fun z=>nomatch z) h
 |lst ds=>
  simp only[Rep]at rp;obtain⟨a,xs,rfl,q,_⟩:=rp;cases rx;obtain⟨its,_,⟨o,n,h1,h2,_⟩,_⟩:=I.list (l.sqL q);exact Zi Us I.kIn ⟨o,h1,h2⟩ t1 (e nofun) (fun z=>nomatch z) h
 |emp=>
  simp only[Rep]at rp;obtain⟨a,kvs,rfl,q⟩:=rp;cases rx;obtain⟨_,_,vs,_,dd⟩:=(show k1_ X.prog X.w H s.heap a (.dK _)from I.hok a _ (l _ _ q))
  obtain⟨o,h1,h2⟩:∃o,s.heap.get? a=some o/\o.cls=.type "dict":=by
   obtain⟨o,es,ep,g1,g2,_⟩:=dd;exact⟨o,g1,g2.1⟩
  exact Zi Yc I.kIn ⟨o,h1,h2⟩ t1 (e nofun) (fun z=>nomatch z) h
 |dct ks vs=>
  simp only[Rep]at rp;obtain⟨a,kvs,rfl,q,_⟩:=rp;cases rx;obtain⟨_,_,_,_,o,_,_,h1,h2,_⟩:=(show k1_ X.prog X.w H s.heap a (.dT _ _)from I.hok a _ (l _ _ q))
  exact Zi Yc I.kIn ⟨o,h1,h2.1⟩ t1 (e nofun) (fun z=>nomatch z) h
 |obj o=>
  have h0:∀{T:String},k6_ X.K T->a0n "object" T=false:=fun{T} kt=>by
   unfold k6_ at kt;simp only[Qh,Qa,Yg]at kt
   rcases kt with rfl|rfl|rfl|rfl|rfl<;>rfl
  have hf:∀{T:String},k6_ X.K T->PySem.W.kitOne X.K (.type "function") (.type T)=some false:=fun{T} kt=>by
   unfold k6_ at kt;simp only[Qh,Qa,Yg]at kt
   rcases kt with rfl|rfl|rfl|rfl|rfl<;>rfl
  have h':∀tk,Q (.bool false) {s with toks:=tk}:=fun tk=>by have:=h tk;rwa [show a0n (tyD (.obj o)) T=false from h0 kt,show a0n (tyD (.obj o)) U=false from h0 ku]at this
  simp only[Rep]at rp;cases o with
  |exc n=>
   obtain⟨a,C,HP,rfl,_,h3,h4,h5⟩:=rp;cases rx;exact Zi h4 I.kIn (I.hok a _ (l _ _ h3)).1 t1 (a4N (h5 T kt) (h5 U ku)) (fun z=>nomatch z) h'
  |fn n=>
   obtain⟨f,rfl,_,h4⟩:=rp;cases rx;exact Zi h4 I.kIn True.intro t1 (a4N (hf kt) (hf ku)) (fun z=>nomatch z) h'
  |dk kvs=>
   obtain⟨a,rfl,q⟩:=rp;cases rx;obtain⟨_,_,vs,_,dd⟩:=(show k1_ X.prog X.w H s.heap a (.dK _)from I.hok a _ (l _ _ q))
   obtain⟨o,h1,h2⟩:∃o,s.heap.get? a=some o/\o.cls=.type "dict":=by
    obtain⟨o,es,ep,g1,g2,_⟩:=dd;exact⟨o,g1,g2.1⟩
   have hd:∀{T:String},k6_ X.K T->PySem.W.kitOne X.K (.type "dict") (.type T)=some false:=fun{T} kt=>by
    unfold k6_ at kt;simp only[Qh,Qa,Yg]at kt
    rcases kt with rfl|rfl|rfl|rfl|rfl<;>rfl
   exact Zi Yc I.kIn ⟨o,h1,h2⟩ t1 (a4N (hd kt) (hd ku)) (fun z=>nomatch z) h'
  |dt kvs=>
   obtain⟨a,ps,rfl,q,_⟩:=rp;cases rx;obtain⟨_,_,vs,_,dd⟩:=(show k1_ X.prog X.w H s.heap a (.dK _)from I.hok a _ (l _ _ q))
   obtain⟨o,h1,h2⟩:∃o,s.heap.get? a=some o/\o.cls=.type "dict":=by
    obtain⟨o,es,ep,g1,g2,_⟩:=dd;exact⟨o,g1,g2.1⟩
   have hd:∀{T:String},k6_ X.K T->PySem.W.kitOne X.K (.type "dict") (.type T)=some false:=fun{T} kt=>by
    unfold k6_ at kt;simp only[Qh,Qa,Yg]at kt
    rcases kt with rfl|rfl|rfl|rfl|rfl<;>rfl
   exact Zi Yc I.kIn ⟨o,h1,h2⟩ t1 (a4N (hd kt) (hd ku)) (fun z=>nomatch z) h'
def b1v(T U:String)(m:Mo D):Mo D:=fun env=>(m env).map fun p=>(.bl (a0n (tyD p.1) T||a0n (tyD p.1) U),p.2)
theorem b7s{T U:String}{y z:Str}{p p2 p3 p4:Pos}{x1:Nat}(kt:k6_ X.K T)(ku:k6_ X.K U)(ha:ED X B a ma)(hg:Gl X "isinstance")(hm:X.mg "isinstance"=none)(hgT:Gl X y)(hmT:X.mg y=none)(hvT:bootBuiltins y=some (.type T))(hgU:Gl X z)(hmU:X.mg z=none)(hvU:bootBuiltins z=some (.type U))
  (hnT:y≠"__name__":=by decide)(hdT:(y==("__debug__":Str))=false:=by decide)(hnU:z≠"__name__":=by decide)(hdU:(z==("__debug__":Str))=false:=by decide)
  (he:starEach [a,.Tuple [.Name y p2,.Name z p3] x1 p4] X.env=[(false,eval a X.env),(false,eval (.Tuple [.Name y p2,.Name z p3] x1 p4) X.env)]:=by rfl):ED X B (.Call (.Name "isinstance" p) [a,.Tuple [.Name y p2,.Name z p3] x1 p4] [] pos) (b1v T U ma):=by
 have hT:PE X (.Name y p2) (tC (.ty T)):=a5i hgT hmT hvT rfl hnT hdT
 have hU:PE X (.Name z p3) (tC (.ty U)):=a5i hgU hmU hvU rfl hnU hdU
 have htup:PE X (.Tuple [.Name y p2,.Name z p3] x1 p4) (a9S (a6G (tC (.ty T)) (a6G (tC (.ty U)) a6F))):=a9T (a0t hT (a0t hU a2d))
 have hc:w1_ X (.builtin "isinstance") (fun xs H Q=>∃x q G d,xs=[x,.ref q]/\H q=some (.tup [.ty T,.ty U])/\Le G H/\Rep X.K G x d/\Q (.bl (a0n (tyD d) T||a0n (tyD d) U)) H):=by
  intro pins s σ H xs us Q I r h;obtain⟨x,q,G,d,rfl,hq,l,rp,qq⟩:=h;obtain⟨u,w',rfl,r1,r2⟩:=a2c r;cases r2;obtain⟨_,its,v,ht⟩:=(show k1_ X.prog X.w H s.heap q (.tup [.ty T,.ty U])from I.hok q _ hq)
  obtain⟨v1,v2,rfl,e1,e2⟩:=a2c v;cases e1;cases e2;exact b7r I l r1 rp ht.tup kt ku fun tk=>⟨.bl _,H,I.tok _,rfl,qq⟩
 refine pe_imp (a3N (pos:=pos) (p:=p) hc hg hm (by decide+kernel) (a0t ha (a0t htup a2d) he) (he:=he)) ?_
 rintro σ H Q ⟨G,env,d,env',rl,e,k⟩;obtain⟨⟨d1,env1⟩,e1,e2⟩:=y5_ e;cases e2;refine .bind rl e1 fun v G1 H1 ev r=>⟨(by decide:2≤sizeLine),fun q hq=>?_⟩
 have al:=ev.rel.allocM (o:=.tup [.ty T,.ty U]) hq
 exact⟨v,q,G1,d1,rfl,y6_,al.rel.sub,r,k _ G1 _ (ev.trans al) (by simp only[Rep])⟩
end
section
variable{X:Cx}{B:OA}
def b1w:List D->Option Bool
 |[]=>some false
 |.bl b::r=>(b1w r).map fun k=>b||k
 |_::_=>none
def dAny:List D->Option D
 |[.lst ds]=>(b1w ds).map fun k=>.bl k
 |_=>none
def a7F:List D->Option D
 |[.lst ds]=>(ints? ds).map fun ns=>.int ns.sum
 |[.tup ds]=>(ints? ds).map fun ns=>.int ns.sum
 |_=>none
theorem a7G:∀{us:List Value}{ns:List Int},IntsAre us ns->∀(i:Nat) (v:Value),us[i]? =some v->∃t,v=.int (ns.getD i 0) t
 |_,_,.nil,i,v,h=>by simp at h
 |_,_,.cons n t r,i,v,h=>by
  cases i with
  |zero=>simp at h;exact⟨t,by simp[←h]⟩
  |succ i=>exact a7G r i v (by simpa using h)
def b1x(X:Cx):List V->Hp->VK->Prop:=fun xs H Q=>∃(p:Addr) (ns:List Int),xs=[.ref p]/\(SqL X.K H p (ns.map V.int)∨SqT X.K H p (ns.map V.int))/\Q (.int ns.sum) H
theorem b7t(hc:X.calm=true):w1_ X (.builtin "sum") (b1x X):=by
 intro pins s σ H xs us Q I r h;obtain⟨p,ns,rfl,hq,q⟩:=h;obtain⟨u,rfl,rx⟩:=a1v r;cases rx;have hh:X.A.handled=none:=I.ok.hd hc
 rcases hq with hq|hq
 ·obtain⟨its,r',pl,hz⟩:=I.list hq
  have hi:IntsAre its ns:=a6K r'
  have hl:=pl.isList
  have hlt:p<s.heap.objs.size:=by obtain⟨_,e,_⟩:=hl;exact Qu e
  refine call_sum_walkG (Ui hl ?_);refine⟨s.heap.objs.size,[s.heap.objs.size,p],[s.heap.objs.size],its.toArray.size,_,_,fun i=>ns.getD i 0,rfl,Walks.list (A:=X.A.in1) hh _ p (Qr hlt) its.toArray,
   ⟨⟨_,Qn _ rfl,rfl,rfl⟩,hl.push _⟩,fun b hb=>?_,fun i v hP=>a7G hi i v (by simpa using hP),fun h' tk t' hk'=>?_⟩
  ·have hs:=Qu (Qn s.heap (o:={cls:=.type "list_iterator",data:=.fields #[.ref p,.int 0 0]}) rfl)
   rcases Qh.mp hb with rfl|hb
   ·exact hs
   ·rcases Qh.mp hb with rfl|hb
    ·exact Vu hlt hs
    ·cases hb
  ·rw[Qp,hi.length,PyProof.Rows.preSum_getD,List.take_of_length_le (Qb _)]
   exact⟨.int ns.sum,H,I.kept (t':=tk) (LSm.kept_iter hk'),⟨t',rfl⟩,q⟩
 ·obtain⟨its,r',pl,hz⟩:=I.tuple hq
  have hi:IntsAre its ns:=a6K r'
  have hl:s.heap.IsTuple p its.toArray:=pl
  have hlt:p<s.heap.objs.size:=by obtain⟨_,e,_⟩:=hl;exact Qu e
  refine call_sum_walkG (Vd hl ?_);refine⟨s.heap.objs.size,[s.heap.objs.size,p],[s.heap.objs.size],its.toArray.size,_,_,fun i=>ns.getD i 0,rfl,Walks.tuple (A:=X.A.in1) hh _ p (Qr hlt) its.toArray,
   ⟨⟨_,Qn _ rfl,rfl,rfl⟩,hl.push _⟩,fun b hb=>?_,fun i v hP=>a7G hi i v (by simpa using hP),fun h' tk t' hk'=>?_⟩
  ·have hs:=Qu (Qn s.heap (o:={cls:=.type "tuple_iterator",data:=.fields #[.ref p,.int 0 0]}) rfl)
   rcases Qh.mp hb with rfl|hb
   ·exact hs
   ·rcases Qh.mp hb with rfl|hb
    ·exact Vu hlt hs
    ·cases hb
  ·rw[Qp,hi.length,PyProof.Rows.preSum_getD,List.take_of_length_le (Qb _)]
   exact⟨.int ns.sum,H,I.kept (t':=tk) (LSm.kept_iter hk'),⟨t',rfl⟩,q⟩
theorem b7u:a1h X B (b1x X) a7F:=by
 intro G σ env H xs ds c Q rl r e k;unfold a7F at e;split at e
 ·rename_i ds
  obtain⟨x,rfl,q⟩:=a0D r;obtain⟨ns,e1,e2⟩:=y5_ e;subst e2;simp only[Rep]at q;obtain⟨a,ys,rfl,h1,h2⟩:=q;have:=a3Y h2 e1;subst this;exact⟨a,ns,rfl,.inl (rl.sub.sqL h1),k _ G H (.refl rl) (by simp only[Rep])⟩
 ·rename_i ds
  obtain⟨x,rfl,q⟩:=a0D r;obtain⟨ns,e1,e2⟩:=y5_ e;subst e2;simp only[Rep]at q;obtain⟨a,ys,rfl,h1,h2⟩:=q;have:=a3Y h2 e1;subst this;exact⟨a,ns,rfl,.inr (rl.sub.sqT h1),k _ G H (.refl rl) (by simp only[Rep])⟩
 ·cases e
end
theorem b7v:bootBuiltins "sum"=some (.builtin "sum"):=by decide+kernel
theorem b7w{P:Program}{w:World}{K:Qq}{mg:OU}{base:Heap}{k n:Nat}{f:Addr}{fd:FuncData}{ps:List Str}:FnOk P w K mg base CX0 k f fd ps (SpF K n fun _=>none):=
 ⟨fun _ _ _ _ h=>(by obtain⟨_,_,_,_,_,_,_,e,_⟩:=h;cases e),fun _ _ _ _ _ _ _ _ _ _ _ _ _ h=>(by obtain⟨_,_,_,_,_,_,_,e,_⟩:=h;cases e)⟩
section
variable{X:Cx}{B:OA}
end
section
variable{X:Cx}{B:OA}{pos:Pos}{a b c e:Expr}{ms:Mo (List D)}
end
section
variable{X:Cx}{B:OA}{pos:Pos}{c:Expr}{t:Mo Bool}
end
section
variable{X:Cx}{B:OA}{pos:Pos}{e:Expr}{ma:Mo D}{ml:Mo (List D)}
end
section
variable{prog:Program}{w:World}{A:Around}{E:OE}{s:Shared}{c:Bool}
end
section
variable{prog:Program}{w:World}{A:Around}{E:OE}{s:Shared}
end
section
variable{X:Cx}{B:OA}{pos p:Pos}{a:Expr}{ms:Mo (List D)}{elts:List Expr}{kk:Nat}{tp:Pos}
end
theorem b1y{P:Program}{w:World}{H:Hp}{h h':Heap}(x:HOk P w H h)(k:∀b u o,H b=some u->h.get? b=some o->h'.get? b=some o):HOk P w H h':=fun a o e=>
 (x a o e).stay (fun b u hb q=>by
  rcases hb with rfl|hb
  ·exact k _ _ _ e q
  ·exact k _ _ _ hb q) (fun _ q=>q) fun _ _ q=>q
def CXE(P:Program)(w:World):CXT:=fun outer H s E ev s'=>
 ∃(e t C:Addr) (H':Hp) (Bh:Heap),ev=.ref e/\s'.os=s.os/\AllBare s'.gens/\Heap.FlyingW Bh outer e (.ref C) (.ref t) s'.heap/\
  Un (frs outer) [] H H' s.heap s'.heap/\HOk P w H' Bh/\(∀b o,s.heap.get? b=some o->H b=none->b∉frs outer->Bh.get? b=some o)/\
  (∀b o,s.heap.get? b=some o->b∉frs outer->∃o',Bh.get? b=some o')/\E (.ref C) none H'
section
variable{X:Cx}{pins:OX}{σ:St}{H H':Hp}{s s':Shared}{E:XK}{e t C:Addr}{Bh:Heap}
theorem a5S(hst:X.stack=X.env::X.outer)(hfr:X.env.frame=some X.env.locals)(hex:X.ex=[])(I:Inv X pins σ H s)(os:s'.os=s.os)(bare:AllBare s'.gens)(fly:Heap.FlyingW Bh X.outer e (.ref C) (.ref t) s'.heap)
  (kept:∀b o,s.heap.get? b=some o->H b=none->b∉frs X.stack->Bh.get? b=some o)
  (thr:∀b o,s.heap.get? b=some o->b∉frs X.stack->∃o',Bh.get? b=some o')
  (slots:∀b o,s.heap.get? b=some o->H b=none->b∈X.fs->∃sl,s'.heap.get? b=some {o with slots:=sl})
  (free:∀b o,s.heap.get? b=some o->H b=none->H' b=none)(tups:∀b xs,H b=some (.tup xs)->H' b=some (.tup xs))(frzs:∀b o u,H b=some (.frz o u)->H' b=some (.frz o u))
  (tbls:∀b ps,H b=some (.tbl ps)->∃more,H' b=some (.tbl (ps++more)))(hok:HOk X.prog X.w H' Bh)(hE:E (.ref C) none H'):
  CXE X.prog X.w X.outer X.H₀ X.s₀ E (.ref e) s':=by
 have nb:∀b o,X.s₀.heap.get? b=some o->b∉X.fs->b∉frs X.stack:=fun b o q n z=>by
  rw[hst]at z;unfold frs at z;rw[Jy,hfr]at z
  rcases Qh.mp z with z|z
  ·exact absurd (Qu q) (Nat.not_lt.mpr (by rw[z];exact I.ok.above))
  ·exact n z
 have nx:∀b,b∉X.ex:=fun b z=>by rw[hex]at z;cases z
 refine⟨e,t,C,H',Bh,rfl,os.trans I.os,bare,fly,⟨fun b o q n hb _=>?_,fun b o q n hb _=>?_,fun b o q n _=>?_,fun b o q _=>?_,fun b xs q=>tups b xs (I.base.tups b xs q),fun b o u q=>frzs b o u (I.base.frzs b o u q),fun b ps q=>?_⟩,hok,fun b o q n hb=>?_,fun b o q hb=>?_,hE⟩
 ·exact fly.1 b o (kept b o (I.base.keep b o q n hb (nx b)) (I.base.free b o q n (nx b)) (nb b o q hb))
 ·obtain⟨sl,q1⟩:=I.base.slot b o q n hb (nx b)
  obtain⟨sl',q2⟩:=slots b _ q1 (I.base.free b o q n (nx b)) hb;exact⟨sl',q2⟩
 ·obtain⟨o',q1⟩:=I.base.there b o q (nx b)
  exact free b o' q1 (I.base.free b o q n (nx b))
 ·obtain⟨o',q1⟩:=I.base.there b o q (nx b)
  by_cases hb:b∈X.fs
  ·obtain⟨sl,q2⟩:=slots b _ q1 (I.base.free b o q (I.ok.frf b hb) (nx b)) hb
   exact⟨_,q2⟩
  ·obtain⟨o2,q2⟩:=thr b o' q1 (nb b o q hb)
   exact⟨o2,fly.1 b o2 q2⟩
 ·obtain⟨m1,e1⟩:=I.base.tbls b ps q
  obtain⟨m2,e2⟩:=tbls b _ e1;exact⟨m1++m2,by rw[e2,Vn]⟩
 ·exact kept b o (I.base.keep b o q n hb (nx b)) (I.base.free b o q n (nx b)) (nb b o q hb)
 ·obtain⟨o',q1⟩:=I.base.there b o q (nx b)
  exact thr b o' q1 (nb b o q hb)
structure XOk(X:Cx)(E:XK):Prop where
 pass:a3M (CXE X.prog X.w) X E
 made:∀(pins:OX) (σ:St) (H:Hp) (s:Shared) (h':Heap) (e C:Addr) (vs:List Value),Inv X pins σ H s->Heap.MadeExcOf s.heap h' e (.ref C) vs->E (.ref C) none H->X.xe (.ref e) {s with heap:=h'}
end
theorem a5T{P:Program}{w:World}{K:Qq}{mg:OU}{base:Heap}{N:List Str}{qual:Str}{scope:Scope}{f:Addr}{cd:Value}{A:Around}{outer:List Env}{s₀:Shared}{H₀:Hp}{E:XK}:
  XOk (j5_ (CXE P w) P w K mg base N qual scope f cd A outer s₀ H₀ E) E:=by
 refine⟨fun pins σ H s ev s' I h=>?_,fun pins σ H s h' e C vs I hm hE=>?_⟩
 ·obtain⟨e,t,C,H',Bh,rfl,os,bare,fly,un,hok,kept,thr,hE⟩:=h
  refine wpAny_leaves_onW (L:=s₀.heap.objs.size) I.ok.frames rfl fly fun h2 fly2 ups=>?_
  refine a5S (X:=j5_ (CXE P w) P w K mg base N qual scope f cd A outer s₀ H₀ E) rfl rfl rfl I os bare fly2 kept thr (fun b o q n hb=>?_) (fun b o q n=>un.free b o q n (by simp)) un.tups un.frzs un.tbls hok hE
  obtain⟨sl,q1⟩:=un.any q n (by simp)
  obtain⟨_,o1,g1,g2⟩:=I.funs.mem hb;rw[q]at g1;cases g1;obtain⟨sl2,q2⟩:=ups b _ q1 g2;exact⟨sl2,q2⟩
 ·have hst:=I.stack
  have hmem:∀{b:Addr},b∈frs (j5_ (CXE P w) P w K mg base N qual scope f cd A outer s₀ H₀ E).stack->H b=none:=fun{b} hb=>I.stkFree b hb
  refine wpAny_leaves_madeW (L:=s₀.heap.objs.size) (base:=PySem.W.hideAll s.heap (frs (j5_ (CXE P w) P w K mg base N qual scope f cd A outer s₀ H₀ E).stack)) (h:=s.heap) I.ok.frames rfl (fun b o q=>PySem.W.of_hideAll _ q)
   (PySem.W.funFrames_hide hst fun env he b hb=>Ye.mpr ⟨env,he,hb⟩) hm fun h2 t fly _ hn ups=>?_
  refine a5S (X:=j5_ (CXE P w) P w K mg base N qual scope f cd A outer s₀ H₀ E) (s:=s) (s':={s with heap:=h2}) rfl rfl rfl I rfl I.bare fly (fun b o q _ hb=>Jp _ q hb) (fun b o q hb=>⟨o,Jp _ q hb⟩) (fun b o q n hb=>?_) (fun b o q n=>n) (fun _ _ q=>q) (fun _ _ _ q=>q) (fun b ps q=>⟨#[],by rw[q];simp⟩) ?_ hE
  ·obtain⟨_,o1,g1,g2⟩:=I.funs.mem hb
   rw[q]at g1;cases g1;obtain⟨sl2,q2⟩:=ups b _ (hm.keeps b o q) g2;exact⟨sl2,q2⟩
  ·exact b1y (P:=P) (w:=w) I.hok fun b u o q1 q2=>Jp _ q2 fun z=>by rw[hmem z]at q1;cases q1
theorem PS.nox{X:Cx}{st:Stmt}{t:TS}(h:PS X.nox st t):PS X st t:=fun pins s σ H D I hw=>
 Zv (h pins s σ H D (I.wish _) hw) (fun _ _ q=>q.unwish) fun _ _ z=>False.elim z
theorem PA.nox{X:Cx}{es:List Expr}{t:TA}(h:PA X.nox es t):PA X es t:=fun pos pins s σ H Q I hw=>
 Zv (h pos pins s σ H Q (I.wish _) hw) (fun _ _ ⟨v,H',I',r,q⟩=>⟨v,H',I'.unwish,r,q⟩) fun _ _ z=>False.elim z
def vmro:List Value:=[.type "ValueError",.type "Exception",.type "BaseException",.type "object"]
def a2t(K:Qq)(n:Str):Bool:=match PySem.W.nsIn K mainGlobals n with
 |some (some (.ref C))=>PySem.W.excIn K C vmro "ValueError.__new__"
 |_=>false
theorem b1z{K:Qq}{n:Str}(h:a2t K n=true):∃C,PySem.W.nsIn K mainGlobals n=some (some (.ref C))/\PySem.W.excIn K C vmro "ValueError.__new__"=true:=by
 unfold a2t at h;split at h
 ·rename_i C hC;exact⟨C,hC,h⟩
 ·cases h
theorem b7x{K:Qq}{h₀:Heap}{mg:OU}{x:Str}{C:Addr}{bmB:List Value}{newId:String}(X:K.In h₀)(G:h₀.Ns mainGlobals mg)(e:PySem.W.nsIn K mainGlobals x=some (some (.ref C)))(q:PySem.W.excIn K C bmB newId=true):OwnCls x C bmB newId mg h₀:=by
 refine⟨Zo X G e,?_⟩;unfold PySem.W.excIn at q;split at q
 ·rename_i dd cd sl ho
  split at q
  ·rename_i C' bm k0 k1 k2 k3 n k5 hm hs
   simp only[Qy,Yn,Vt]at q;obtain⟨⟨⟨⟨⟨rfl,rfl⟩,hdel⟩,ht⟩,hok⟩,hni⟩:=q;obtain⟨nm,bs,mro,ns,qn,hd,sn,sub,ab,col,del⟩:=cd;dsimp only at hm hdel hok hni;subst hm hdel;have hsl:sl= #[k0,k1,k2,k3,some (.builtin n),k5]:=by
    obtain⟨l⟩:=sl;simp only at hs;rw[hs]
   subst hsl;exact⟨bm,ns,nm,qn,bs,hd,sn,sub,ab,col,dd,k0,k1,k2,k3,k5,_,X _ _ ho,.of_isNs (PySem.W.isNs_of_in X hok),PySem.W.nsMap_none_of_in X hok hni,PySem.W.tail_of_in X ht⟩
  ·cases q
 ·cases q
abbrev Mx:=Env'->Option Str
section
variable(K:Qq)(B:OA)(E:XK)
def XW(G:Hp)(σ:St)(env:Env')(H:Hp)(n:Str):Prop:=∃C,PySem.W.nsIn K mainGlobals n=some (some (.ref C))/\∀σ' G' env' H',Ev K B G σ env H G' σ' env' H'->E (.ref C) none H'
def TX(m:Mx)(σ:St)(H:Hp):Prop:=∃G env n,Rel K B G σ env H/\m env=some n/\XW K B E G σ env H n
end
theorem XW.after{K:Qq}{B:OA}{E:XK}{G G1:Hp}{σ σ1:St}{env env1:Env'}{H H1:Hp}{n:Str}(w:XW K B E G σ env H n)(ev:Ev K B G σ env H G1 σ1 env1 H1):XW K B E G1 σ1 env1 H1 n:=by
 obtain⟨C,h,k⟩:=w;exact⟨C,h,fun σ' G' env' H' ev2=>k σ' G' env' H' (ev.trans ev2)⟩
def EDx(X:Cx)(B:OA)(E:XK)(e:Expr)(m:Mx):Prop:=PE X e fun σ H _=>TX X.K B E m σ H
def ESx(X:Cx)(B:OA)(E:XK)(st:Stmt)(m:Mx):Prop:=PS X st fun _ σ H=>TX X.K B E m σ H
def a3o(X:Cx)(B:OA)(E:XK)(st:List Stmt)(m:Mx):Prop:=PSs X st fun _ σ H=>TX X.K B E m σ H
def xNo:Mx:=fun _=>none
def xOr(x y:Mx):Mx:=fun env=>match x env with
 |some n=>some n
 |none=>y env
def a2u(x:Mx)(s:Mo Fl)(y:Mx):Mx:=fun env=>match x env with
 |some n=>some n
 |none=>match s env with
  |some (.nx,env1)=>y env1
  |_=>none
def xIf(t:Mo Bool)(x y:Mx):Mx:=fun env=>(t env).bind fun p=>if p.1 then x p.2 else y p.2
section
variable{X:Cx}{B:OA}{E:XK}{pos p:Pos}{e:Expr}{es:List Expr}{st:Stmt}{rest:List Stmt}{x1 x2:Mx}{s1:Mo Fl}{ma:Mo D}
theorem b7y:ESx X B E st xNo:=fun _ _ _ _ _ _ ⟨_,_,_,_,e,_⟩=>nomatch e
theorem b1A:a3o X B E [] xNo:=fun _ _ _ _ _ _ ⟨_,_,_,_,e,_⟩=>nomatch e
theorem b1B(h1:ESx X B E st x1)(n1:ES X B st s1)(h2:a3o X B E rest x2):a3o X B E (st::rest) (a2u x1 s1 x2):=by
 intro pins s σ H D I ⟨G,env,n,rl,e,w⟩;unfold a2u at e;cases q:x1 env with
 |some m=>
  rw[q]at e;cases e;exact a3J h1 a9L pins s σ H D I ⟨G,env,_,rl,q,w⟩
 |none=>
  rw[q]at e;dsimp only at e;split at e
  ·rename_i env1 q1
   exact a3J n1 h2 pins s σ H D I ⟨G,env,.nx,env1,rl,q1,fun σ1 G1 H1 ev=>⟨G1,env1,n,ev.rel,e,w.after ev⟩⟩
  ·cases e
theorem a4O(h1:ESx X B E st x1):a3o X B E [st] x1:=by
 intro pins s σ H D I h;exact a3J h1 a9L pins s σ H D I h
theorem b1C{c:Expr}{s t:List Stmt}{tc:Mo Bool}(hc:ET X B c tc)(h1:a3o X B E s x1)(h2:a3o X B E t x2):ESx X B E (.If c s t pos) (xIf tc x1 x2):=by
 intro pins sh σ H D I ⟨G,env,n,rl,e,w⟩;obtain⟨⟨b1,env1⟩,e1,e2⟩:=q6_ e;dsimp only at e2;refine a9J hc h1 h2 pins sh σ H D I ⟨G,env,b1,env1,rl,e1,fun G1 H1 ev=>?_⟩
 cases b1 with
 |true=>simp only[Zs]at e2 ⊢;exact⟨G1,env1,n,ev.rel,e2,w.after ev⟩
 |false=>simp only[Zh,Jx]at e2 ⊢;exact⟨G1,env1,n,ev.rel,e2,w.after ev⟩
theorem b1D(h:EDx X B E e x1)(hsw:swapsWith e none pos.line X.env=pure false:=by rfl):ESx X B E (.Expr e pos) x1:=fun pins s σ H D I q=>a6t h hsw pins s σ H D I q
def a7H(n:Str)(ms:Mo (List D)):Mx:=fun env=>(ms env).bind fun p=>if p.1.length≤1000 then some n else none
theorem b1E{n:Str}{ms:Mo (List D)}{np cpos:Pos}(hx:XOk X E)(hc:X.calm=true)(ho:a2t X.K n=true)(hg:Gl X n)(ha:EDs X B (e::es) ms)
  (he:starEach (e::es) X.env=(false,eval e X.env)::starEach es X.env:=by rfl)(hpl:(backTo cpos (starEach es X.env)).any (·.1)=false:=by rfl)(hd:(n==("__debug__":Str))=false:=by decide):
  ESx X B E (.Raise (some (.Call (.Name n np) (e::es) [] cpos)) none pos) (a7H n ms):=by
 intro pins s σ H D I ⟨G,env,c,rl,em,w⟩;obtain⟨⟨ds,env1⟩,e1,e2⟩:=q6_ em;dsimp only at e2;split at e2
 ·rename_i hl
  cases e2;obtain⟨C,hC,hw⟩:=w;obtain⟨C',hC',hex⟩:=b1z ho;rw[hC]at hC';cases hC';have O:=b7x I.mod.kin I.mod.glob hC hex;obtain⟨tl,N,nm,q,bs,hdct,sn,sub,ab,col,dd,k0,k1,k2,k3,k5,mN,hCo,hN,hni,T⟩:=O.obj;refine wpAny_Raise_call_subU (C:=C) (nm:=nm) (q:=q) (N:=N) (bs:=bs) (bm:=tl) (hdct:=hdct) (sn:=sn) (sub:=sub) (ab:=ab) (col:=col) (dd:=dd) (k0:=k0) (k1:=k1) (k2:=k2) (k3:=k3) (k5:=k5)
   PySem.F.excBase_ValueError (by decide+kernel) PySem.F.excBase_ValueError (mN:=mN) (T.hasType PySem.F.excBase_ValueError.hasBase) (I.ok.hd hc) (by rw[he];show(false||(backTo cpos (starEach es X.env)).any (·.1))=false;rw[hpl];rfl) hni (a3I I hg O.bound ⟨rfl,?_⟩ hd)
  have h1:=ha cpos pins s σ H (fun vs H1=>vs.length≤sizeLine/\E (.ref C) none H1) I ⟨G,env,ds,env1,rl,e1,fun vs G1 H1 ev r=>⟨by rw[r.length];exact Jj (a3O hl),hw σ G1 env1 H1 ev⟩⟩
  rw[he]at h1 ⊢;refine Calls.evalArgs_plain (Zv h1 (fun us s2 ⟨vs,H2,I2,r2,q1,q2⟩=>⟨rfl,by rw[←r2.length];exact q1,I2.bk _ _ hCo,hN.keeps I2.bk,T.keeps I2.bk,fun h' e hm=>?_⟩) fun _ _ y=>y)
  exact hx.made pins σ H2 s2 h' e C us I2 hm q2
 ·cases e2
def SpX(K:Qq)(n:Nat)(g:List W->Option Str):Sp:=fun vs H _ E=>∃G ws c C,ws.length=n/\a4B ws/\Rel K u6_ G (vs.map some) ws H/\g ws=some c/\PySem.W.nsIn K mainGlobals c=some (some (.ref C))/\
 ∀G' ws' H',Ev K u6_ G (vs.map some) ws H G' (vs.map some) ws' H'->E (.ref C) none H'
structure DefX(P:Program)(w:World)(K:Qq)(mg:OU)(base:Heap)(x:Str)(k n:Nat)(g:List W->Option Str):Prop where
 ex:∃(f:Addr) (fd:FuncData) (ps:List Str),FnOk P w K mg base (CXE P w) k f fd ps (SpX K n g)/\ps.length=n/\mg x=some (.ref f)/\PySem.W.keepIn K (.ref f)=true/\a0j K fd ps []
def a0L(n:Nat)(g:List W->Option Str)(as:Mo (List Ar)):Mx:=fun env=>(as env).bind fun p=>if p.1.length=n then(match slots p.1 with
 |[]=>g (p.1.map (u2_ (.l [])))
 |_=>none)else none
theorem a4P{x:Str}{k n:Nat}{g:List W->Option Str}{as:Mo (List Ar)}(hx:XOk X E)(Df:DefX X.prog X.w X.K X.mg X.base x k n g)(hr:Room k X.A)(hg:Gl X x)(ha:EAr X B (e::es) as)(hdb:(x==("__debug__":Str))=false:=by decide)
  (he:starEach (e::es) X.env=(false,eval e X.env)::starEach es X.env:=by rfl)(hpl:(backTo pos (starEach es X.env)).any (·.1)=false:=by rfl):
  EDx X B E (.Call (.Name x p) (e::es) [] pos) (a0L n g as):=by
 obtain⟨f,fd,ps,F,rfl,hm,hk,hb⟩:=Df.ex;intro pins s σ H Q I ⟨G,env,c,rl,em,C,hC,w⟩;refine a6I F hr hg hm hk hb .nil hx.pass ha hdb he hpl pins s σ H Q I ?_
 obtain⟨⟨av,env1⟩,e1,e2⟩:=q6_ em;dsimp only at e2;split at e2
 ·rename_i hn
  split at e2
  ·rename_i hs
   refine⟨G,env,av,env1,rl,e1,fun vs G1 H1 ev ra=>?_⟩
   show SpX X.K ps.length g (vs++[]) H1 Q E;rw[Um];exact⟨G1,av.map (u2_ (.l [])),c,C,by rw[Qk];exact hn,a7g,a7h (i:=0) (w:=.nil) ev.rel ra (fun k j e=>absurd e (a2l hs k j)) (fun k k' j j' e=>absurd e (a2l hs k j)),e2,hC,
    fun G2 ws' H2 ev2=>w σ G2 env1 H2 (ev.trans (a7i ev.rel ra hs ev2))⟩
  ·cases e2
 ·cases e2
end
def fnX(N:Nat)(mx:Mx):List W->Option Str:=fun ws=>mx (ws++List.replicate (N-ws.length) .nil)
theorem a7I{P:Program}{w:World}{K:Qq}{mg:OU}{base:Heap}{x qual:Str}{st:Stmt}{f:Addr}{fd:FuncData}{N ps:List Str}{k:Nat}{mx:Mx}(F:Fun K x qual st f fd)(S:FnScope N ps (v9_ st))
  (hb:∀(cdv:Value) (A:Around) (outer:List Env) (s:Shared) (H:Hp) (E:XK),Room k (A.deeper (envOfC qual (v9_ st) s.heap.objs.size f cdv))->
   a3o (j5_ (CXE P w) P w K mg base N qual (v9_ st) f cdv A outer s H E) (fun b=>H b≠none) E (a0S st) mx):FnOk P w K mg base (CXE P w) (k+1) f fd ps (SpX K ps.length (fnX N.length mx)):=by
 have hpl:ps.length≤N.length:=by have:=Jf List.length S.pre;rw[Yr]at this;omega
 obtain⟨oc,od,kV,doc,pm,an,cdv,ct,osl,rfl,lk,hcd⟩:=F.ex;refine a6J lk hcd S (fun vs H Q E h=>?_) fun A outer s H vs Q E hr h=>?_
 ·obtain⟨G,ws,c,C,hl,ok,rl,_⟩:=h
  have:=rl.len;rw[Qk]at this;omega
 ·obtain⟨G,ws,c,C,hl,ok,rl,e,hC,k⟩:=h
  have hv:ws.length=vs.length:=by have:=rl.len;rwa [Qk]at this
  exact⟨_,hb cdv A outer s H E hr,G,_,c,a7d (N:=N) rl ok (by omega),e,C,hC,fun σ' G' env' H' ev=>k G' (a0F ws env') H' (a3b rl ok (by omega) ev)⟩
open PySem.W Builtin Builtin.ObjectAttr Builtin.Getset_descriptor PySem.Calls
def a0q(e C:Addr)(h:Heap):Prop:=∃o,h.get? e=some o/\o.cls=.ref C
theorem a0q.type{e C:Addr}{h:Heap}{M:Model}(p:a0q e C h):Looks M h (typeOf (.ref e)) (.ref C):=by
 obtain⟨o,h1,h2⟩:=p;exact h2 ▸ (Looks.ld h1).andThen .now
section
variable{prog:Program}{w:World}{A:Around}{E:OE}{K:Frag}{x C:Addr}{h:Heap}{g:Array GenState}{d:Drawn}{t:Nat}{os:OsState}
theorem b7z{R:Result->Shared->Prop}{tp:Value}(X:K.In h)(I:a0q x C h)(hm:mroIn K C (.type "object")=some true)
  (hq:R (.ok (.ret (.ref C))) ⟨h,g,d,t,os⟩):codeAny (model prog w) A (.call (.builtin "getset_descriptor.__get__") ⟨[.builtin "object.__class__",.ref x,tp],[]⟩) R ⟨h,g,d,t,os⟩:=by
 have L0:=I.type (M:=model prog w)
 have L1:=looks_mroIn (M:=model prog w) X hm
 refine Uu KF.slot_gs.plain KF.entry_gs (KF.slot_gs.check _ _ _ _ _ _ _ _ KF.type_class (KF.args_gs _ _ _) ?_);unfold Builtin.«getset_descriptor.__get__» descrGet;rw[dga_obj];refine Qz (Qv ?_);unfold descrGetter descrCheckInstance descrNameAndClass isInstance;simp only[KF.owner_class]
 repeat (first|with_reducible refine L0.at ?_|with_reducible refine L1.at ?_|wp_step)
 refine⟨Code.quiet_builtin _ (by decide+kernel),codeAny_builtin KF.entry_class ?_⟩
 unfold Builtin.«object.__class__» shownTypeOf
 repeat (first|with_reducible refine L0.at ?_|with_reducible refine L1.at ?_|wp_step)
 exact hq
theorem b7A(X:K.In h)(I:a0q x C h)(ha:findIn K (.ref C) "__class__"=some (some (.builtin "object.__class__")))
  (hn:specialIn K (.builtin "object.__class__") "__get__"=some (some (.builtin "getset_descriptor.__get__")))(htk:takesIn K (.builtin "object.__class__")=some true)(M:Model):
  Looks M h (find (.ref x) (.ref C) "__class__") (.bind (.builtin "getset_descriptor.__get__") (.builtin "object.__class__")):=by
 have L1:=looks_findIn (M:=M) X ha
 have L2:Looks M h (getOf (some (.builtin "object.__class__"))) (some (.builtin "getset_descriptor.__get__")):=looks_specialIn X hn
 have L3:=looks_takesIn (M:=M) X htk
 exact L1.andThen (L2.andThen ((show Looks M h (dataDescriptor? (some (.builtin "object.__class__")) (some (.builtin "getset_descriptor.__get__"))) (some (.builtin "getset_descriptor.__get__",.builtin "object.__class__"))from L3.andThen .now).andThen (Looks.tag .now)))
theorem b7B{tk:Tok}{Q:Fin->Shared->Prop}(X:K.In h)(I:a0q x C h)(hm:mroIn K C (.type "object")=some true)(ha:findIn K (.ref C) "__class__"=some (some (.builtin "object.__class__")))
  (hn:specialIn K (.builtin "object.__class__") "__get__"=some (some (.builtin "getset_descriptor.__get__")))(htk:takesIn K (.builtin "object.__class__")=some true)(hq:Q (.done (.ret (.ref C))) ⟨h,g,d,t,os⟩):
  wpAny (model prog w) A (Builtin.«object.__getattribute__» ⟨[.ref x,.str "__class__" tk],[]⟩) Q E ⟨h,g,d,t,os⟩:=by
 have L0:=I.type (M:=model prog w)
 have L1:=b7A X I ha hn htk (model prog w)
 unfold Builtin.«object.__getattribute__»
 repeat (any_goals (first|assumption|with_reducible refine L0.at ?_|with_reducible refine L1.at ?_|wp_step))
 refine b7z X I hm ?_
 repeat (any_goals (first|assumption|wp_step))
theorem b7C{M:Model}{nameV:Value}{Q:Unit->Shared->Prop}(X:K.In h)(I:a0q x C h)(hm:mroIn K C (.type "BaseException")=some true)(hq:Q () ⟨h,g,d,t,os⟩):
  wpAny M A (checkBuiltinCall "BaseException.__getattribute__" ⟨[.ref x,nameV],[]⟩) Q E ⟨h,g,d,t,os⟩:=by
 have hk:builtinKind "BaseException.__getattribute__"=some .slot:=by decide+kernel
 have hsplit:splitId "BaseException.__getattribute__"=some ("BaseException","__getattribute__"):=by decide+kernel
 have L0:=I.type (M:=M)
 have L1:=looks_mroIn (M:=M) X hm
 have ha:=F.args_bexc_ga (.ref x) nameV
 simp only[checkBuiltinCall,hk,hsplit];refine Qz ?_
 unfold isInstance
 repeat (first|with_reducible refine L0.at ?_|with_reducible refine L1.at ?_|wp_step)
 exact hq
theorem b7D{tk:Tok}{fill expr:Bool}{Q:OE}(X:K.In h)(I:a0q x C h)(hmB:mroIn K C (.type "BaseException")=some true)(hm:mroIn K C (.type "object")=some true)(ha:findIn K (.ref C) "__class__"=some (some (.builtin "object.__class__")))
  (hn:specialIn K (.builtin "object.__class__") "__get__"=some (some (.builtin "getset_descriptor.__get__")))(htk:takesIn K (.builtin "object.__class__")=some true)
  (hga:findIn K (.ref C) "__getattribute__"=some (some (.builtin "BaseException.__getattribute__")))(hno:findIn K (.ref C) "__getattr__"=some none)(hq:Q (.ref C) ⟨h,g,d,t,os⟩):
  wpAny (model prog w) A (getAttrBy (.ref x) (.str "__class__" tk) fill expr) Q E ⟨h,g,d,t,os⟩:=by
 have L0:=I.type (M:=model prog w)
 have L1:=looks_findIn (M:=model prog w) X hga
 have L2:=looks_findIn (M:=model prog w) X hno
 have f3:=F.attrBase_ValueError.ga.bind (.ref x)
 have hx0:(expr&&onTheHeap (Value.builtin "BaseException.__getattribute__"))=false:=by cases expr<;>rfl
 have hx2:(Value.builtin "BaseException.__getattribute__"==Value.builtin "object.__getattribute__")=false:=by decide+kernel
 have hx1:(onTheHeap (Value.ref C)&&Value.builtin "BaseException.__getattribute__"==Value.builtin "object.__getattribute__")=false:=by rw[hx2];rfl
 repeat (any_goals (first|assumption|with_reducible refine L0.at ?_|with_reducible refine L1.at ?_|with_reducible refine L2.at ?_|wp_step))
 refine Uu F.attrBase_ValueError.ga.plain F.entry_bexc_ga (b7C X I hmB (b7B X I hm ha hn htk ?_))
 repeat (any_goals (first|assumption|wp_step))
theorem b7E{Q:Option Value->Shared->Prop}(X:K.In h)(I:a0q x C h)(hmB:mroIn K C (.type "BaseException")=some true)(hm:mroIn K C (.type "object")=some true)(ha:findIn K (.ref C) "__class__"=some (some (.builtin "object.__class__")))
  (hn:specialIn K (.builtin "object.__class__") "__get__"=some (some (.builtin "getset_descriptor.__get__")))(htk:takesIn K (.builtin "object.__class__")=some true)
  (hga:findIn K (.ref C) "__getattribute__"=some (some (.builtin "BaseException.__getattribute__")))(hno:findIn K (.ref C) "__getattr__"=some none)(hq:Q (some (.ref C)) ⟨h,g,d,t+1,os⟩):
  wpAny (model prog w) A (getAttr? (.ref x) "__class__") Q E ⟨h,g,d,t,os⟩:=by
 unfold getAttr? getAttrBy?
 repeat (any_goals (first|assumption|with_reducible apply b7D X I hmB hm ha hn htk hga hno|wp_step))
end
def b7F:List String:=["tuple","list","int","bool","str"]
def a0Z(K:Frag)(C:Addr):Bool:=
 (mroIn K C (.type "BaseException")==some true)&&((mroIn K C (.type "object")==some true)&&((findIn K (.ref C) "__class__"==some (some (.builtin "object.__class__")))&&((specialIn K (.builtin "object.__class__") "__get__"==some (some (.builtin "getset_descriptor.__get__")))&&
 ((takesIn K (.builtin "object.__class__")==some true)&&((findIn K (.ref C) "__getattribute__"==some (some (.builtin "BaseException.__getattribute__")))&&((findIn K (.ref C) "__getattr__"==some none)&&((clsIn K C).isSome&&((kitOne K (.ref C) (.type "ValueError")==some true)&&b7F.all fun T=>kitOne K (.ref C) (.type T)==some false))))))))
theorem b7G{K:Frag}{e C:Addr}(h:a0Z K C=true):KitX K (.ref e) (.ref C) (a0q e C):=by
 unfold a0Z at h;simp only[Qy,Yn]at h;obtain⟨h1,h2,h3,h4,h5,h6,h7,h8,_,_⟩:=h;obtain⟨cdD,hcD⟩:=Yz.mp h8;refine⟨fun _ _ _ p=>p.type,fun _ _ X _=>?_,fun h tp dd its n sl X htp=>?_,fun{prog w A E Q s} X I k=>?_⟩
 ·unfold clsIn at hcD
  split at hcD
  ·rename_i c' d' cd' sl' ho
   intro A' Q' E' s' k q;unfold isType loadHead;exact Qz (wpAny_loadPart (k _ _ (X _ _ ho)) (Qv q))
  ·cases hcD
 ·refine Bool.eq_false_iff.mpr fun q=>?_
  have e:C=tp:=Value.ref.inj (Yn.mp q)
  subst e;unfold clsIn at hcD;split at hcD
  ·rename_i c' d' cd' sl' ho
   have z:=(X _ _ ho).symm.trans htp
   cases z
  ·cases hcD
 ·obtain⟨hh,g,d,t,os⟩:=s
  exact b7E X I h1 h2 h3 h4 h5 h6 h7 k
theorem b7H{K:Frag}{C:Addr}(h:a0Z K C=true):b0t K (.ref C):=by
 unfold a0Z at h;simp only[Qy]at h;obtain⟨_,_,_,_,_,_,_,_,_,h9⟩:=h;intro T hT;have:=Qw.mp h9 T hT
 simpa using this
theorem b7I{K:Frag}{C:Addr}(h:a0Z K C=true):kitOne K (.ref C) (.type "ValueError")=some true:=by
 unfold a0Z at h;simp only[Qy]at h;obtain⟨_,_,_,_,_,_,_,_,h9,_⟩:=h
 simpa using h9
def a1E(K:Frag)(S:Str)(names:List Str):Bool:=names.all fun n=>a2t K n&&match nsIn K mainGlobals n with
 |some (some (.ref C))=>a0Z K C&&((match nsIn K mainGlobals S with
   |some (some (.ref D))=>mroIn K C (.ref D)==some true&&(a2t K S&&a0Z K D)
   |_=>false)&&names.all fun m=>match nsIn K mainGlobals m with
   |some (some (.ref D))=>kitOne K (.ref C) (.ref D)==some (n==m)
   |_=>false)
 |_=>false
structure ExcF(K:Frag)(S:Str)(names:List Str)(n:Str)(C:Addr):Prop where
 nm:nsIn K mainGlobals n=some (some (.ref C))
 one:a2t K n=true
 kit:a0Z K C=true
 sub:∃D,nsIn K mainGlobals S=some (some (.ref D))/\mroIn K C (.ref D)=some true/\a2t K S=true/\a0Z K D=true
 pair:∀m∈names,∃D,nsIn K mainGlobals m=some (some (.ref D))/\kitOne K (.ref C) (.ref D)=some (n==m)
theorem a4c{K:Frag}{S:Str}{names:List Str}(h:a1E K S names=true){n:Str}(hn:n∈names):∃C,ExcF K S names n C:=by
 have q:=Qw.mp h n hn
 simp only[Qy]at q;obtain⟨h1,h2⟩:=q;split at h2
 ·rename_i C hC
  simp only[Qy]at h2;obtain⟨h3,h4,h5⟩:=h2;split at h4
  ·rename_i D hD
   simp only[Qy,Yn]at h4;refine⟨C,hC,h1,h3,⟨D,hD,h4.1,h4.2.1,h4.2.2⟩,fun m hm=>?_⟩
   have:=Qw.mp h5 m hm;split at this
   ·rename_i D' hD'
    exact⟨D',hD',by simpa using this⟩
   ·cases this
  ·cases h4
 ·cases h2
def a0x(names:List Str)(m:Str)(ma:Mo D):Mo D:=fun env=>(ma env).bind fun p=>match p.1 with
 |.obj (.exc n)=>if names.contains n then some (.bl (n==m),p.2)else none
 |_=>none
def b1F(names:List Str)(ma:Mo D):Mo D:=fun env=>(ma env).bind fun p=>match p.1 with
 |.obj (.exc n)=>if names.contains n then some (.bl true,p.2)else none
 |_=>none
section
variable{X:Cx}{B:OA}{pos p p2:Pos}{a:Expr}{ma:Mo D}{S m:Str}{names:List Str}
theorem a0M(hx:a1E X.K S names=true)(hm:m∈names)(ha:ED X B a ma)(hg:Gl X "isinstance")(hi:X.mg "isinstance"=none)(hgm:Gl X m)(hdm:(m==("__debug__":Str))=false:=by decide)
  (he:starEach [a,.Name m p2] X.env=[(false,eval a X.env),(false,eval (.Name m p2) X.env)]:=by rfl):ED X B (.Call (.Name "isinstance" p) [a,.Name m p2] [] pos) (a0x names m ma):=by
 obtain⟨C0,F0⟩:=a4c hx hm;intro pins0 s0 σ0 H0 Q0 I0;have hT:PE X (.Name m p2) (tC (.ref C0)):=a5h hgm (Zo I0.mod.kin I0.mod.glob F0.nm) rfl hdm;have hc:w1_ X (.builtin "isinstance") (fun xs H Q=>∃x G n,xs=[x,.ref C0]/\Le G H/\Rep X.K G x (.obj (.exc n))/\n∈names/\Q (.bl (n==m)) H):=by
  intro pins s σ H xs us Q I r h;obtain⟨x,G,n,rfl,l,rp,hn,q⟩:=h;obtain⟨u,w',rfl,r1,r2⟩:=a2c r;cases r2;simp only[Rep]at rp;obtain⟨e,C,HP,rfl,h2,h3,h4,h5⟩:=rp;cases r1;obtain⟨C',F⟩:=a4c hx hn;have:=F.nm;rw[h2]at this;cases this;obtain⟨D,hD,hk⟩:=F.pair m hm;have:=F0.nm;rw[hD]at this;cases this;exact Zj h4 I.kIn (I.hok e _ (l _ _ h3)).1 hk (fun z=>nomatch z) fun tk=>⟨.bl _,H,I.tok _,rfl,q⟩
 refine pe_imp (a3N (pos:=pos) (p:=p) hc hg hi (by decide+kernel) (a0t ha (a0t hT a2d) he) (he:=he)) ?_ pins0 s0 σ0 H0 Q0 I0
 rintro σ H Q ⟨G,env,d,env',rl,e,k⟩;obtain⟨⟨d1,env1⟩,e1,e2⟩:=q6_ e;dsimp only at e2;split at e2
 ·rename_i n
  split at e2
  ·rename_i hn
   cases e2;exact .bind rl e1 fun v G1 H1 ev r=>⟨v,G1,n,rfl,ev.rel.sub,r,by simpa using hn,k _ G1 H1 ev (by simp only[Rep])⟩
  ·cases e2
 ·cases e2
theorem b7J(hx:a1E X.K S names=true)(ha:ED X B a ma)(hg:Gl X "isinstance")(hi:X.mg "isinstance"=none)(hgm:Gl X "ValueError")(hmv:X.mg "ValueError"=none)
  (he:starEach [a,.Name "ValueError" p2] X.env=[(false,eval a X.env),(false,eval (.Name "ValueError" p2) X.env)]:=by rfl):ED X B (.Call (.Name "isinstance" p) [a,.Name "ValueError" p2] [] pos) (b1F names ma):=by
 have hT:PE X (.Name "ValueError" p2) (tC (.ty "ValueError")):=a5i hgm hmv PyProof.Rows.Boot.«ValueError» rfl
 have hc:w1_ X (.builtin "isinstance") (fun xs H Q=>∃x G n,xs=[x,.ty "ValueError"]/\Le G H/\Rep X.K G x (.obj (.exc n))/\n∈names/\Q (.bl true) H):=by
  intro pins s σ H xs us Q I r h;obtain⟨x,G,n,rfl,l,rp,hn,q⟩:=h;obtain⟨u,w',rfl,r1,r2⟩:=a2c r;cases r2;simp only[Rep]at rp;obtain⟨e,C,HP,rfl,h2,h3,h4,h5⟩:=rp;cases r1;obtain⟨C',F⟩:=a4c hx hn;have:=F.nm;rw[h2]at this;cases this;exact Zj h4 I.kIn (I.hok e _ (l _ _ h3)).1 (b7I F.kit) (fun z=>nomatch z) fun tk=>⟨.bl _,H,I.tok _,rfl,q⟩
 refine pe_imp (a3N (pos:=pos) (p:=p) hc hg hi (by decide+kernel) (a0t ha (a0t hT a2d) he) (he:=he)) ?_
 rintro σ H Q ⟨G,env,d,env',rl,e,k⟩;obtain⟨⟨d1,env1⟩,e1,e2⟩:=q6_ e;dsimp only at e2;split at e2
 ·rename_i n
  split at e2
  ·rename_i hn
   cases e2;exact .bind rl e1 fun v G1 H1 ev r=>⟨v,G1,n,rfl,ev.rel.sub,r,by simpa using hn,k _ G1 H1 ev (by simp only[Rep])⟩
  ·cases e2
 ·cases e2
def b1G:D->Bool
 |.non=>true
 |_=>false
def a7J:D->D->Option D
 |a,.non=>some (.bl (b1G a))
 |_,_=>none
theorem b7K{K:Frag}{G:Hp}{x:V}{a:D}(r:Rep K G x a):decide (x=.non)=b1G a:=by
 cases a with
 |non=>simp only[Rep]at r;subst r;rfl
 |bl _=>simp only[Rep]at r;subst r;rfl
 |int _=>simp only[Rep]at r;subst r;rfl
 |str _=>simp only[Rep]at r;obtain⟨r,_⟩:=r;subst r;rfl
 |tup _=>simp only[Rep]at r;obtain⟨_,_,r,_⟩:=r;subst r;rfl
 |lst _=>simp only[Rep]at r;obtain⟨_,_,r,_⟩:=r;subst r;rfl
 |emp=>simp only[Rep]at r;obtain⟨_,_,r,_⟩:=r;subst r;rfl
 |dct _ _=>simp only[Rep]at r;obtain⟨_,_,r,_⟩:=r;subst r;rfl
 |obj o=>
  simp only[Rep]at r;cases o with
  |exc n=>obtain⟨_,_,_,r,_⟩:=r;subst r;rfl
  |fn n=>obtain⟨_,r,_⟩:=r;subst r;rfl
  |dk n=>obtain⟨_,r,_⟩:=r;subst r;rfl
  |dt n=>obtain⟨_,_,r,_⟩:=r;subst r;rfl
theorem b7L:OpD X B (fun x y H Q=>y=.non/\Q (.bl (decide (x=.non))) H) a7J:=by
 intro G σ env H x y a b d Q rl ra rb e k;unfold a7J at e;split at e
 ·cases e
  simp only[Rep]at rb;subst rb;rw[b7K ra];exact⟨rfl,k _ G H (.refl rl) (by simp only[Rep])⟩
 ·cases e
end
end L2.Mir
namespace L2.Mir
open PySem PySem.Spec PyProof.Rows PySem.W
section
variable{X:Cx}{pins:OX}{σ σ':St}{H:Hp}{s:Shared}{e:Addr}{φ:Heap->Prop}
theorem b7M(I:Inv X pins σ H s)(hn:H e=none)(h0:X.s₀.heap.get? e=none)(hL:e≠X.env.locals)(hc:∀x c,X.env.cells.lookup x=some c->c≠e)(hp:∀p∈X.pn++pins,p.1≠e)
  (ph:φ s.heap)(po:∃o,s.heap.get? e=some o)(ps:∀h1 h2:Heap,φ h1->(∀o,h1.get? e=some o->h2.get? e=some o)->φ h2):Inv X pins σ (upd H e (.ext φ)) s:=by
 have ne:∀{b u},H b=some u->b≠e:=fun q z=>by rw[z,hn]at q;cases q
 refine⟨I.ok,I.os,I.bare,⟨I.base.keep,I.base.slot,fun b o q n hx=>?_,I.base.there,fun b xs q=>?_,fun b o u q=>?_,fun b ps q=>?_⟩,I.loc,I.cell,?_,fun x c q=>?_,fun p q=>?_,fun b u q=>?_,I.len⟩
 ·have hb:b≠e:=fun z=>by rw[z,h0]at q;cases q
  rw[q4_ hb];exact I.base.free b o q n hx
 ·have:=I.base.tups b xs q;rw[q4_ (ne this)];exact this
 ·have:=I.base.frzs b o u q;rw[q4_ (ne this)];exact this
 ·obtain⟨m,q'⟩:=I.base.tbls b ps q;exact⟨m,by rw[q4_ (ne q')];exact q'⟩
 ·rw[q4_ (Zy hL)];exact I.free
 ·rw[q4_ (hc x c q)];exact I.freeC x c q
 ·obtain⟨h1,h2,h3,h4,h5⟩:=I.pin p q
  exact⟨h1,by rw[q4_ (hp p q)];exact h2,h3,h4,h5⟩
 ·by_cases hb:b=e
  ·subst hb;rw[y6_]at q;cases q;exact⟨ph,po,ps⟩
  ·rw[q4_ hb]at q
   exact(I.hok b u q).stay (fun _ _ _ z=>z) (fun c z=>by rw[q4_ (ne z)];exact z) fun c xs z=>by rw[q4_ (ne z)];exact z
theorem b7N{h':Heap}{m':OU}{tk:Nat}(I:Inv X pins σ H s)(hn':h'.Ns X.env.locals m')(hs:Heap.SameBut X.env.locals s.heap h')(hl:σ'.length=σ.length)
  (hσ:∀(i:Nat) (x:Str) (v:V),X.N[i]? =some x->σ'[i]? =some (some v)->Vis X.env.scope x->∃u,v4_ v u/\a9C X.env h' m' x u):Inv X pins σ' H {s with heap:=h',toks:=tk}:=by
 have cne:=I.cne
 refine⟨I.ok,I.os,I.bare,⟨fun b o e n hb hx=>?_,fun b o e n hb hx=>?_,I.base.free,fun b o e hx=>?_,I.base.tups,I.base.frzs,I.base.tbls⟩,⟨_,hn',hσ⟩,fun y c e=>?_,I.free,I.freeC,fun p hp=>?_,fun b ob e=>?_,hl.trans I.len⟩
 ·exact(hs.2 b (Qr (Qd (Qu e) I.ok.above))).trans (I.base.keep b o e n hb hx)
 ·obtain⟨sl,e1⟩:=I.base.slot b o e n hb hx
  exact⟨sl,(hs.2 b (Qr (Qd (Qu e) I.ok.above))).trans e1⟩
 ·obtain⟨o',e1⟩:=I.base.there b o e hx
  exact⟨o',(hs.2 b (Qr (Qd (Qu e) I.ok.above))).trans e1⟩
 ·obtain⟨w',z⟩:=I.cell y c e
  exact⟨w',z.sameBut hs (cne y c e)⟩
 ·obtain⟨e,n,ne,nf,d⟩:=I.pin p hp
  exact⟨(hs.2 p.1 ne).trans e,n,ne,nf,d⟩
 ·refine(I.hok b ob e).stay (fun c w' hc q=>(hs.2 c ?_).trans q) (fun _ q=>q) fun _ _ q=>q
  rintro rfl
  rcases hc with rfl|hc
  ·rw[I.free]at e;cases e
  ·rw[I.free]at hc;cases hc
theorem b7O{M:Model}{A:Around}{E:OE}{i:Nat}{n:Str}{pos:Pos}{Q:Unit->Shared->Prop}(I:Inv X pins σ H s)(hN:X.N.Nodup)(hi:X.N[i]? =some n)(hk:X.env.scope.names.lookup n=some .local)
  (h:∀s',Inv X pins (σ.set i none) H s'->Q () s'):wpAny M A (do bindName X.env n .none;unbindBehindTheSuite X.env n pos) Q E s:=by
 have hcls:(X.env.scope.kind==.class||(X.env.scope.kind==.module&&X.env.locals !=X.env.globals))=false:=by rw[I.ok.kind];rfl
 have hiσ:i<σ.length:=by rw[I.len];exact(Qg.mp hi).1
 refine Qz (wpAny_bindName (a4r (v:=.non) (u:=.none) I hN hi (.inl hk) rfl (fun s1 I1=>?_) (.inr hk)))
 unfold unbindBehindTheSuite;refine Vq ?_
 obtain⟨m,hn,hl⟩:=I1.loc;obtain⟨u,ru,lk⟩:=hl i n .non hi (Zg hiσ) (.inl hk);have hm:m n=some u:=by
  rcases lk with⟨_,z⟩|⟨z,_⟩
  ·exact z
  ·have:X.env.kindOf n=some .local:=hk
   rcases z with z|z<;>(rw[this]at z;cases z)
 refine wpAny_unbindName_local hk hn hm hcls fun h' u' hn' hs=>?_
 obtain⟨hh,g,d,t,o⟩:=s1;refine h _ (b7N (tk:=t) I1 hn' hs (by simp) fun j y v e1 e2 e3=>?_)
 by_cases hj:j=i
 ·subst hj;rw[Zg hiσ]at e2;cases e2
 ·rw[Qm (Zy hj)]at e2
  obtain⟨w,rw',q⟩:=hl j y v e1 (by rw[Qm (Zy hj)];exact e2) e3
  refine⟨w,rw',?_⟩
  rcases q with⟨k,e⟩|⟨k,c,e,z⟩
  ·refine .inl ⟨k,?_⟩
   have:y≠n:=fun e=>hj (a6r hN e1 (e ▸ hi))
   simp[this,e]
  ·exact .inr ⟨k,c,e,z.sameBut hs (I1.cne y c e)⟩
end
theorem Ev.setNone{K:Frag}{B:OA}{G G1:Hp}{σ σ1:St}{env env1:Env'}{H H1:Hp}{i:Nat}(ev:Ev K B G σ env H G1 σ1 env1 H1):Ev K B G σ env H G1 (σ1.set i none) (env1.set i .nil) H1:=by
 have e0:=ev.setNil (i:=i)
 have rl:=e0.rel
 have ne:∀(j:Nat) (w:W),(env1.set i .nil)[j]? =some w->w≠.nil->(σ1.set i none)[j]? =σ1[j]?:=fun j w q1 q2=>by
  rcases w4_ q1 with⟨_,z⟩|z
  ·exact absurd z q2
  ·exact Qm (Zy z.1)
 have nm:∀(w:W) (es:Mu),w.mut=some es->w≠.nil:=fun w es h z=>by rw[z]at h;cases h
 refine⟨⟨rl.sub,by rw[rl.len];simp,fun j d q=>?_,fun j w es q1 q2=>?_,fun j k w w' es fs b q1 q2 q3 q4 q5 q6=>?_,fun j w b q1 qo q2=>?_,rl.old,rl.tabs,rl.gnt⟩,e0.same,e0.keep,e0.live,e0.stay,fun b z=>?_,fun j w q qp=>?_,by rw[Zp];exact e0.slen⟩
 ·rw[ne j _ q (by simp)];exact rl.dat j d q
 ·rw[ne j _ q1 (nm w es q2)];exact rl.own j w es q1 q2
 ·rw[ne j _ q1 (nm w es q2)]at q5;rw[ne k _ q3 (nm w' fs q4)]at q6;exact rl.inj j k w w' es fs b q1 q2 q3 q4 q5 q6
 ·rw[ne j _ q1 (by rintro rfl;cases qo)]at q2;exact rl.fresh j w b q1 qo q2
 ·obtain⟨j,w,es,q1,q2,q3⟩:=z
  rw[ne j _ q1 (nm w es q2)]at q3;exact e0.sub b ⟨j,w,es,q1,q2,q3⟩
 ·rw[ne j _ q (by rintro rfl;cases qp)];exact e0.par j w q qp
theorem b7P{l:List Env}{H H':Hp}{h h1 h2 Bh:Heap}(un:Un (frs l) [] H H' h h1)(kept:∀b o,h.get? b=some o->H b=none->b∉frs l->Bh.get? b=some o)(thr:∀b o,h.get? b=some o->b∉frs l->∃o',Bh.get? b=some o')
  (stay:Bh.StaysIn h2)(ups:h1.UpToSlots h2)(fr:∀b∈frs l,H b=none/\∃o,h.get? b=some o/\∀vs,o.data≠.fields vs):Un (frs l) [] H H' h h2:=by
 have sl:∀b o,h.get? b=some o->b∈frs l->∃sl,h2.get? b=some {o with slots:=sl}:=fun b o q hb=>by
  obtain⟨n,o1,g1,g2⟩:=fr b hb;rw[q]at g1;cases g1;obtain⟨s1,q1⟩:=un.slot b o q n hb (by simp)
  obtain⟨s2,q2⟩:=ups b _ q1 g2;exact⟨s2,q2⟩
 exact⟨fun b o q n hb _=>stay b o (kept b o q n hb),fun b o q n hb _=>sl b o q hb,un.free,fun b o q _=>by
  by_cases hb:b∈frs l
  ·obtain⟨s1,q1⟩:=sl b o q hb;exact⟨_,q1⟩
  ·obtain⟨o',q1⟩:=thr b o q hb;exact⟨o',stay b o' q1⟩,un.tups,un.frzs,un.tbls⟩
section
variable{M:Model}{A:Around}{E:OE}{K:Frag}{e C Dd:Addr}{h:Heap}{g:Array GenState}{d:Drawn}{t:Nat}{os:OsState}
theorem b7Q{Q:Bool->Shared->Prop}{od:Option Addr}{cd:ClassData}{sl:Array (Option Value)}(X:K.In h)(I:a0q e C h)(hsub:mroIn K C (.ref Dd)=some true)(hD:mroIn K Dd (.type "BaseException")=some true)(hk:K.lookup Dd=some ⟨.type "type",od,.cls cd,sl⟩)
  (hq:Q true ⟨h,g,d,t,os⟩):wpAny M A (excMatches (.ref e) (.ref Dd)) Q E ⟨h,g,d,t,os⟩:=by
 have L0:=I.type (M:=M)
 have L1:=looks_mroIn (M:=M) X hsub
 have L2:=looks_mroIn (M:=M) X hD
 have f:=tc_notTuple
 have hC:=X _ _ hk
 unfold excMatches
 repeat (first|with_reducible refine L0.at ?_|with_reducible refine L1.at ?_|with_reducible refine L2.at ?_|with_reducible refine wpAny_loadPart_at hC ?_|wp_step)
 exact hq
end
theorem b7R{K:Frag}{C:Addr}{bm:List Value}{nid:String}(h:excIn K C bm nid=true):∃od cd sl,K.lookup C=some ⟨.type "type",od,.cls cd,sl⟩:=by
 unfold excIn at h;split at h
 ·rename_i dd cd sl ho;exact⟨dd,cd,sl,ho⟩
 ·cases h
theorem b7S{K:Frag}{C:Addr}(h:a0Z K C=true):mroIn K C (.type "BaseException")=some true:=by
 unfold a0Z at h;simp only[Qy,Yn]at h;exact h.1
def a4d(a:Addr)(h:Heap):Prop:=∃o fd,h.get? a=some o/\o.data=.func fd
theorem b7T{M:Model}{a:Addr}(h:Heap)(p:a4d a h):∃k,(k=Keeper.frame∨k=Keeper.machine∨k=Keeper.boundFrame)/\Looks M h (keeperOf (.ref a)) k:=by
 obtain⟨o,fd,h1,h2⟩:=p;refine⟨.frame,.inl rfl,(Looks.ld (part:=none) h1).andThen ?_⟩;rw[h2];exact .now
def a7K(X:Cx)(B:OA)(fl:Addr)(o:Option Str)(G:Hp):Prop:=
 ∀(pins:OX) (s:Shared) (σ:St) (env:Env') (Q:VK) (E:XK),Inv X pins σ X.H₀ s->Rel X.K B G σ env X.H₀->
  (o=none->∀v G' H',Ev X.K B G σ env X.H₀ G' σ env H'->Q v H')->
  (∀n C,o=some n->nsIn X.K mainGlobals n=some (some (.ref C))->∀G' H',Ev X.K B G σ env X.H₀ G' σ env H'->E (.ref C) none H')->
  codeAny (model X.prog X.w) X.A (.call (.ref fl) ⟨[],[]⟩) (CR (CXE X.prog X.w) X.stack X.prog X.w X.H₀ s Q E) s
section
variable{X:Cx}{B:OA}{S n x y:Str}{names:List Str}{i0 i j:Nat}{fl:Addr}{o:Option Str}{G₀:Hp}{cp cpos epos sp yp np apos hpos tpos:Pos}
abbrev exD(n:Str):D:=.obj (.exc n)
def b7U(X:Cx)(B:OA)(names:List Str)(fl:Addr)(i0 i j:Nat)(o:Option Str)(G:Hp):TS:=fun D σ H=>σ[i0]? =some (some (.ref fl))/\H=X.H₀/\∃env,Rel X.K B G σ env H/\
 (o=none->∀G' H',Ev X.K B G σ env H G' σ env H'->D.nx σ H')/\∀c,o=some c->c∈names/\∀σ' G' H',Ev X.K B G σ env H G' σ' (((env.set i (.dat (exD c))).set j (.dat (exD c))).set i .nil) H'->D.nx σ' H'
theorem caught{pins:OX}{s s':Shared}{σ:St}{H G:Hp}{env:Env'}{D:Ends}{ev:Value}(hst:X.stack=X.env::X.outer)(hfr:X.env.frame=some X.env.locals)(hex:X.ex=[])(hx:a1E X.K S names=true)(hN:X.N.Nodup)
  (hi:X.N[i]? =some n)(hil:X.env.scope.names.lookup n=some .local)(hj:X.N[j]? =some y)(hjl:X.env.scope.names.lookup y=some .local)(hgS:Gl X S)
  (I:Inv X pins σ H s)(rl:Rel X.K B G σ env H)(hX:∀c,o=some c->c∈names/\∀σ' G' H',Ev X.K B G σ env H G' σ' (((env.set i (.dat (exD c))).set j (.dat (exD c))).set i .nil) H'->D.nx σ' H')
  (cx:CXE X.prog X.w X.stack H s (fun cls _ H'=>∃c C G',o=some c/\nsIn X.K mainGlobals c=some (some (.ref C))/\cls=.ref C/\Ev X.K B G σ env H G' σ env H') ev s')
  (hdS:(S==("__debug__":Str))=false)(hdn:(n==("__debug__":Str))=false)(hcdn:(n==("__classdict__":Str))=false)(hsw:swapsWith (.Name n np) (some (.Name y yp)) apos.line X.env=pure false):
  wpAny (model X.prog X.w) X.A (noteFrame ev X.env) (fun _ s₂=>wpAny (model X.prog X.w) X.A (setFlight ev none) (fun _ s₃=>
   wpAny (model X.prog X.w) X.A (handleBy ev X.env [.ExceptHandler (some (.Name S sp)) (some n) [.Assign [.Name y yp] (.Name n np) apos] hpos]) (SP X pins D) X.xe s₃) X.xe s₂) X.xe s':=by
 obtain⟨e,t,C,H',Bh,rfl,os,bare,fly,un,hok,kept,thr,c,C',G',ho,hC,hcc,evx⟩:=cx;cases hcc;obtain⟨hcn,hD⟩:=hX c ho;obtain⟨C2,F⟩:=a4c hx hcn;have:=F.nm;rw[hC]at this;cases this;obtain⟨Sd,hS,hsub,hoS,hkS⟩:=F.sub;have frF:∀b∈frs X.stack,H b=none/\∃o,s.heap.get? b=some o/\∀vs,o.data≠.fields vs:=fun b hb=>⟨I.stkFree b hb,(I.stack.mem hb).2⟩
 have eB:Bh.get? e=none:=fly.2.1
 obtain⟨oe0,vs0,he0,_,hd0,_⟩:=fly.first
 have eS:s.heap.get? e=none:=by
  cases q:s.heap.get? e with
  |none=>rfl
  |some o0=>
   by_cases hb:e∈frs X.stack
   ·obtain⟨_,o1,g1,g2⟩:=fly.2.2.1.mem hb
    rw[he0]at g1;cases g1;exact absurd hd0 (g2 vs0)
   ·obtain⟨o',q'⟩:=thr e o0 q hb
    rw[eB]at q';cases q'
 have e0:X.s₀.heap.get? e=none∨e∈X.ex:=by
  by_cases hx:e∈X.ex
  ·exact .inr hx
  ·refine .inl ?_
   cases q:X.s₀.heap.get? e with
   |none=>rfl
   |some o0=>obtain⟨o',q'⟩:=I.base.there e o0 q hx;rw[eS]at q';cases q'
 have eH:H' e=none:=by
  cases q:H' e with
  |none=>rfl
  |some u=>
   have ok:=hok e u q
   have:∃o,Bh.get? e=some o:=by
    cases u with
    |lst xs=>obtain⟨_,_,_,_,z⟩:=ok;exact⟨_,z⟩
    |tup xs=>obtain⟨_,_,_,ob,z,_⟩:=ok;exact⟨_,z⟩
    |dK kvs=>obtain⟨_,_,_,_,o,_,_,z,_⟩:=ok;exact⟨_,z⟩
    |dT C kvs=>obtain⟨_,_,_,_,o,_,_,z,_⟩:=ok;exact⟨_,z⟩
    |set S n=>obtain⟨o,_,_,_,z,_⟩:=ok;exact⟨_,z⟩
    |ins C dx fs=>obtain⟨_,_,_,z,_⟩:=ok;exact⟨_,z⟩
    |own y=>obtain⟨_,z⟩:=ok;exact⟨_,z⟩
    |xd fs=>obtain⟨_,⟨_,_,_,z,_⟩,_⟩:=ok;exact⟨_,z⟩
    |rng lo hi=>obtain⟨_,_,_,z⟩:=ok;exact⟨_,z⟩
    |frz ob u=>obtain⟨z,_⟩:=ok;exact⟨_,z⟩
    |tbl ps=>exact⟨_,(show Bh.get? e=some _ from ok)⟩
    |met f y=>exact⟨_,(show Bh.get? e=some _ from ok)⟩
    |ext φ=>obtain⟨_,z,_⟩:=ok;exact z
   rw[eB]at this;obtain⟨_,z⟩:=this;cases z
 have invAt:∀h2:Heap,Bh.StaysIn h2->s'.heap.UpToSlots h2->Inv X pins σ H' {s' with heap:=h2}:=fun h2 st ups=>
  I.call' (s':={s' with heap:=h2}) (ch:=[]) os (b7P un kept thr st ups frF) (hok.kept fun b u q=>st b u q) bare (fun b z=>absurd z (by simp))
 rw[hst]at fly;have frames:X.A.frames=some (X.env::X.outer):=by rw[I.ok.frames,hst]
 refine wpAny_looks_onW (L:=X.env.locals) frames hfr fly fun h4 held4 ups4=>?_
 refine wpAny_landsW held4 fun h5 fly5 ups5=>?_
 have I5:=invAt h5 fly5.1 (ups4.trans ups5)
 refine wpAny_handleBy_cons (codeAny_handlers_test ?_) (by intro q;cases q)
 have markI:∀{σ:St}{H:Hp}{s:Shared},Inv X pins σ H s->Inv ({X with A:=X.A.mark (some (.ref e)),calm:=false,xe:=fun _ _=>False}:Cx) pins σ H s:=fun J=>
  ⟨⟨J.ok.mod,J.ok.kind,J.ok.glob,J.ok.blt,J.ok.above,J.ok.inj,J.ok.has,J.ok.cab,(fun z=>nomatch z),J.ok.frames,J.ok.stk,J.ok.exf,J.ok.bs,J.ok.bsz,J.ok.noex,J.ok.exfs,J.ok.funs,J.ok.frf⟩,J.os,J.bare,J.base,J.loc,J.cell,J.free,J.freeC,J.pin,J.hok,J.len⟩
 have unmark:∀{σ:St}{H:Hp}{s:Shared},Inv ({X with A:=X.A.mark (some (.ref e)),calm:=false,xe:=fun _ _=>False}:Cx) pins σ H s->Inv X pins σ H s:=fun J=>⟨I.ok,J.os,J.bare,J.base,J.loc,J.cell,J.free,J.freeC,J.pin,J.hok,J.len⟩
 refine a3I (X:=({X with A:=X.A.mark (some (.ref e)),calm:=false,xe:=fun _ _=>False}:Cx)) (markI I5) hgS (mg_of I.mod.kin I.mod.glob hS) ?_ hdS
 obtain⟨od,cd,sl,hlk⟩:=b7R (let ⟨Z,z1,z2⟩:=b1z hoS;by rw[hS]at z1;cases z1;exact z2)
 obtain⟨oe5,vs5,he5,hc5,_,_⟩:=fly5.first
 refine b7Q I5.kIn ⟨oe5,he5,hc5⟩ hsub (b7S hkS) hlk ?_
 dsimp only[if_true];refine codeAny_handlers_suite_as ?_
 refine lands_againW fly5 fun h6 fly6 ups6=>?_
 have I6:=invAt h6 fly6.1 ((ups4.trans ups5).trans ups6)
 obtain⟨oe6,vs6,he6,hc6,_,_⟩:=fly6.first
 have hexN:e∉X.ex:=fun z=>by rw[hex]at z;cases z
 have I7:Inv X pins σ (upd H' e (.ext (a0q e C))) {s' with heap:=h6}:=by
  refine b7M I6 eH (e0.elim id fun z=>absurd z hexN) (fun z=>?_) (fun x c q z=>?_) (fun p q z=>?_) ⟨oe6,he6,hc6⟩ ⟨_,he6⟩ fun h1 h2 p k=>?_
  ·obtain⟨m,⟨o1,_,_,g,_⟩,_⟩:=I.loc
   rw[←z,eS]at g;cases g
  ·obtain⟨v,o1,g,_⟩:=I.cell x c q
   rw[z,eS]at g;cases g
  ·obtain⟨g,_⟩:=I.pin p q
   rw[z,eS]at g;cases g
  ·obtain⟨o1,g1,g2⟩:=p
   exact⟨o1,k o1 g1,g2⟩
 refine a4r I7 hN hi (.inl hil) (show v4_ (.ref e) (.ref e)from rfl) (fun s8 I8=>?_) (.inr hil)
 have hiσ:i<σ.length:=by rw[I.len];exact(Qg.mp hi).1
 refine Zv (a9H (a5j (X:=({X with A:=X.A.mark (some (.ref e)),calm:=false,xe:=fun _ _=>False}:Cx)) (pos:=apos) (pos':=yp) hN hj (.inl hjl) (a6s (pos:=np) hi (.inl hil) hdn hcdn) hsw (.inr hjl)) pins s8 (σ.set i (some (.ref e))) (upd H' e (.ext (a0q e C)))
  {nx:=fun σ' H2=>σ'=(σ.set i (some (.ref e))).set j (some (.ref e))/\H2=upd H' e (.ext (a0q e C)),rt:=fun _ _=>False} (markI I8) ⟨_,Zg hiσ,rfl,rfl⟩) (fun f s9 q=>?_) fun _ _ z=>z.elim
 cases f with
 |ret u=>obtain⟨_,_,_,_,_,z⟩:=q;exact z.elim
 |brk=>obtain⟨_,_,_,z⟩:=q;exact z.elim
 |cont=>obtain⟨_,_,_,z⟩:=q;exact z.elim
 |next=>
  obtain⟨σ9,H9,I9,rfl,rfl⟩:=q;refine b7O (unmark I9) hN hi hil fun s10 I10=>?_
  refine⟨_,_,I10,?_⟩;have ev2:=evx.trans (evx.rel.alloc (o:=.ext (a0q e C)) eH);have rp:Rep X.K (upd G' e (.ext (a0q e C))) (.ref e) (exD c):=by
   simp only[Rep];exact⟨e,C,_,rfl,hC,y6_,b7G F.kit,b7H F.kit⟩
  exact hD _ _ _ (((ev2.setDat (i:=i) rp).setDat (i:=j) rp).setNone (i:=i))
theorem b7V(hst:X.stack=X.env::X.outer)(hfr:X.env.frame=some X.env.locals)(hex:X.ex=[])(hx:a1E X.K S names=true)(hN:X.N.Nodup)(h0:X.N[i0]? =some x)(hv:Vis X.env.scope x)
  (hi:X.N[i]? =some n)(hil:X.env.scope.names.lookup n=some .local)(hj:X.N[j]? =some y)(hjl:X.env.scope.names.lookup y=some .local)(hgS:Gl X S)
  (fn:∀pins σ H s,Inv X pins σ H s->a4d fl s.heap)(clo:a7K X B fl o G₀)
  (hdx:(x==("__debug__":Str))=false:=by decide)(hcdx:(x==("__classdict__":Str))=false:=by decide)(hdS:(S==("__debug__":Str))=false:=by decide)(hdn:(n==("__debug__":Str))=false:=by decide)(hcdn:(n==("__classdict__":Str))=false:=by decide)
  (hsw:swapsWith (.Name n np) (some (.Name y yp)) apos.line X.env=pure false:=by rfl)(hsw2:swapsWith (.Call (.Name x cp) [] [] cpos) none epos.line X.env=pure false:=by rfl):
  PS X (.Try [.Expr (.Call (.Name x cp) [] [] cpos) epos] [.ExceptHandler (some (.Name S sp)) (some n) [.Assign [.Name y yp] (.Name n np) apos] hpos] [] [] tpos) (b7U X B names fl i0 i j o G₀):=by
 intro pins s σ H D I ⟨hσ,hH,env,rl,hN0,hX0⟩;subst hH;refine wpAny_Try_except ?_
 refine wpAny_execs_cons (wpAny_Expr_any ?_ I.quiet hsw2);refine Yo ?_
 have name:=fun(W:OE)=>a6s (X:=X.wish W) (pos:=cp) h0 hv hdx hcdx pins s σ X.H₀ (fun v H'=>v=.ref fl/\H'=X.H₀) (I.wish W) ⟨_,hσ,rfl,rfl⟩
 refine Zv (name fun _ _=>False) (fun u s1 ⟨v,H1,I1,r1,q1,q2⟩=>?_) fun _ _ z=>False.elim z
 subst q1;subst q2;cases (show u=Value.ref fl from r1)
 have I1:=I1.unwish
 refine callWith_of (P:=a4d fl) rfl (fun h p=>b7T h p) (evalArgs_nil3 ⟨fn pins σ _ s1 I1,?_⟩)
 refine wpAny_call (Vv (clo pins s1 σ env (fun _ H'=>D.nx σ H') (fun cls _ H'=>∃c C G',o=some c/\nsIn X.K mainGlobals c=some (some (.ref C))/\cls=.ref C/\Ev X.K B G₀ σ env _ G' σ env H') I1 rl (fun z v G' H' ev=>hN0 z G' H' ev) (fun c C z hC G' H' ev=>⟨c,C,G',z,hC,rfl,ev⟩)) fun r s' hq=>?_)
 cases r with
 |error ev=>exact caught hst hfr hex hx hN hi hil hj hjl hgS I1 rl hX0 hq hdS hdn hcdn hsw
 |ok f=>
  cases f with
  |next=>exact False.elim hq
  |brk=>exact False.elim hq
  |cont=>exact False.elim hq
  |ret u=>
   obtain⟨v,H',I',_,q⟩:=I1.after hq;exact Uf (Uf ⟨σ,H',I',q⟩)
end
def a7L(names:List Str)(i j:Nat)(o:Option Str):Mo Fl:=fun env=>match o with
 |none=>some (.nx,env)
 |some c=>if names.contains c then some (.nx,((env.set i (.dat (exD c))).set j (.dat (exD c))).set i .nil)else none
section
variable{X:Cx}{B:OA}{S n x y:Str}{names:List Str}{i0 i j:Nat}{fl:Addr}{o:Option Str}{G₀:Hp}{cp cpos epos sp yp np apos hpos tpos yp0 spos0 npos0:Pos}{rest:List Stmt}{m:Mo Fl}{kk:Nat}
theorem b7W(hst:X.stack=X.env::X.outer)(hfr:X.env.frame=some X.env.locals)(hex:X.ex=[])(hx:a1E X.K S names=true)(hN:X.N.Nodup)(h0:X.N[i0]? =some x)(hv:Vis X.env.scope x)
  (hi:X.N[i]? =some n)(hil:X.env.scope.names.lookup n=some .local)(hj:X.N[j]? =some y)(hjl:X.env.scope.names.lookup y=some .local)(hij:i0≠j)(hgS:Gl X S)
  (fn:∀pins σ H s,Inv X pins σ H s->a4d fl s.heap)(clo:a7K X B fl o G₀)(hr:ESs X B rest m)
  (hdx:(x==("__debug__":Str))=false:=by decide)(hcdx:(x==("__classdict__":Str))=false:=by decide)(hdS:(S==("__debug__":Str))=false:=by decide)(hdn:(n==("__debug__":Str))=false:=by decide)(hcdn:(n==("__classdict__":Str))=false:=by decide)
  (hsw:swapsWith (.Name n np) (some (.Name y yp)) apos.line X.env=pure false:=by rfl)(hsw2:swapsWith (.Call (.Name x cp) [] [] cpos) none epos.line X.env=pure false:=by rfl)
  (hsw3:swapsWith (.Constant .none kk npos0) (some (.Name y yp0)) spos0.line X.env=pure false:=by rfl):
  PSs X (.Assign [.Name y yp0] (.Constant .none kk npos0) spos0::.Try [.Expr (.Call (.Name x cp) [] [] cpos) epos] [.ExceptHandler (some (.Name S sp)) (some n) [.Assign [.Name y yp] (.Name n np) apos] hpos] [] [] tpos::rest)
   (fun D σ H=>σ[i0]? =some (some (.ref fl))/\H=X.H₀/\∃env f env',Rel X.K B G₀ σ env H/\(q2_ (q8_ j (mC .non)) (q2_ (a7L names i j o) m)) env=some (f,env')/\Post X.K B G₀ σ env H env' D f):=by
 refine pss_imp (a3J (a5j hN hj (.inl hjl) a9F hsw3 (.inr hjl)) (a3J (b7V hst hfr hex hx hN h0 hv hi hil hj hjl hgS fn clo hdx hcdx hdS hdn hcdn hsw hsw2) hr)) ?_
 rintro D σ H ⟨hσ,hH,env,f,env',rl,e,k⟩;obtain⟨⟨f1,env1⟩,e1,e2⟩:=q6_ e;cases e1;dsimp only at e2;obtain⟨⟨f2,env2⟩,e3,e4⟩:=q6_ e2;have ev1:Ev X.K B G₀ σ env H G₀ (σ.set j (some .non)) (env.set j (.dat .non)) H:=(Ev.refl rl).setDat (i:=j) (v:=.non) (d:=.non) (by simp only[Rep])
 refine⟨by rw[Qm (Zy hij)];exact hσ,hH,_,ev1.rel,fun z G' H' ev=>?_,fun c z=>?_⟩
 ·subst z
  cases e3;exact⟨G',_,f,env',ev.rel,e4,Post.after _ _ k (ev1.trans ev)⟩
 ·subst z
  unfold a7L at e3;dsimp only at e3;split at e3
  ·rename_i hc
   cases e3;exact⟨by simpa using hc,fun σ' G' H' ev=>⟨G',_,f,env',ev.rel,e4,Post.after _ _ k (ev1.trans ev)⟩⟩
  ·cases e3
end
theorem b7X{X:Cx}{E:XK}(hst:X.stack=X.env::X.outer)(hfr:X.env.frame=some X.env.locals)(hex:X.ex=[])
  (hxe:∀e s',wpAny (model X.prog X.w) X.A (leaving X.env e) (fun _ s''=>CXE X.prog X.w X.outer X.H₀ X.s₀ E e s'') (fun e' s''=>CXE X.prog X.w X.outer X.H₀ X.s₀ E e' s'') s'->X.xe e s'):XOk X E:=by
 refine⟨fun pins σ H s ev s' I h=>hxe _ _ ?_,fun pins σ H s h' e C vs I hm hE=>hxe _ _ ?_⟩
 ·obtain⟨e,t,C,H',Bh,rfl,os,bare,fly,un,hok,kept,thr,hE⟩:=h
  rw[hst]at fly;refine wpAny_leaves_onW (L:=X.env.locals) (by rw[I.ok.frames,hst]) hfr fly fun h2 fly2 ups=>?_
  refine a5S hst hfr hex I os bare fly2 kept thr (fun b o q n hb=>?_) (fun b o q n=>un.free b o q n (by simp)) un.tups un.frzs un.tbls hok hE
  obtain⟨sl,q1⟩:=un.any q n (by simp)
  obtain⟨_,o1,g1,g2⟩:=I.funs.mem hb;rw[q]at g1;cases g1;obtain⟨sl2,q2⟩:=ups b _ q1 g2;exact⟨sl2,q2⟩
 ·have hs:=I.stack
  rw[hst]at hs;refine wpAny_leaves_madeW (L:=X.env.locals) (base:=hideAll s.heap (frs X.stack)) (h:=s.heap) (by rw[I.ok.frames,hst]) hfr (fun b o q=>of_hideAll _ q)
   (funFrames_hide hs fun env he b hb=>by rw[hst];exact Ye.mpr ⟨env,he,hb⟩) hm fun h2 t fly _ hn ups=>?_
  refine a5S (s:=s) (s':={s with heap:=h2}) hst hfr hex I rfl I.bare fly (fun b o q _ hb=>Jp _ q hb) (fun b o q hb=>⟨o,Jp _ q hb⟩) (fun b o q n hb=>?_) (fun b o q n=>n) (fun _ _ q=>q) (fun _ _ _ q=>q) (fun b ps q=>⟨#[],by rw[q];simp⟩) ?_ hE
  ·obtain⟨_,o1,g1,g2⟩:=I.funs.mem hb
   rw[q]at g1;cases g1;obtain⟨sl2,q2⟩:=ups b _ (hm.keeps b o q) g2;exact⟨sl2,q2⟩
  ·exact b1y (P:=X.prog) (w:=X.w) I.hok fun b u o q1 q2=>Jp _ q2 fun z=>by rw[I.stkFree b z]at q1;cases q1
theorem a4Q{K:Frag}{B1 B2:OA}{G G' H H':Hp}{σ1 σ1' σ2:St}{env1 env1' env2:Env'}(ev:Ev K B1 G σ1 env1 H G' σ1' env1' H')(no:∀a,¬ Owned σ1 env1 a)(rl:Rel K B2 G σ2 env2 H):Ev K B2 G σ2 env2 H G' σ2 env2 H':=by
 refine⟨⟨ev.rel.sub,rl.len,fun i d e=>?_,fun i w ds e1 e2=>?_,rl.inj,rl.fresh,fun b h=>ev.live b (rl.old b h),ev.rel.tabs,ev.rel.gnt⟩,ev.same,fun b o _ t e=>ev.keep b o (no b) t e,ev.live,fun b e _ g=>ev.stay b e (no b) g,fun a z=>.inl z,fun i w e hp=>⟨rfl,w,e,hp⟩,rfl⟩
 ·obtain⟨v,q1,q2⟩:=rl.dat i d e
  exact⟨v,q1,Rep.mono ev.same d q2⟩
 ·obtain⟨a,xs,q1,q2,q3,q4⟩:=rl.own i w ds e1 e2
  exact⟨a,xs,q1,ev.keep a _ (no a) q3.nt q2,q3.mono ev.same,ev.stay a (by rw[q2];simp) (no a) q4⟩
theorem b1H{K:Frag}{B:OA}{G H:Hp}{σ:St}{env:Env'}(rl:Rel K B G σ env H):Rel K u6_ G [] [] H:=
 ⟨rl.sub,rfl,fun i d e=>by simp at e,fun i w ds e=>by simp at e,fun i j w w' ds es a e=>by simp at e,fun i ds a e=>by simp at e,fun b h=>h.elim,rl.tabs,rl.gnt⟩
theorem a7M{a:Addr}:¬ Owned [] [] a:=fun⟨i,w,ds,e,_⟩=>by simp at e
def a2v(P:Program)(w:World)(K:Frag)(mg:OU)(base:Heap)(N':List Str)(q:Str)(scope:Scope)(fl:Addr)(cd:Value)(cl:List (Str×Addr))(A:Around)(outer:List Env)(s:Shared)(H:Hp)(E:XK):Cx where
 prog:=P
 w:=w
 K:=K
 mg:=mg
 base:=base
 A:=A.deeper (envX q scope s.heap.objs.size fl cd cl)
 N:=N'
 s₀:=s
 H₀:=H
 env:=envX q scope s.heap.objs.size fl cd cl
 outer:=outer
 stack:=envX q scope s.heap.objs.size fl cd cl::outer
 ex:=[]
 fn:=fun _=>false
 calm:=true
 pn:=[]
 xe:=fun e s'=>wpAny (model P w) (A.deeper (envX q scope s.heap.objs.size fl cd cl)) (leaving (envX q scope s.heap.objs.size fl cd cl) e) (fun _ s''=>CXE P w outer H s E e s'') (fun e' s''=>CXE P w outer H s E e' s'') s'
section
variable{P:Program}{w:World}{K:Frag}{mg:OU}{base:Heap}{N':List Str}{q:Str}{scope:Scope}{fl:Addr}{cd:Value}{cl:List (Str×Addr)}{A:Around}{outer:List Env}{s:Shared}{H:Hp}{E:XK}{σ:St}
theorem a7N:XOk (a2v P w K mg base N' q scope fl cd cl A outer s H E) E:=b7X rfl rfl rfl fun _ _ h=>h
theorem b7Y{h₁:Heap}{m:OU}{tk:Nat}(e0:Env0 P w K mg base A outer s H)(hd:A.handled=none)(hk:scope.kind=.function)(hnc:∀x,scope.names.lookup x≠some .cell)
  (inj:∀x y c,cl.lookup x=some c->cl.lookup y=some c->x=y)(has:∀x,scope.names.lookup x=some .free->∃c,cl.lookup x=some c)
  (cell:∀x c,cl.lookup x=some c->(∃v,s.heap.IsCell c v)/\H c=none)
  (val:∀(i:Nat) (x:Str) (v:V),N'[i]? =some x->σ[i]? =some (some v)->Vis scope x->scope.names.lookup x=some .free/\∃c u,cl.lookup x=some c/\v4_ v u/\s.heap.IsCell c (some u))
  (hl:σ.length=N'.length)(hns:h₁.Ns s.heap.objs.size m)(kp:∀b o,s.heap.get? b=some o->h₁.get? b=some o):
  Inv (a2v P w K mg base N' q scope fl cd cl A outer s H E) [] σ H {s with heap:=h₁,toks:=tk}:=by
 have noA:∀b:Addr,b∉(a2v P w K mg base N' q scope fl cd cl A outer s H E).ex:=fun b z=>absurd (show b∈([]:List Addr)from z) (by simp)
 refine⟨⟨e0.mod,hk,rfl,rfl,Qb _,inj,fun y hy=>?_,fun y c z=>absurd (show(false:Bool)=true from z) (by decide),fun _=>hd,Around.frames_deeper e0.frames,.inr ⟨rfl,rfl⟩,fun b z=>absurd z (noA b),e0.bs,e0.bsz,fun b _ _=>noA b,fun b z=>absurd z (noA b),e0.funs,e0.frf⟩,
  rfl,e0.bare,Un.kept kp,⟨_,hns,fun i x v h1 h2 h3=>?_⟩,fun x c e=>?_,e0.hok.fresh (Qb _),fun x c e=>(cell x c e).2,fun p hp=>absurd (show p∈([]:OX)from hp) (by simp),e0.hok.kept kp,hl⟩
 ·rcases hy with hy|hy
  ·exact absurd hy (hnc y)
  ·exact has y hy
 ·obtain⟨k,c,u,g1,g2,g3⟩:=val i x v h1 h2 h3
  exact⟨u,g2,.inr ⟨.inr k,c,g1,g3.keeps kp⟩⟩
 ·obtain⟨⟨v,z⟩,_⟩:=cell x c e
  exact⟨v,z.keeps kp⟩
end
structure LamAt(K:Frag)(params:Arguments)(body:Expr)(scope:Scope)(N':List Str)(lq:Str)(fl c':Addr)(cl:List (Str×Addr))(σ:St)(s₁:Shared)(H₁:Hp)(outer₁:List Env):Prop where
 obj:∃pm ctv,s₁.heap.get? fl=some (kla_obj "<lambda>" lq params body scope cl pm c' ctv)
 free:H₁ fl=none
 nfr:fl∉frs outer₁
 code:∃φ,H₁ c'=some (.ext φ)/\∀h:Heap,φ h->h.CodeRec (.ref c') lq
 inj:∀x y c,cl.lookup x=some c->cl.lookup y=some c->x=y
 has:∀x,scope.names.lookup x=some .free->∃c,cl.lookup x=some c
 cell:∀x c,cl.lookup x=some c->(∃v,s₁.heap.IsCell c v)/\H₁ c=none/\c∉frs outer₁
 val:∀(i:Nat) (x:Str) (v:V),N'[i]? =some x->σ[i]? =some (some v)->Vis scope x->scope.names.lookup x=some .free/\∃c u,cl.lookup x=some c/\v4_ v u/\s₁.heap.IsCell c (some u)
 len:σ.length=N'.length
def a7O(P:Program)(w:World)(K:Frag)(mg:OU)(base:Heap)(kc:Nat)(fl:Addr)(s₁:Shared)(H₁:Hp)(outer₁:List Env)(o:Option Str)(G:Hp):Prop:=
 (∀(H':Hp) (s:Shared),Un (frs outer₁) [] H₁ H' s₁.heap s.heap->a4d fl s.heap)/\
 ∀(A:Around) (outer:List Env) (s:Shared) (Q:VK) (E:XK),Room kc A->Env0 P w K mg base A outer s H₁->Un (frs outer₁) [] H₁ H₁ s₁.heap s.heap->
  (o=none->∀v G' H',Ev K u6_ G [] [] H₁ G' [] [] H'->Q v H')->
  (∀n C,o=some n->nsIn K mainGlobals n=some (some (.ref C))->∀G' H',Ev K u6_ G [] [] H₁ G' [] [] H'->E (.ref C) none H')->
  codeAny (model P w) A (.call (.ref fl) ⟨[],[]⟩) (CR (CXE P w) outer P w H₁ s Q E) s
def outcome(names:List Str)(mb:Mo D)(xb:Mx)(env:Env'):Option (Option Str):=match xb env with
 |some n=>if names.contains n then some (some n)else none
 |none=>(mb env).map fun _=>none
theorem b7Z{P:Program}{w:World}{K:Frag}{mg:OU}{base:Heap}{kc:Nat}{params:Arguments}{body:Expr}{scope:Scope}{N':List Str}{lq:Str}{fl c':Addr}{cl:List (Str×Addr)}{σ:St}{s₁:Shared}{H₁ G:Hp}{outer₁:List Env}{o:Option Str}{lw:Env'}{mb:Mo D}{xb:Mx}
  (L:LamAt K params body scope N' lq fl c' cl σ s₁ H₁ outer₁)(hk:scope.kind=.function)(hco:scope.isCoroutine=false)(hgen:scope.isGenerator=false)(hnc:∀x∈scope.names,x.2≠.cell)
  (hbind:∀pm ctv,bindArgs (kla_fn "<lambda>" lq params body scope cl pm (.ref c') ctv) ⟨[],[]⟩=pure [])
  (rl:Rel K (fun b=>H₁ b≠none) G σ lw H₁)(no:∀a,¬ Owned σ lw a){S:Str}{names:List Str}(hex:a1E K S names=true)(ho:outcome names mb xb lw=some o)
  (hb:∀(A:Around) (outer:List Env) (s:Shared) (E:XK),Room kc (A.deeper (envX lq scope s.heap.objs.size fl (.ref c') cl))->ED (a2v P w K mg base N' lq scope fl (.ref c') cl A outer s H₁ E) (fun b=>H₁ b≠none) body mb)
  (hx:∀(A:Around) (outer:List Env) (s:Shared) (E:XK),Room kc (A.deeper (envX lq scope s.heap.objs.size fl (.ref c') cl))->EDx (a2v P w K mg base N' lq scope fl (.ref c') cl A outer s H₁ E) (fun b=>H₁ b≠none) E body xb):
  a7O P w K mg base (kc+1) fl s₁ H₁ outer₁ o G:=by
 obtain⟨pm,ctv,hobj⟩:=L.obj;have hnc':∀x,scope.names.lookup x≠some .cell:=fun x z=>hnc _ (Qt z) rfl
 refine⟨fun H' s un=>⟨_,_,un.keep fl _ hobj L.free L.nfr (by simp),rfl⟩,fun A outer s Q E hr e0 un hN hX=>?_⟩
 have cellK:∀x c v,cl.lookup x=some c->s₁.heap.IsCell c v->s.heap.IsCell c v:=fun x c v e ⟨oc,h1,h2⟩=>⟨oc,un.keep c oc h1 (L.cell x c e).2.1 (L.cell x c e).2.2 (by simp),h2⟩
 have hcd:s.heap.CodeRec (.ref c') lq:=by
  obtain⟨φ,h1,h2⟩:=L.code;exact h2 _ (e0.hok c' _ h1).1
 have lim:s.heap.NoLimit:=e0.mod.nolimit.keeps fun b o e=>(e0.bs b o e).1
 refine kla_callFunE hr.depth (un.keep fl _ hobj L.free L.nfr (by simp)) rfl hco hgen rfl hcd ?_
 rw[hbind];refine Qv (wpAny_newFunctionEnv hnc (fun x z=>by simp at z) (fun h₁ hns hsb=>⟨lim.fresh _ hsb,?_⟩) hk)
 show codeAny _ _ (.expr body (envX lq scope s.heap.objs.size fl (.ref c') cl)) _ _;have kp:∀b o,s.heap.get? b=some o->h₁.get? b=some o:=fun b o e=>hsb.extBut b o (Qr (Qu e)) (Qj _ e)
 have I:Inv (a2v P w K mg base N' lq scope fl (.ref c') cl A outer s H₁ E) [] σ H₁ {s with heap:=h₁,toks:=s.toks+([]:List (Str×Value)).length}:=by
  refine b7Y e0 hr.hd hk hnc' L.inj L.has (fun x c e=>?_) (fun i x v h1 h2 h3=>?_) L.len hns kp
  ·obtain⟨⟨v,z⟩,z2,_⟩:=L.cell x c e
   exact⟨⟨v,cellK x c v e z⟩,z2⟩
  ·obtain⟨k,c,u,g1,g2,g3⟩:=L.val i x v h1 h2 h3
   exact⟨k,c,u,g1,g2,cellK x c _ g1 g3⟩
 have side:∀{G' H':Hp}{σ':St}{lw':Env'},Ev K (fun b=>H₁ b≠none) G σ lw H₁ G' σ' lw' H'->Ev K u6_ G [] [] H₁ G' [] [] H':=fun ev=>a4Q ev no (b1H rl)
 refine kla_codeExpr ?_
 unfold outcome at ho;cases hxb:xb lw with
 |some n=>
  rw[hxb]at ho;dsimp only at ho;split at ho
  ·rename_i hn
   cases ho;obtain⟨C,F⟩:=a4c hex (by simpa using hn)
   exact Zv (hx A outer s E (hr.deeper _) [] _ σ H₁ (fun _ _=>False) I ⟨G,lw,n,rl,hxb,C,F.nm,fun σ' G' env' H' ev=>hX n C rfl F.nm G' H' (side ev)⟩) (fun v s' ⟨_,_,_,_,z⟩=>z.elim) fun _ _ z=>z
  ·cases ho
 |none=>
  rw[hxb]at ho;obtain⟨⟨d,lw'⟩,e1,e2⟩:=y5_ ho;cases e2;refine Zv (hb A outer s E (hr.deeper _) [] _ σ H₁ Q I ⟨G,lw,d,lw',rl,e1,fun v G' H' ev rp=>hN rfl v G' H' (side ev)⟩) (fun v s' ⟨x,H',J,rv,z⟩=>?_) fun _ _ z=>z
  exact⟨x,H',J.os,J.bare,J.base,J.hok,rv,z⟩
theorem b8a{K:Frag}{c P:Addr}{q qual:Str}(h1:codeHdIn K c P=true)(h2:codeIn K (.ref c) qual=true)(h3:tabQ K P q=true):q=qual:=by
 unfold codeHdIn at h1;unfold codeIn at h2;split at h1
 ·rename_i vs _ hk
  have m:=Qw.mp h3 _ (mem_of_lookupK hk)
  simp only[hk]at h2;simp only[Qy]at h1;obtain⟨⟨⟨⟨⟨e1,_⟩,_⟩,_⟩,_⟩,_⟩:=h1
  replace m:((match (vs[11]? :Option Value)with|some (.ref P')=>P' !=P|_=>true)||(match vs.toList with|_::.str n _::_=>n==q|_=>false))=true:=by
   split at m
   ·rename_i heq;cases heq;exact m
   ·rename_i hne;exact absurd rfl (hne _ _ _)
  split at e1
  ·rename_i P' h11
   have hP:P'=P:=Yn.mp e1
   subst hP;rw[h11]at m;simp only[bne_self_eq_false,Bool.false_or]at m;split at h2
   ·rename_i n t r hl
    simp only[hl]at m;rw[←Yn.mp m,←Yn.mp h2]
   ·cases h2
  ·cases e1
 ·cases h1
def a1U(mg:OU)(base:Heap):Prop:=∃bm o,mg "__builtins__"=some (.ref bm)/\bm≠builtinsNs/\bm≠mainGlobals/\base.get? bm=some o/\o.cls=.type "module"/\o.dict=some builtinsNs/\o.data=.plain
theorem b8b{l:List Value}(h:TriplesOk l):l=[]∨ ∃a t b u d rest,l=.int a t::.int b u::d::rest/\TriplesOk rest:=by
 cases l with
 |nil=>exact .inl rfl
 |cons x l=>
  cases x<;>first|exact False.elim h|skip
  cases l with
  |nil=>exact False.elim h
  |cons y l=>
   cases y<;>first|exact False.elim h|skip
   cases l with
   |nil=>exact False.elim h
   |cons d rest=>exact .inr ⟨_,_,_,_,_,_,rfl,h⟩
theorem b1I{M:List Value->Prop}(h0:M [])(h1:∀a t b u d rest,TriplesOk rest->M rest->M (.int a t::.int b u::d::rest))(l:List Value)(h:TriplesOk l):M l:=by
 have:∀(n:Nat) (l:List Value),l.length≤n->TriplesOk l->M l:=by
  intro n
  induction n with
  |zero=>
   intro l hl h;cases l with
   |nil=>exact h0
   |cons x l=>exact absurd hl (Nat.not_succ_le_zero _)
  |succ n ih=>
   intro l hl h
   rcases b8b h with rfl|⟨a,t,b,u,d,rest,rfl,hr⟩
   ·exact h0
   ·exact h1 _ _ _ _ _ _ hr (ih rest (by simp only[Ji]at hl;omega) hr)
 exact this l.length l (Qb _) h
theorem b8c(l:List Value){a b:Int}{t u:Tok}{c:Value}(h:TriplesOk l):TriplesOk (l++[.int a t,.int b u,c]):=
 b1I (M:=fun l=>TriplesOk (l++[.int a t,.int b u,c])) trivial (fun _ _ _ _ _ _ _ ih=>ih) l h
theorem b8d(l:List Value){pos pos':Pos}{c v:Value}(hk:TriplesOk l):codeAmong pos' (l++[rawInt pos.line,rawInt pos.col,c])=some v->codeAmong pos' l=some v∨v=c:=by
 refine b1I (M:=fun l=>codeAmong pos' (l++[rawInt pos.line,rawInt pos.col,c])=some v->codeAmong pos' l=some v∨v=c) (fun h=>?_) (fun a t b u d rest _ ih h=>?_) l hk
 ·change (if(pos.line:Int)==pos'.line&&(pos.col:Int)==pos'.col then some c else none)=some v at h
  split at h
  ·cases h;exact .inr rfl
  ·cases h
 ·change (if a==pos'.line&&b==pos'.col then some d else codeAmong pos' (rest++[rawInt pos.line,rawInt pos.col,c]))=some v at h
  show(if a==pos'.line&&b==pos'.col then some d else codeAmong pos' rest)=some v∨v=c
  split at h
  ·rename_i z;rw[Qc z];exact .inl h
  ·rename_i z;rw[Ql z];exact ih h
section
variable{X:Cx}{pins:OX}{σ:St}{H:Hp}{s:Shared}{P c:Addr}{ps:Array Value}{qual:Str}{scope:Scope}{cl:List (Str×Addr)}{params:Arguments}{body:Expr}{pos:Pos}
structure Made(X:Cx)(pins:OX)(σ:St)(H:Hp)(s:Shared)(P:Addr)(qual:Str)(params:Arguments)(body:Expr)(scope:Scope)(cl:List (Str×Addr))(fl c':Addr)(H1:Hp)(s1:Shared):Prop where
 inv:Inv X pins σ H1 s1
 ev:∀(B:OA) (G:Hp) (env:Env'),Rel X.K B G σ env H->Ev X.K B G σ env H G σ env H1
 obj:∃pm ctv,s1.heap.get? fl=some (kla_obj "<lambda>" (lamQ qual) params body scope cl pm c' ctv)
 new:s.heap.objs.size≤fl
 free:H1 fl=none
 code:H1 c'=some (LamC X.K P c')
 keep:∀b o,H b=none->s.heap.get? b=some o->s1.heap.get? b=some o/\H1 b=none
theorem b8e{M:Model}{A:Around}{E:OE}{Q:OE}(I:Inv X pins σ H s)(hcode:X.env.code=.ref c)(hc:codeHdIn X.K c P=true)(hq:codeIn X.K (.ref c) qual=true)(htq:tabQ X.K P qual=true)(henv:X.env.qual=qual++".<locals>.")
  (bm:a1U X.mg X.base)(hP:H P=some (.tbl ps))(tabs:TabsOk X.K H)(hcl:closureFor scope X.env=pure cl)(hdef:defaultsOf params X.env=([],[]))
  (h:∀fl c' H1 s1,Made X pins σ H s P qual params body scope cl fl c' H1 s1->Q (.ref fl) s1):wpAny M A (eval (.Lambda params body scope pos) X.env) Q E s:=by
 obtain⟨ht,hent⟩:=tabs P ps hP;have hPo:s.heap.get? P=some (tabObj ps):=I.hok P _ hP;have C:=codeHd_of_K I.kIn hc;have nbase:∀{b o},X.base.get? b=some o->b≠P:=fun{b o} e z=>by rw[z]at e;have:=(I.bs P o e).2;rw[hP]at this;cases this
 have hgs:s.heap.Ns mainGlobals X.mg:=I.mod.glob.keeps I.bk
 have hgP:mainGlobals≠P:=by
  obtain⟨o,_,_,e,_⟩:=I.mod.glob;exact nbase e
 obtain⟨b,ob,b1,b2,b3,b4,b5,b6,b7⟩:=bm;have hB:s.heap.BuiltinsAt X.mg P:=⟨b,ob,b1,b2,b3,nbase b4,I.bk _ _ b4,b5,b6,b7⟩;have hlq:X.env.qual++"<lambda>"=lamQ qual:=by rw[henv];rfl
 refine kla_eval hdef ?_
 rw[hlq];cases hca:codeAmong pos ps.toList with
 |some cv=>
  obtain⟨c',rfl,hc'⟩:=hent pos cv hca;refine kla_makeFunctionHit hcl I.ok.glob hgs hcode C hPo ht hca hB fun ctv h' tk hk hsz=>?_
  have kp:∀b o,s.heap.get? b=some o->(h'.push ({cls:=.type "function",data:=.func (kla_fn "<lambda>" (lamQ qual) params body scope cl ((X.mg "__name__").getD .none) (.ref c') ctv)}:Obj)).get? b=some o:=fun b o e=>Qj _ (hk b o e)
  refine h h'.objs.size c' H _ ⟨?_,fun B G env rl=>.refl rl,⟨_,_,Qn _ rfl⟩,hsz,I.hok.fresh hsz,hc',fun b o n e=>⟨kp b o e,n⟩⟩
  exact I.kept kp
 |none=>
  refine kla_makeFunction hcl I.ok.glob hgs hcode C hPo ht hca hgP hB fun c' ctv h' tk hx hge hlt hrec htb=>?_
  have hfsz:s.heap.objs.size≤h'.objs.size:=Jj (Vl hge hlt)
  have hPc:P≠c':=Qr (Qd (Qu hPo) hge)
  have hnc:H c'=none:=I.hok.fresh hge
  have hcf:c'≠h'.objs.size:=Qr hlt
  have hPf:P≠h'.objs.size:=Qr (Qd (Qu hPo) hfsz)
  have get1:∀{b},(upd (upd H P (.tbl (ps++ #[rawInt pos.line,rawInt pos.col,.ref c']))) c' (LamC X.K P c')) b=if b=c' then some (LamC X.K P c')else if b=P then some (.tbl (ps++ #[rawInt pos.line,rawInt pos.col,.ref c']))else H b:=fun{b}=>rfl
  have kp:∀b o,b≠P->s.heap.get? b=some o->(h'.push (kla_obj "<lambda>" (lamQ qual) params body scope cl ((X.mg "__name__").getD .none) c' ctv)).get? b=some o:=fun b o n e=>Qj _ (hx b o n e)
  have other:∀{b u},H b=some u->b≠P->(upd (upd H P (.tbl (ps++ #[rawInt pos.line,rawInt pos.col,.ref c']))) c' (LamC X.K P c')) b=some u:=fun{b u} e n=>by
   rw[q4_ (j3_ e hnc),q4_ n];exact e
  have free1:∀{b o},H b=none->s.heap.get? b=some o->(upd (upd H P (.tbl (ps++ #[rawInt pos.line,rawInt pos.col,.ref c']))) c' (LamC X.K P c')) b=none:=fun{b o} n e=>by
   rw[q4_ (Qr (Qd (Qu e) hge)),q4_ (fun z=>by rw[z,hP]at n;cases n)];exact n
  have tab1:TabsOk X.K (upd (upd H P (.tbl (ps++ #[rawInt pos.line,rawInt pos.col,.ref c']))) c' (LamC X.K P c')):=by
   intro P2 ps2 e2;rw[get1]at e2;split at e2
   ·cases e2
   ·split at e2
    ·rename_i z
     subst z;cases e2;refine⟨by rw[Vh];exact b8c _ ht,fun p v e=>?_⟩
     rw[Vh]at e
     rcases b8d _ ht e with q|q
     ·obtain⟨a,q1,q2⟩:=hent p v q
      exact⟨a,q1,other q2 (fun z=>by rw[z,hP]at q2;cases q2)⟩
     ·exact⟨c',q,y6_⟩
    ·obtain⟨q1,q2⟩:=tabs P2 ps2 e2
     refine⟨q1,fun p v e=>?_⟩
     obtain⟨a,q3,q4⟩:=q2 p v e;exact⟨a,q3,other q4 (fun z=>by rw[z,hP]at q4;cases q4)⟩
  have live1:∀b,H b≠none->(upd (upd H P (.tbl (ps++ #[rawInt pos.line,rawInt pos.col,.ref c']))) c' (LamC X.K P c')) b≠none:=fun b e=>by
   rw[get1];split
   ·simp
   ·split
    ·simp
    ·exact e
  refine h h'.objs.size c' _ _ ⟨?_,fun B G env rl=>?_,⟨_,_,Qn _ rfl⟩,hfsz,?_,y6_,fun b o n e=>⟨kp b o (fun z=>by rw[z,hP]at n;cases n) e,free1 n e⟩⟩
  ·refine I.un (h':=h'.push (kla_obj "<lambda>" (lamQ qual) params body scope cl ((X.mg "__name__").getD .none) c' ctv)) (t':=tk) ⟨fun b o e n _ _=>?_,fun b o e n _ _=>⟨o.slots,?_⟩,fun b o e n _=>free1 n e,fun b o e _=>?_,fun b xs e=>?_,fun b o u e=>?_,fun b ps2 e=>?_⟩ fun b u e=>?_
   ·exact kp b o (fun z=>by rw[z,hP]at n;cases n) e
   ·exact kp b o (fun z=>by rw[z,hP]at n;cases n) e
   ·by_cases z:b=P
    ·subst z;exact⟨_,Qj _ htb⟩
    ·exact⟨o,kp b o z e⟩
   ·exact other e (fun z=>by rw[z,hP]at e;cases e)
   ·exact other e (fun z=>by rw[z,hP]at e;cases e)
   ·by_cases z:b=P
    ·subst z
     rw[hP]at e;cases e;exact⟨#[rawInt pos.line,rawInt pos.col,.ref c'],by rw[q4_ hPc,y6_]⟩
    ·exact⟨#[],by rw[other e z];simp⟩
   ·rw[get1]at e
    split at e
    ·rename_i z
     subst z;cases e;have hrec2:=hrec.push (kla_obj "<lambda>" (lamQ qual) params body scope cl ((X.mg "__name__").getD .none) b ctv);obtain⟨c2,oc,vs,t,e2,hoc,hd,hv⟩:=id hrec2;cases e2;refine⟨fun q hq2=>?_,⟨oc,hoc⟩,fun h1 h2 p k q hq2=>?_⟩
     ·rw[b8a hc hq hq2];exact hrec2
     ·obtain⟨c3,oc3,vs3,t3,e3,g1,g2⟩:=p q hq2
      cases e3;exact⟨_,oc3,vs3,t3,rfl,k oc3 g1,g2⟩
    ·split at e
     ·rename_i z
      subst z;cases e;exact Qj _ htb
     ·rename_i z1 z2
      refine(I.hok b u e).stay (fun b2 o2 hb q=>kp b2 o2 (fun z=>?_) q) (fun b2 q=>other q (fun z=>by rw[z,hP]at q;cases q)) fun b2 xs q=>other q (fun z=>by rw[z,hP]at q;cases q)
      rcases hb with hb|hb
      ·exact z2 (hb.symm.trans z)
      ·rw[z,hP]at hb;cases hb
  ·refine⟨⟨fun b o e=>?_,rl.len,rl.dat,fun i wv ds e1 e2=>?_,rl.inj,rl.fresh,fun b hb=>live1 b (rl.old b hb),tab1,rl.gnt⟩,Le.refl,fun b o _ nt e=>?_,live1,fun b e _ g=>g,fun a z=>.inl z,fun i w e hp=>⟨rfl,w,e,hp⟩,rfl⟩
   ·exact other (rl.sub b o e) (fun z=>by have q:=rl.sub b o e;rw[z,hP]at q;cases q;exact rl.gnt b _ e _ rfl)
   ·obtain⟨a,xs,q1,q2,q3,q4⟩:=rl.own i wv ds e1 e2
    exact⟨a,xs,q1,other q2 (fun z=>by rw[z,hP]at q2;cases q2;exact q3.nt _ rfl),q3,q4⟩
   ·exact other e (fun z=>by rw[z,hP]at e;cases e;exact nt _ rfl)
  ·rw[q4_ (Zy hcf),q4_ (Zy hPf)];exact I.hok.fresh hfsz
end
theorem b8f{CX:CXT}{P:Program}{w:World}{K:Frag}{mg:OU}{base:Heap}{k:Nat}{f:Addr}{name qual:Str}{params:Arguments}{body:List Stmt}{scope:Scope}{dV kV doc pm cdv ct oc:Value}{an od:Option Addr}
  {osl:Array (Option Value)}{N ps:List Str}(lk:K.lookup f=some ⟨oc,od,.func (fnOf name qual params body scope dV kV doc pm an cdv ct),osl⟩)(hcd:codeIn K cdv qual=true)(S:FnScope N ps scope)
  {A:Around}{outer:List Env}{s:Shared}{H:Hp}{args:Args}{us:List Value}{vs:List V}{Q:VK}{E:XK}(hr:Room (k+1) A)(e0:Env0 P w K mg base A outer s H)(hb:BindsTo s (fnOf name qual params body scope dV kV doc pm an cdv ct) args (ps.zip us))(r:q5_ vs us)(hl:vs.length=ps.length)
  (hbody:Room k (A.deeper (envOfC qual scope s.heap.objs.size f cdv))->∃t,PSs (j5_ CX P w K mg base N qual scope f cdv A outer s H E) body t/\t {nx:=fun _ H'=>Q .non H',rt:=Q} (start N vs) H):
  codeAny (model P w) A (.call (.ref f) args) (CR CX outer P w H s Q E) s:=by
 have KX:K.In s.heap:=e0.mod.kin.keeps fun b o e=>(e0.bs b o e).1
 have lim:s.heap.NoLimit:=e0.mod.nolimit.keeps fun b o e=>(e0.bs b o e).1
 have hkind:∀y∈ps.zip us,scope.names.lookup y.1=some .local∨(scope.names.lookup y.1=some .cell/\((cellsFrom (s.heap.objs.size+1) scope.names []).lookup y.1).isSome=true):=fun⟨n,v⟩ hy=>by
  rcases S.par n (Vy hy).1 with q|q
  ·exact .inl q
  ·exact .inr ⟨q,cellsFrom_some _ _ _ (.inl q)⟩
 refine codeAny_call_function hr.depth (KX _ _ lk) rfl S.co S.gen rfl (codeRec_of KX hcd) (hb _ _ _ _ ?_);refine wpAny_newFunctionEnv_cells S.kind hkind fun env he s1 x=>?_
 subst he;refine⟨lim.keeps x.toInCall.keep,codeAny_func ?_⟩;obtain⟨t,ht,hq⟩:=hbody (hr.deeper _);have I:Inv (j5_ CX P w K mg base N qual scope f cdv A outer s H E) [] (start N vs) H s1:=a9Z S hr.hd e0 hl r x;refine Zv (ht [] s1 (start N vs) H _ I hq) (fun fl s' hs=>?_) fun e s' hs=>hs
 have fin:∀{σ':St}{H':Hp}{v:V}{u:Value},Inv (j5_ CX P w K mg base N qual scope f cdv A outer s H E) [] σ' H' s'->v4_ v u->Q v H'->CE outer P w H s Q u s':=
  fun{σ' H' v u} J rv q=>⟨v,H',J.os,J.bare,J.base,J.hok,rv,q⟩
 cases fl with
 |ret u=>
  obtain⟨v,σ',H',J,rv,q⟩:=hs;exact fin J rv q
 |next=>
  obtain⟨σ',H',J,q⟩:=hs;exact fin (v:=V.non) (u:=Value.none) J rfl q
 |brk=>
  obtain⟨_,_,_,q⟩:=hs;exact False.elim q
 |cont=>
  obtain⟨_,_,_,q⟩:=hs;exact False.elim q
structure RefDef(P:Program)(w:World)(K:Frag)(mg:OU)(base:Heap)(x:Str)(k kc:Nat)(fr:Option Str->Option D):Prop where
 ex:∃f:Addr,mg x=some (.ref f)/\keepIn K (.ref f)=true/\∀(A:Around) (outer:List Env) (s:Shared) (H:Hp) (fl:Addr) (o:Option Str) (G:Hp) (Q:VK),Room k A->Env0 P w K mg base A outer s H->a7O P w K mg base kc fl s H outer o G->Rel K u6_ G [] [] H->
  (∃d,fr o=some d/\∀v G' H',Ev K u6_ G [] [] H G' [] [] H'->Rep K G' v d->Q v H')->codeAny (model P w) A (.call (.ref f) ⟨[.ref fl],[]⟩) (CR CX0 outer P w H s Q E0) s
def a7P(N:Nat)(mb:Option Str->Mo Fl)(o:Option Str):Option D:=match mb o (List.replicate N .nil)with
 |some (.ret d,_)=>some d
 |some (.nx,_)=>some .non
 |_=>none
theorem b8g{K:Frag}{B B':OA}{G H:Hp}{σ σ':St}{env:Env'}(rl:Rel K B G σ env H)(old:∀b,B' b->H b≠none):Rel K B' G σ' (List.replicate σ'.length .nil) H:=by
 have nn:∀{i:Nat}{w:W},(List.replicate σ'.length W.nil)[i]? =some w->w=.nil:=fun{i w} e=>by
  rw[Jv]at e;split at e
  ·cases e;rfl
  ·cases e
 exact⟨rl.sub,by simp,(fun i d e=>by cases nn e),(fun i w ds e1 e2=>by rw[nn e1]at e2;cases e2),(fun i j w w' ds es a e1 e2=>by rw[nn e1]at e2;cases e2),(fun i w a e eo=>by rw[nn e]at eo;cases eo),old,rl.tabs,rl.gnt⟩
theorem b8h{σ:St}{n:Nat}{a:Addr}:¬ Owned σ (List.replicate n .nil) a:=fun⟨i,w,ds,e1,e2,_⟩=>by
 rw[Jv]at e1;split at e1
 ·cases e1;cases e2
 ·cases e1
theorem b8i{N:List Str}{v:V}(h:1≤N.length):(start N [v]).length=N.length:=by
 unfold start;simp only[Zq,Qk,Zc,Ji,List.length_nil]
 omega
theorem b8j{P:Program}{w:World}{K:Frag}{mg:OU}{base:Heap}{x qual p1:Str}{st:Stmt}{f:Addr}{fd:FuncData}{N:List Str}{k kc:Nat}{mb:Option Str->Mo Fl}(F:Fun K x qual st f fd)(S:FnScope N [p1] (v9_ st))(hm:mg x=some (.ref f))(hbi:a0j K fd [p1] [])(hkc:kc≤k)
  (hb:∀(cdv:Value) (A:Around) (outer:List Env) (s:Shared) (H:Hp) (E:XK) (fl:Addr) (o:Option Str) (G:Hp),Room k (A.deeper (envOfC qual (v9_ st) s.heap.objs.size f cdv))->
   (∀pins σ H' s',Inv (j5_ CX0 P w K mg base N qual (v9_ st) f cdv A outer s H E).nox pins σ H' s'->a4d fl s'.heap)->a7K (j5_ CX0 P w K mg base N qual (v9_ st) f cdv A outer s H E).nox (fun b=>H b≠none) fl o G->
   PSs (j5_ CX0 P w K mg base N qual (v9_ st) f cdv A outer s H E).nox (a0S st) (fun D σ H'=>σ[0]? =some (some (.ref fl))/\H'=H/\∃env fw env',Rel K (fun b=>H b≠none) G σ env H'/\mb o env=some (fw,env')/\Post K (fun b=>H b≠none) G σ env H' env' D fw)):
  RefDef P w K mg base x (k+1) kc (a7P N.length mb):=by
 have hN:1≤N.length:=by have:=Jf List.length S.pre;rw[Yr]at this;simp only[Ji,List.length_nil]at this;omega
 refine⟨f,hm,F.kp,fun A outer s H fl o G Q hr e0 clo rl hfr=>?_⟩
 obtain⟨oc,od,kV,doc,pm,an,cdv,ct,osl,rfl,lk,hcd⟩:=F.ex;obtain⟨d,hd,hQ⟩:=hfr;have KX:K.In s.heap:=e0.mod.kin.keeps fun b o e=>(e0.bs b o e).1
 refine b8f (us:=[.ref fl]) (vs:=[.ref fl]) lk hcd S hr e0 ?_ (.cons rfl .nil) rfl fun hr'=>?_
 ·have:=hbi s [.ref fl] KX rfl
  simpa using this
 ·have un0:∀{pins:OX}{σ:St}{H':Hp}{s':Shared},Inv (j5_ CX0 P w K mg base N qual (v9_ st) f cdv A outer s H E0).nox pins σ H' s'->Un (frs outer) [] H H' s.heap s'.heap:=fun I=>I.base
  have q:=hb cdv A outer s H E0 fl o G hr' (fun pins σ H' s' I=>clo.1 H' s' (un0 I)) (fun pins s' σ env Q' E' I rl' hN' hX'=>?_)
  ·refine⟨_,q.nox,?_⟩
   have rl0:Rel K (fun b=>H b≠none) G (start N [.ref fl]) (List.replicate N.length .nil) H:=by
    have:=b8g (B':=fun b=>H b≠none) (σ':=start N [.ref fl]) rl (fun b h=>h)
    rwa [b8i hN]at this
   have side:∀{G' H':Hp}{σ':St}{env':Env'},Ev K (fun b=>H b≠none) G (start N [.ref fl]) (List.replicate N.length .nil) H G' σ' env' H'->Ev K u6_ G [] [] H G' [] [] H':=fun ev=>a4Q ev (fun a=>b8h) rl
   unfold a7P at hd;split at hd
   ·rename_i d' env' em
    cases hd;exact⟨by rw[a1z (by simp)];rfl,rfl,_,_,env',rl0,em,fun v σ' G' H' ev rp=>hQ v G' H' (side ev) rp⟩
   ·rename_i env' em
    cases hd;exact⟨by rw[a1z (by simp)];rfl,rfl,_,_,env',rl0,em,fun σ' G' H' ev=>hQ .non G' H' (side ev) (by simp only[Rep])⟩
   ·cases hd
  ·exact clo.2 _ _ s' Q' E' (hr'.mono hkc) I.env0 (un0 I) (fun z v G' H' ev=>hN' z v G' H' (a4Q ev (fun a=>a7M) rl')) fun n C z hC G' H' ev=>hX' n C z hC G' H' (a4Q ev (fun a=>a7M) rl')
def b8k(k:Bool)(w:W):W:=if k then(match w with|.dat d=>.dat d|_=>.nil)else .nil
def a2w(keep:List Bool)(env:Env'):Env':=List.zipWith b8k keep env
theorem a7Q{keep:List Bool}{env:Env'}{i:Nat}{w:W}(h:(a2w keep env)[i]? =some w)(hw:w≠.nil):∃d,w=.dat d/\keep[i]? =some true/\env[i]? =some (.dat d):=by
 unfold a2w at h;rw[Jq]at h;cases e1:keep[i]? with
 |none=>rw[e1]at h;cases h
 |some k=>
  cases e2:env[i]? with
  |none=>rw[e1,e2]at h;cases h
  |some w0=>
   rw[e1,e2]at h;cases k with
   |false=>cases h;exact absurd rfl hw
   |true=>
    cases w0 with
    |dat d=>cases h;exact⟨d,rfl,rfl,rfl⟩
    |nil=>cases h;exact absurd rfl hw
    |own _=>cases h;exact absurd rfl hw
    |par _=>cases h;exact absurd rfl hw
    |ownD _ _=>cases h;exact absurd rfl hw
    |parD _ _=>cases h;exact absurd rfl hw
theorem b8l{K:Frag}{B:OA}{G H:Hp}{σ:St}{env:Env'}{keep:List Bool}(rl:Rel K B G σ env H)(hk:keep.length=σ.length):Rel K (fun b=>H b≠none) G (j0_ keep 0 σ) (a2w keep env) H:=by
 have nm:∀(w:W) (es:Mu),w.mut=some es->w≠.nil:=fun w es h z=>by rw[z]at h;cases h
 have no:∀(i:Nat) (w:W) (ds:Mu),(a2w keep env)[i]? =some w->w.mut=some ds->False:=fun i w ds e1 e2=>by
  obtain⟨d,z,_⟩:=a7Q e1 (nm w ds e2);rw[z]at e2;cases e2
 refine⟨rl.sub,?_,fun i d e=>?_,fun i w ds e1 e2=>(no i w ds e1 e2).elim,fun i j w w' ds es a e1 e2=>(no i w ds e1 e2).elim,fun i w a e eo=>(let ⟨m,q⟩:=own_mut eo;no i _ m e q).elim,fun b h=>h,rl.tabs,rl.gnt⟩
 ·unfold a2w j0_
  rw[Zq,Yp,Yp,Zc,rl.len];rfl
 ·obtain⟨d',z,k1,k2⟩:=a7Q e (by simp)
  cases z;obtain⟨v,e1,e2⟩:=rl.dat i d k2;exact⟨v,a4D k1 e1,e2⟩
theorem b8m{σ:St}{keep:List Bool}{env:Env'}{a:Addr}:¬ Owned σ (a2w keep env) a:=fun⟨i,w,ds,e1,e2,_⟩=>by
 have:w≠.nil:=fun z=>by rw[z]at e2;cases e2
 obtain⟨d,z,_⟩:=a7Q e1 this;rw[z]at e2;cases e2
def a1k(names:List Str)(keep:List Bool)(mb:Mo D)(xb:Mx)(fr:Option Str->Option D):Mo D:=fun env=>(outcome names mb xb (a2w keep env)).bind fun o=>(fr o).map fun d=>(d,env)
structure TabF(K:Frag)(mg:OU)(base:Heap)(cd:Value)(qual:Str)(P:Addr):Prop where
 ex:∃c,cd=.ref c/\codeHdIn K c P=true/\codeIn K (.ref c) qual=true
 tq:tabQ K P qual=true
 bm:a1U mg base
section
variable{X:Cx}{B:OA}{x S qual:Str}{names:List Str}{k kc:Nat}{fr:Option Str->Option D}{P:Addr}{N':List Str}{scope:Scope}{keep:List Bool}{params:Arguments}{body:Expr}{mb:Mo D}{xb:Mx}{p lpos pos:Pos}{ps0:Array Value}
theorem a7R(Rd:RefDef X.prog X.w X.K X.mg X.base x k (kc+1) fr)(hr:Room k X.A)(hg:Gl X x)(T:TabF X.K X.mg X.base X.env.code qual P)(hq:X.env.qual=qual++".<locals>.")(hP:X.H₀ P=some (.tbl ps0))(hfn:∀y,X.fn y=true)(hx:a1E X.K S names=true)
  (ok:CompOk X N' scope keep 0)(hco:scope.isCoroutine=false)(hgen:scope.isGenerator=false)(hnc:∀x∈scope.names,x.2≠.cell)(hdef:defaultsOf params X.env=([],[]))
  (hbind:∀cl pm c' ctv,bindArgs (kla_fn "<lambda>" (lamQ qual) params body scope cl pm (.ref c') ctv) ⟨[],[]⟩=pure [])
  (hb:∀(fl c':Addr) (cl:List (Str×Addr)) (H₁:Hp) (A:Around) (outer:List Env) (s:Shared) (E:XK),Room kc (A.deeper (envX (lamQ qual) scope s.heap.objs.size fl (.ref c') cl))->ED (a2v X.prog X.w X.K X.mg X.base N' (lamQ qual) scope fl (.ref c') cl A outer s H₁ E).nox (fun b=>H₁ b≠none) body mb)
  (hxb:∀(fl c':Addr) (cl:List (Str×Addr)) (H₁:Hp) (A:Around) (outer:List Env) (s:Shared) (E:XK),Room kc (A.deeper (envX (lamQ qual) scope s.heap.objs.size fl (.ref c') cl))->EDx (a2v X.prog X.w X.K X.mg X.base N' (lamQ qual) scope fl (.ref c') cl A outer s H₁ E) (fun b=>H₁ b≠none) E body xb)
  (hdb:(x==("__debug__":Str))=false:=by decide)(he:starEach [.Lambda params body scope lpos] X.env=(false,eval (.Lambda params body scope lpos) X.env)::starEach [] X.env:=by rfl)(hpl:(backTo pos (starEach [] X.env)).any (·.1)=false:=by rfl):
  ED X B (.Call (.Name x p) [.Lambda params body scope lpos] [] pos) (a1k names keep mb xb fr):=by
 intro pins s σ H Q I ⟨G,env,d,env',rl,em,k⟩;obtain⟨o,eo,e2⟩:=q6_ em;obtain⟨d',ed,e3⟩:=y5_ e2;cases e3;obtain⟨f,hm,hkp,hrun⟩:=Rd.ex;obtain⟨more,hPs⟩:=I.base.tbls P ps0 hP;obtain⟨c,hcd,hc1,hc2⟩:=T.ex;refine Yo (a3I I hg hm ?_ hdb);refine callWith_K (h₀:=X.base) I.ok.mod.kin hkp ?_ he hpl;rw[he];show wpAny _ _ (spliced ((false,eval (.Lambda params body scope lpos) X.env)::backTo pos (starEach [] X.env))) _ _ s;refine Calls.spliced_cons (b8e I hcd hc1 hc2 T.tq hq T.bm hPs rl.tabs ok.clos hdef fun fl c' H1 s1 Md=>?_)
 refine Calls.spliced_nil ⟨Md.inv.kIn,?_⟩;have ev1:=Md.ev B G env rl;have kl:keep.length=σ.length:=by rw[ok.klen,I.len]
 have stk:∀{b},b∈frs X.stack->b<s.heap.objs.size:=fun{b} hb=>by obtain⟨_,o,g,_⟩:=I.stack.mem hb;exact Qu g
 have L:LamAt X.K params body scope N' (lamQ qual) fl c' (g6_ X.env.cells scope.names []) (j0_ keep 0 σ) s1 H1 X.stack:=by
  have sub:∀{y c},(g6_ X.env.cells scope.names []).lookup y=some c->X.env.cells.lookup y=some c:=fun{y c} z=>(a2m z).elim (fun q=>by cases q) id
  refine⟨Md.obj,Md.free,fun z=>absurd (stk z) (Nat.not_lt.mpr Md.new),⟨_,Md.code,fun h p=>p qual T.tq⟩,fun y z c q1 q2=>I.ok.inj y z c (sub q1) (sub q2),fun y z=>Yz.mp (a3d (Qt z) (ok.free _ (Qt z) rfl)),fun y c q=>?_,fun i y v q1 q2 q3=>?_,?_⟩
  ·obtain⟨v,oc,g1,g2⟩:=I.cell y c (sub q)
   have g:=Md.keep c oc (I.freeC y c (sub q)) g1
   refine⟨⟨v,oc,g.1,g2⟩,g.2,fun z=>?_⟩
   rcases Qh.mp (I.stkSub c z)with z|z
   ·exact I.cne y c (sub q) z
   ·obtain⟨_,o2,g3,_⟩:=I.ok.funs.mem z
    exact absurd (Qu g3) (Nat.not_lt.mpr (I.ok.cab y c (hfn y) (sub q)))
  ·obtain⟨k1,k2⟩:=a3e q2
   obtain⟨h1,h2,h3⟩:=ok.kept i y k1 q1;have hfree:scope.names.lookup y=some .free:=by
    rcases q3 with z|z|z
    ·exact absurd z h2
    ·exact absurd z h3
    ·exact z
   obtain⟨m,hn,hl⟩:=I.loc;have ov:=ok.outVis i y k1 h1 hfree;obtain⟨u,r,l⟩:=hl i y v h1 k2 (.inr ov);obtain⟨c0,hc0⟩:=Yz.mp (a3d (acc:=[]) (Qt hfree) (ok.free _ (Qt hfree) rfl));refine⟨hfree,c0,u,hc0,r,?_⟩
   rcases l with⟨kl,_⟩|⟨_,c1,hc1,oc,g1,g2⟩
   ·have kl':X.env.scope.names.lookup y=some .local:=kl
    rcases ov with z|z<;>(rw[z]at kl';cases kl')
   ·have hc0':=sub hc0
    rw[hc1]at hc0';cases hc0';exact⟨oc,(Md.keep c0 oc (I.freeC y c0 (sub hc0)) g1).1,g2⟩
  ·unfold j0_
   rw[Zq,Yp,Zc,ok.len,ok.klen,I.len];omega
 have clo:a7O X.prog X.w X.K X.mg X.base (kc+1) fl s1 H1 X.stack o G:=
  b7Z L ok.kind hco hgen hnc (fun pm ctv=>hbind _ pm c' ctv) (b8l ev1.rel kl) (fun a=>b8m) hx eo (fun A outer s E hr=>(hb fl c' _ H1 A outer s E hr).nox) (fun A outer s E hr=>hxb fl c' _ H1 A outer s E hr)
 refine wpAny_call (Vv (hrun X.A X.stack s1 H1 fl o G Q hr Md.inv.env0 clo (b1H ev1.rel) ⟨_,ed,fun v G' H' ev rp=>k v G' H' (ev1.trans (a4Q ev (fun a=>a7M) ev1.rel)) rp⟩) fun r s' hq=>?_)
 cases r with
 |error e=>exact False.elim hq
 |ok fw=>
  cases fw with
  |ret u=>exact Md.inv.after hq
  |next=>exact False.elim hq
  |brk=>exact False.elim hq
  |cont=>exact False.elim hq
end
def b1J(ts:List Addr)(H:Hp):Prop:=∀P∈ts,∃ps,H P=some (.tbl ps)
def SpT(K:Frag)(ts:List Addr)(n:Nat)(f:Fn):Sp:=fun vs H Q E=>b1J ts H/\SpF K n f vs H Q E
theorem b8n{P:Program}{w:World}{K:Frag}{mg:OU}{base:Heap}{x qual:Str}{st:Stmt}{f:Addr}{fd:FuncData}{N ps:List Str}{k:Nat}{mb:Mo Fl}{ts:List Addr}{cdv0:Value}(F:Fun K x qual st f fd)(hcd0:fd.code=cdv0)(S:FnScope N ps (v9_ st))
  (hb:∀(A:Around) (outer:List Env) (s:Shared) (H:Hp) (E:XK),b1J ts H->Room k (A.deeper (envOfC qual (v9_ st) s.heap.objs.size f cdv0))->
   ESs (j5_ CX0 P w K mg base N qual (v9_ st) f cdv0 A outer s H E).nox (fun b=>H b≠none) (a0S st) mb):FnOk P w K mg base CX0 (k+1) f fd ps (SpT K ts ps.length (fnM N.length mb)):=by
 have hpl:ps.length≤N.length:=by have:=Jf List.length S.pre;rw[Yr]at this;omega
 obtain⟨oc,od,kV,doc,pm,an,cdv,ct,osl,rfl,lk,hcd⟩:=F.ex;obtain rfl:cdv=cdv0:=hcd0;refine a6J lk hcd S (fun vs H Q E h=>?_) (fun A outer s H vs Q E hr h=>?_)
 ·obtain⟨_,G,ws,r,ws',hl,ok,rl,_⟩:=h
  have:=rl.len;rw[Qk]at this;omega
 ·obtain⟨tb,G,ws,r,ws',hl,ok,rl,e,k⟩:=h
  have hv:ws.length=vs.length:=by have:=rl.len;rwa [Qk]at this
  refine⟨_,(hb A outer s H E tb hr).nox,?_⟩;have rl':=a7d (N:=N) rl ok (by omega)
  unfold fnM at e;split at e
  ·rename_i d env em
   cases e;refine⟨G,_,_,env,rl',em,?_⟩;exact fun v σ' G' H' ev rp=>k v G' H' (a3b rl ok (by omega) ev) rp
  ·rename_i ds env em
   cases e;refine⟨G,_,_,env,rl',em,?_⟩;intro a xs σ' G' H' ev nb no h' g' rp;refine k a xs G' H' (a3b rl ok (by omega) ev) (Jl nb) ?_ h' g' rp
   rintro⟨i,w',es,e1,e2,e3⟩;obtain⟨w1,w2,q1,q2,q3⟩:=a5E e1;subst q3;obtain⟨q4,q5,q6,q7⟩:=a7e (ok _ (Jc q1)) e2;have hi:i<vs.length:=by have:=(Qg.mp q1).1;omega
   exact no ⟨i,_,es,q2,q4,by rw[(ev.par i w2 q2 q5).1,a1z hi];exact e3⟩
  ·rename_i env em
   cases e;refine⟨G,_,_,env,rl',em,?_⟩;exact fun σ' G' H' ev=>k .non G' H' (a3b rl ok (by omega) ev) (by simp only[Rep])
  ·cases e
theorem b8o{P:Program}{w:World}{K:Frag}{mg mb:OU}{k:Nat}{fa a:Addr}{fd:FuncData}{x:Str}{fn:Fn}{ts:List Addr}{s₁:Shared}{vs:List Value}{ns:List Int}
  (KX:K.In s₁.heap)(hnt:noTabs K=true)(hts:∀p∈ts,s₁.heap.get? p=some (tabObj #[]))(hcs:∀p∈ts,∃c,codeHdIn K c p=true)(hns:s₁.heap.Ns mainGlobals mg)(hb:s₁.heap.Ns builtinsNs mb)(hbb:∀x:Str,x≠"__name__"->mb x=bootBuiltins x)(hlim:s₁.heap.NoLimit)(hbm:a1U mg s₁.heap)(hg:s₁.gens= #[])
  (ha:s₁.heap.get? a=some {cls:=.type "list",data:=.seq vs.toArray})(hi:IntsAre vs ns)(hl:ns.length≤sizeLine)(hr:Room k callerA)
  (F:∀base:Heap,K.In base->base.Ns mainGlobals mg->a1U mg base->FnOk P w K mg base CX0 k fa fd [x] (SpT K ts 1 fn))(hbind:∀(s:Shared) (u:Value),BindsTo s fd ⟨[u],[]⟩ [(x,u)])
  (ht:∃ws',fn [.dat (.lst (ns.map D.int))]=some (.d (.bl true),ws')):
  codeAny (model P w) callerA (.call (.ref fa) ⟨[.ref a],[]⟩) (fun r s'=>r=.ok (.ret (.bool true))/\OldK s₁.heap s'.heap/\s'.os=s₁.os/\AllBare s'.gens) s₁:=by
 have rv:=b0o hi
 have lenV:=hi.length
 have nat:a∉ts:=fun z=>by have:=hts a z;rw[ha]at this;cases this
 have kno:∀{b:Addr}{o:Obj},K.lookup b=some o->b∉ts:=fun{b o} e z=>by
  have h2:=Qw.mp hnt (b,o) (mem_of_lookupK e)
  have h3:=KX b o e
  rw[hts b z]at h3;cases h3;cases h2
 have core:∀(H:Hp),(∀b,H b=none∨(b=a/\∃o xs,H b=some (.frz o (.lst xs)))∨(b∈ts/\H b=some (.tbl #[])))->(∀b∈ts,H b=some (.tbl #[]))->SqL K H a (ns.map V.int)->HOk P w H s₁.heap->(H a≠none->K.lookup a=none)->
   codeAny (model P w) callerA (.call (.ref fa) ⟨[.ref a],[]⟩) (fun r s'=>r=.ok (.ret (.bool true))/\OldK s₁.heap s'.heap/\s'.os=s₁.os/\AllBare s'.gens) s₁:=by
  intro H hO hT hS hok hK;have base_of:∀{b:Addr}{o:Obj},s₁.heap.get? b=some o->H b=none->(a1s s₁.heap H).get? b=some o:=fun e n=>b4a e n
  have noA:∀{b:Addr}{o:Obj},s₁.heap.get? b=some o->o.cls≠.type "list"->o.cls≠.none->H b=none:=fun{b o} e d1 d2=>by
   rcases hO b with q|⟨q,_⟩|⟨q,_⟩
   ·exact q
   ·subst q;rw[ha]at e;cases e;exact absurd rfl d1
   ·rw[hts b q]at e;cases e;exact absurd rfl d2
  have noD:∀{b:Addr}{o:Obj}{es:Array DictEntry}{ep:Nat},s₁.heap.get? b=some o->o.data=.dict es ep->H b=none:=fun{b o es ep} e d=>by
   rcases hO b with q|⟨q,_⟩|⟨q,_⟩
   ·exact q
   ·subst q;rw[ha]at e;cases e;cases d
   ·rw[hts b q]at e;cases e;cases d
  have nsK:∀{b:Addr}{m:OU},s₁.heap.Ns b m->(a1s s₁.heap H).Ns b m:=fun{b m} ⟨o,es,ep,e,d,r⟩=>⟨o,es,ep,base_of e (noD e d),d,r⟩
  have hKb:K.In (a1s s₁.heap H):=fun b o e=>base_of (KX b o e) (by
   rcases hO b with q|⟨q,o',xs,z⟩|⟨q,_⟩
   ·exact q
   ·subst q;rw[hK (by rw[z];simp)]at e;cases e
   ·exact absurd q (kno e))
  have hM:Mod K mg (a1s s₁.heap H):=⟨hKb,nsK hns,⟨mb,nsK hb,hbb⟩,let ⟨mc,h1,h2⟩:=hlim;⟨mc,nsK h1,h2⟩⟩
  have hBm:a1U mg (a1s s₁.heap H):=by
   obtain⟨bm,o,b1,b2,b3,b4,b5,b6,b7⟩:=hbm;exact⟨bm,o,b1,b2,b3,base_of b4 (noA b4 (by rw[b5];simp) (by rw[b5];simp)),b5,b6,b7⟩
  have e0:Env0 P w K mg (a1s s₁.heap H) callerA [] s₁ H:=⟨rfl,hM,fun b o e=>b4b e,Vo (b3Z _ _),trivial,fun b hb=>absurd (show b∈([]:List Addr)from hb) (by simp),hok,.of_eq hg⟩
  have sp:SpT K ts 1 fn [.ref a] H (fun v _=>v=.bl true) (fun _ _ _=>False):=by
   obtain⟨ws',e⟩:=ht;refine⟨fun p hp=>⟨#[],hT p hp⟩,fun b=>if b∈ts then none else H b,[.dat (.lst (ns.map D.int))],.d (.bl true),ws',rfl,fun v hv=>.inl ?_,⟨fun b o z=>?_,rfl,fun i d z=>?_,fun i v ds e1 e2=>?_,fun i j v v' ds es a e1 e2=>?_,fun i w a e1 e2=>?_,fun b h=>h.elim,fun p ps z=>?_,fun b o z ps y=>?_⟩,e,?_⟩
   ·simp at hv;exact⟨_,hv⟩
   ·split at z
    ·cases z
    ·exact z
   ·cases i with
    |zero=>
     simp at z
     subst z;refine⟨.ref a,rfl,?_⟩;simp only[Rep];refine⟨a,_,rfl,?_,a5Q ns⟩
     rcases hS with(q|⟨o,q⟩)|q
     ·exact .inl (.inl ((Ql nat).trans q))
     ·exact .inl (.inr ⟨o,(Ql nat).trans q⟩)
     ·exact .inr q
    |succ i=>simp at z
   ·cases i with
    |zero=>simp at e1;subst e1;cases e2
    |succ i=>simp at e1
   ·cases i with
    |zero=>simp at e1;subst e1;cases e2
    |succ i=>simp at e1
   ·cases i with
    |zero=>simp at e1;subst e1;cases e2
    |succ i=>simp at e1
   ·rcases hO p with q|⟨_,o,xs,q⟩|⟨_,q⟩
    ·rw[q]at z;cases z
    ·rw[q]at z;cases z
    ·rw[q]at z;cases z
     exact⟨trivial,fun pos v y=>by cases y⟩
   ·split at z
    ·cases z
    ·rename_i hb
     rcases hO b with q|⟨_,o',xs,q⟩|⟨q,_⟩
     ·rw[q]at z;cases z
     ·rw[q]at z;cases z;cases y
     ·exact hb q
   ·intro v G' H' _ rp
    simpa only[Rep]using rp
  refine Vv ((F _ hKb (nsK hns) hBm).run callerA [] s₁ H ⟨[.ref a],[]⟩ [.ref a] [.ref a] _ _ hr e0 (hbind s₁ (.ref a)) (.cons rfl .nil) sp) fun r s' h=>?_
  cases r with
  |error e=>exact False.elim h
  |ok fl=>
   cases fl with
   |next=>exact False.elim h
   |brk=>exact False.elim h
   |cont=>exact False.elim h
   |ret u=>
    obtain⟨v,H',os,bare,un,hok',r',q⟩:=h;have q':v=.bl true:=q;subst q';obtain rfl:u=Value.bool true:=r';refine⟨rfl,⟨fun b o e=>?_,fun b o e=>un.there b o e (by simp)⟩,os,bare⟩
    rcases hO b with q|⟨_,ob,xs,z⟩|⟨hb,z⟩
    ·exact .inl (un.keep b o e q (by intro z;exact absurd (show b∈([]:List Addr)from z) (by simp)) (by simp))
    ·have z2:=un.frzs b ob _ z
     obtain⟨e1,_⟩:=hok b _ z;obtain⟨e2,_⟩:=hok' b _ z2;rw[e]at e1;cases e1;exact .inl e2
    ·obtain⟨more,z2⟩:=un.tbls b #[] z
     have e2:s'.heap.get? b=some {cls:=.none,data:=.fields (#[]++more)}:=hok' b _ z2
     have e3:=hts b hb
     rw[e]at e3;cases e3;obtain⟨c,hc⟩:=hcs b hb;exact .inr (.inl ⟨((codeHd_of_K KX hc).tab (hts b hb)).isCodeTable,rfl,#[],more,rfl,e2⟩)
 cases hk:K.lookup a with
 |some o=>
  have e:=KX a o hk
  rw[ha]at e;cases e;refine core (fun b=>if b∈ts then some (.tbl #[])else none) (fun b=>?_) (fun b hb=>Qc hb) (.inr ⟨_,vs.toArray,_,hk,rfl,rfl,rfl,by rw[Qp,lenV];exact hl,by simpa using rv⟩) (fun b u z=>?_) fun z=>absurd (Ql nat) z
  ·by_cases hb:b∈ts
   ·exact .inr (.inr ⟨hb,Qc hb⟩)
   ·exact .inl (Ql hb)
  ·dsimp only at z
   split at z
   ·rename_i hb;cases z;exact hts b hb
   ·cases z
 |none=>
  refine core (fun b=>if b=a then some (.frz {cls:=.type "list",data:=.seq vs.toArray} (.lst (ns.map V.int)))else if b∈ts then some (.tbl #[])else none) (fun b=>?_) (fun b hb=>by
   have hne:b≠a:=fun z=>nat (by rw[←z];exact hb)
   show(if b=a then _ else if b∈ts then _ else _)=_
   rw[Ql hne,Qc hb]) (.inl (.inr ⟨{cls:=.type "list",data:=.seq vs.toArray},Qc rfl⟩)) (fun b u z=>?_) fun _=>hk
  ·by_cases hb:b=a
   ·exact .inr (.inl ⟨hb,_,_,Qc hb⟩)
   ·by_cases hb2:b∈ts
    ·exact .inr (.inr ⟨hb2,by rw[Ql hb,Qc hb2]⟩)
    ·exact .inl (by rw[Ql hb,Ql hb2])
  ·dsimp only at z
   split at z
   ·rename_i hb
    cases z;subst hb;exact⟨ha,by rw[Qk];exact hl,vs,_,rv,ha⟩
   ·split at z
    ·rename_i hb;cases z;exact hts b hb
    ·cases z
theorem b8p{l:OpenLaw}{k:Nat}{q:Program}{loose:List Str}{XP:(OU)->Heap->Prop}{YP:World->Heap->Prop}{d:DefRec}{K:Params->Frag}{x:Str}{fn:Fn}{ts:List Addr}
  (hn:l.most=some 63)(hdf:d.params.defaults=[])(hr:Room k callerA)(hY:∀(w:World) (h:Heap),YP w h->(K w.params).In h/\∀p∈ts,h.get? p=some (tabObj #[]))
  (F:∀(w:World) (mg:OU) (fa:Addr) (h:Heap),(K w.params).In h->h.Ns mainGlobals mg->mg d.name=some (.ref fa)->
   ∃fd:FuncData,(∀(s:Shared) (u:Value),BindsTo s fd ⟨[u],[]⟩ [(x,u)])/\noTabs (K w.params)=true/\(∀p∈ts,∃c,codeHdIn (K w.params) c p=true)/\∀base:Heap,(K w.params).In base->base.Ns mainGlobals mg->a1U mg base->FnOk l.prog w (K w.params) mg base CX0 k fa fd [x] (SpT (K w.params) ts 1 fn))
  (ht:∀ns:List Int,ns.length≤63->∃ws',fn [.dat (.lst (ns.map D.int))]=some (.d (.bl true),ws')):
  WalkO q loose XP YP l.row.toRowW d [] (fun f vs=>PySem.call f vs):=by
 refine Att.attach_call hn hdf fun w s₀ s₁ mg mb fa o pm cd doc a vs ns G Y ho hd hcd hmg hobj hints hlen hg=>?_
 obtain⟨KX,hT⟩:=hY w _ Y;obtain⟨fd,hb,hnt,hcs,hF⟩:=F w mg fa _ KX G.T.g hmg;have hbm:a1U mg s₁.heap:=by
  obtain⟨bm,ob,b1,b2,b3,b4,b5,b6⟩:=G.T.bmain;refine⟨bm,ob,b1,b2,fun z=>?_,b3,b4,b5,b6⟩
  obtain⟨o,es,ep,e,hd,_⟩:=G.T.g;rw[z,e]at b3;cases b3;rw[hd]at b6;cases b6
 exact b8o KX hnt hT hcs G.T.g G.T.b G.T.builtins G.T.nolimit hbm hg hobj hints (Qo hlen (by decide)) hr hF hb (ht ns hlen)
theorem b1K{K:Frag}{S n:Str}{names:List Str}(h:a1E K S names=true)(hn:n∈names):a2t K n=true:=let ⟨_,F⟩:=a4c h hn;F.one
def a5U(K:Frag)(cd:Value)(P:Addr):Bool:=match cd with
 |.ref c=>codeHdIn K c P
 |_=>false
theorem b1L{K:Frag}{cd:Value}{P:Addr}(h:a5U K cd P=true):∃c,cd=.ref c/\codeHdIn K c P=true:=by
 unfold a5U at h;split at h
 ·exact⟨_,rfl,h⟩
 ·cases h
theorem b8q{K:Frag}{mg:OU}{base:Heap}{cd:Value}{qual:Str}{P:Addr}(h1:a5U K cd P=true)(h2:codeIn K cd qual=true)(h3:tabQ K P qual=true)(hb:a1U mg base):TabF K mg base cd qual P:=by
 obtain⟨c,rfl,hc⟩:=b1L h1;exact⟨⟨c,rfl,hc,h2⟩,h3,hb⟩
end L2.Mir
namespace L2.Mir
open PySem PySem.Spec PyProof.Rows PySem.W
def bools?:List D->Option (List Bool)
 |[]=>some []
 |.bl i::r=>(bools? r).map fun l=>i::l
 |_::_=>none
theorem b1M{K:Qq}{G:Hp}:∀{ds:List D}{xs:List V}{ns:List Bool},z9_ K G xs ds->bools? ds=some ns->xs=ns.map V.bl
 |[],_,ns,r,e=>by simp only[z9_]at r;subst r;cases e;rfl
 |d::ds,_,ns,r,e=>by
  simp only[z9_]at r;obtain⟨x,t,rfl,q,r⟩:=r;cases d<;>first|(exact absurd (show(none:Option (List Bool))=some ns from e) (by simp))|skip
  obtain⟨l,e1,e2⟩:=y5_ (show(bools? ds).map _=some ns from e)
  subst e2;simp only[Rep]at q;subst q;rw[b1M r e1];rfl
def a7S:D->D->Option D
 |.lst ds,.bl b=>(bools? ds).bind fun bs=>(bs.findIdx? fun y=>y==b).map fun(j:Nat)=>D.int (j:Int)
 |_,_=>none
section
variable{X:Cx}{B:OA}{pos:Pos}{o e:Expr}{ma mb:Mo D}
theorem b8r(ns:List Bool):(ns.map V.bl).all a0R=true:=by
 induction ns with
 |nil=>rfl
 |cons n ns ih=>simp[a0R,ih]
def b8s(K:Frag):V->List V->Hp->VK->Prop:=fun x vs H Q=>∃(p:Addr) (bs:List Bool) (b:Bool) (j:Nat),x=.ref p/\vs=[.bl b]/\SqL K H p (bs.map V.bl)/\(bs.findIdx? fun y=>y==b)=some j/\Q (.int j) H
theorem b8t:MtM X "list.index" (b8s X.K):=by
 intro pins s σ H x vs v us Q I rx rv h;obtain⟨p,bs,b,j,rfl,rfl,hq,hj,q⟩:=h;cases rx;obtain⟨u,rfl,ru⟩:=rv.one;have ru':=ru;cases ru;obtain⟨its,r,pl,hz⟩:=I.list hq;obtain⟨⟨oc,od,odt,osl⟩,n,e,hc,hd,hdt⟩:=pl;dsimp only at hc hd hdt;subst hc hd hdt;obtain⟨hjl,hj1,hj2⟩:=List.findIdx?_eq_some_iff_getElem.mp hj;have hlen:its.length=bs.length:=by have:=r.length;simpa using this.symm
 have item:∀(m:Nat) (hm:m<its.length),its[m]=.bool (bs[m]'(by omega)):=fun m hm=>by
  obtain⟨u,h1,h2⟩:=r.get (i:=m) (x:=.bl (bs[m]'(by omega))) (by simp[show m<bs.length by omega])
  rw[Zw hm]at h1;cases h1;exact h2
 refine Va PySem.F.slot_list_index ⟨_,e,rfl⟩ PySem.F.entry_list_index (PySem.F.args_list_index_2 _ _)
  (SeqAt.list_indexAt p its.toArray n none osl (.bool b) (eqU (.bl b)) j (by simpa using (by omega:j<its.length)) ?_ ?_ ?_) ⟨?_,fun w hw=>a5m (x:=.bl b) ru' rfl r (b8r bs) w (by simpa using hw),⟨.int j,H,I.tok _,⟨_,rfl⟩,q⟩⟩
 ·have:its.length≤sizeLine:=by rw[hlen];simpa using hz
  rw[Jd]at this
  omega
 ·rw[List.getElem_toArray,item j (by omega)]
  show(bs[j]==b)=true;exact hj1
 ·intro m hm hlt
  rw[List.getElem_toArray,item m (by simpa using hm)]
  show(bs[m]==b)=false;exact Bool.eq_false_iff.mpr (hj2 m hlt)
 ·exact e
theorem b8u{apos cpos:Pos}(ho:ED X B o ma)(he:ED X B e mb)
  (hbase:attributeBase o "index" X.env (eval o X.env)=eval o X.env:=by rfl)
  (hfew:((backTo cpos (starEach [e] X.env)).all (fun x=>!x.1)&&(backToKw cpos (keywordEach [] X.env)).all (fun x=>x.1.isSome)
   &&decide ([e].length+([]:List Keyword).length+(if([]:List Keyword).isEmpty then 0 else 1)<30))=true:=by rfl)
  (hline:(apos.endLine==cpos.line)=true:=by rfl)(hs:starEach [e] X.env=(false,eval e X.env)::starEach [] X.env:=by rfl)(hplain:(backTo cpos (starEach [] X.env)).any (·.1)=false:=by rfl):
  ED X B (.Call (.Attribute o "index" apos) [e] [] cpos) (z4_ a7S ma mb):=by
 refine pe_imp (a6Q PySem.F.plainAttrs_list PySem.F.slot_list_index PySem.F.type_list_index b8t ho (a0t he a2d hs) hbase hfew hline hs hplain) ?_
 rintro σ H Q ⟨G,env,d,env',rl,e,k⟩;obtain⟨⟨d1,env1⟩,e1,e2⟩:=q6_ e;obtain⟨⟨d2,env2⟩,e3,e4⟩:=q6_ e2;obtain⟨d3,e5,e6⟩:=y5_ e4;cases e6;dsimp only at e3 e5;unfold a7S at e5;split at e5
 ·rename_i ds b
  obtain⟨bs,e7,e8⟩:=q6_ e5;obtain⟨j,e9,e10⟩:=y5_ e8;cases e10;refine .bind rl e1 fun v G1 H1 ev1 r1=>?_
  simp only[Rep]at r1;obtain⟨a,xs,rfl,hq,rp⟩:=r1;refine⟨.inl ⟨rfl,xs,ev1.rel.sub.sqL hq⟩,.bind ev1.rel e3 fun v2 G2 H2 ev2 r2=>?_⟩
  simp only[Rep]at r2;subst r2;have hb:=b1M rp e7;subst hb;exact⟨a,bs,b,j,rfl,rfl,(ev2.same.trans ev2.rel.sub).sqL hq,e9,k _ G2 H2 (ev1.trans ev2) (by simp only[Rep])⟩
 ·cases e5
end
open AutoSeq1 (wpAny_loadPart')
section
variable{prog:Program}{w:World}{A:Around}{E:OE}{s:Shared}
end
section
variable{X:Cx}{B:OA}{pos:Pos}{a b c e:Expr}{ms:Mo (List D)}
end
section
variable{X:Cx}{B:OA}{pos:Pos}
end
section
variable{prog:Program}{w:World}{A:Around}{R:Result->Shared->Prop}{s:Shared}
end
abbrev b1N:=St->Hp->(St->Hp->Prop)->Prop
section
variable{X:Cx}{elt:Expr}{gens:List Comprehension}{scope:Scope}{pos:Pos}{d:Nat}
end
section
variable{X:Cx}{N':List Str}{scope:Scope}{keep:List Bool}{more:Nat}{tg iter elt:Expr}{ifs:List Expr}{gs:List Comprehension}{g:TG}{tt:TT}{act:Addr->b1N}{pos:Pos}
end
section
variable{K:Qq}{B:OA}{n:Nat}
end
section
variable{X:Cx}{B:OA}{N':List Str}{scope scope0:Scope}{keep:List Bool}{more n d:Nat}{tg iter elt:Expr}{ifs:List Expr}{gens gs:List Comprehension}{g:OZ}{t:Mo Bool}{m:Mo D}{mi:Mo (List D)}{a:Mo (List D)}{pos:Pos}{s:Shared}{H:Hp}{fp:List Addr}{p:Addr}
end
section
variable{X:Cx}{B:OA}{pos:Pos}{o e:Expr}{ma mb:Mo D}
end
section
variable{X:Cx}{B:OA}{pos:Pos}
end
section
variable{prog:Program}{w:World}{A:Around}{E:OE}{s:Shared}{c1 c2:Bool}
end
section
variable{X:Cx}{pins:OX}{σ:St}{A:Around}{R:Result->Shared->Prop}{c1 c2:Bool}{n l1 l2 S:Addr}{xs ys:List V}
end
section
variable{X:Cx}{B:OA}{pos:Pos}{a b:Expr}{ms:Mo (List D)}
end
section
variable{X:Cx}{B:OA}
def a7T(K:Qq)(neg:Bool):R2:=fun x y H Q=>∃G a ds,Le G H/\Rep K G x a/\(Rep K G y (.lst ds)∨Rep K G y (.tup ds))/\shp a=true/\(toP a).depth≤60/\PyData.canLayAll0 (x6_ ds)=true/\
 Q (.bl (if neg then !((x6_ ds).any fun y=>PyData.eqv y (toP a))else(x6_ ds).any fun y=>PyData.eqv y (toP a))) H
theorem c2k(hu:X.A.units+64<cLine):OpR X (compareOp .In) (a7T X.K false):=by
 intro pins s σ H x y v u Q I rx ry h;obtain⟨G,a,ds,l,ra,rb,ha,hd,hb,q⟩:=h;have hl:=Yd ha;obtain⟨as,h1⟩:=reads_of I l a x v hl rx ra;have hroom:X.A.units+1+min (PyData.depthAll (x6_ ds)) (toP a).depth<cLine:=by
  have:min (PyData.depthAll (x6_ ds)) (toP a).depth≤(toP a).depth:=Xq _ _
  omega
 rcases rb with rb|rb
 ·obtain⟨bs,h2⟩:=reads_of I l (.lst ds) y u (by show PyData.canLay0 (.list (x6_ ds))=true;simpa [PyData.canLay0]using hb) ry rb
  exact SeqAt.in_list_reads h2 h1 hb hl hroom ⟨.bl _,H,I,rfl,q⟩
 ·obtain⟨bs,h2⟩:=reads_of I l (.tup ds) y u (by show PyData.canLay0 (.tuple (x6_ ds))=true;simpa [PyData.canLay0]using hb) ry rb
  exact SeqAt.in_tuple_reads h2 h1 hb hl hroom ⟨.bl _,H,I,rfl,q⟩
theorem b8v(hu:X.A.units+64<cLine):OpR X (compareOp .NotIn) (a7T X.K true):=by
 intro pins s σ H x y v u Q I rx ry h;obtain⟨G,a,ds,l,ra,rb,ha,hd,hb,q⟩:=h;have hl:=Yd ha;obtain⟨as,h1⟩:=reads_of I l a x v hl rx ra;have hroom:X.A.units+1+min (PyData.depthAll (x6_ ds)) (toP a).depth<cLine:=by
  have:min (PyData.depthAll (x6_ ds)) (toP a).depth≤(toP a).depth:=Xq _ _
  omega
 rcases rb with rb|rb
 ·obtain⟨bs,h2⟩:=reads_of I l (.lst ds) y u (by show PyData.canLay0 (.list (x6_ ds))=true;simpa [PyData.canLay0]using hb) ry rb
  exact SeqAt.notIn_list_reads h2 h1 hb hl hroom ⟨.bl _,H,I,rfl,q⟩
 ·obtain⟨bs,h2⟩:=reads_of I l (.tup ds) y u (by show PyData.canLay0 (.tuple (x6_ ds))=true;simpa [PyData.canLay0]using hb) ry rb
  exact SeqAt.notIn_tuple_reads h2 h1 hb hl hroom ⟨.bl _,H,I,rfl,q⟩
def a2x(neg:Bool):D->D->Option D:=fun a b=>(D.items b).bind fun ds=>if shp a&&decide ((toP a).depth≤60)&&PyData.canLayAll0 (x6_ ds)then
 some (.bl (if neg then !((x6_ ds).any fun y=>PyData.eqv y (toP a))else(x6_ ds).any fun y=>PyData.eqv y (toP a)))else none
theorem b8w{neg:Bool}:OpD X B (a7T X.K neg) (a2x neg):=by
 intro G σ env H x y a b d Q rl ra rb e k;obtain⟨ds,e1,e2⟩:=q6_ e;split at e2
 ·rename_i h
  rw[Qy,Qy,Zd]at h;cases e2;refine⟨G,a,ds,rl.sub,ra,?_,h.1.1,h.1.2,h.2,k _ G H (.refl rl) (by simp only[Rep])⟩
  cases b<;>first|(exact absurd (show(none:Option (List D))=some ds from e1) (by simp))|skip
  ·cases e1;exact .inr rb
  ·cases e1;exact .inl rb
 ·cases e2
end
section
variable{prog:Program}{w:World}{A:Around}{E:OE}{s:Shared}
end
section
variable{X:Cx}{B:OA}{pos:Pos}{es:List Expr}{gs:List D->Env'->Option Env'}
end
section
variable{K:Qq}{G:Hp}
def a5V(K:Qq)(H:Hp)(b:Addr)(k:List Int):Prop:=H b=some (.tup ((a4v k).map kV))∨a5o K b (a4v k)
theorem a5V.mono{H H':Hp}{b:Addr}{k:List Int}(l:Le H H')(h:a5V K H b k):a5V K H' b k:=h.imp (fun e=>l _ _ e) id
end
section
variable{X:Cx}{pins:OX}{σ:St}{H:Hp}{s:Shared}{a b:Addr}{A:Around}{E:OE}{kvs:List (List Key×V)}
end
section
variable{K:Qq}{G:Hp}
end
section
variable{X:Cx}{B:OA}{pos:Pos}{a b e:Expr}{ma mb:Mo D}
end
section
variable{X:Cx}{B:OA}{pos p:Pos}{e:Expr}{es:List Expr}{ma:Mo D}{ms:Mo (List D)}
end
section
variable{K:Qq}{B:OA}{G G1 G2:Hp}{σ:St}{env env1:Env'}{H H1 H2:Hp}{vs:List V}{ds:List D}{a:Addr}
end
section
variable{X:Cx}{B:OA}{pos p:Pos}{e:Expr}{es:List Expr}{ms:Mo (List D)}{fn:Fn}{k n:Nat}{x:Str}
end
end L2.Mir
namespace L2.Mir
open PySem PySem.Spec PyProof.Rows
section
variable{X:Cx}{B:OA}{pos p:Pos}{e:Expr}{vs:List Expr}{ma:Mo D}{ms:Mo (List D)}
end
section
variable{X:Cx}{N':List Str}{scope:Scope}{keep:List Bool}{more:Nat}{tg iter elt:Expr}{ifs:List Expr}{gs:List Comprehension}{g:TG}{tt:TT}{act:Addr->b1N}{pos:Pos}
end
section
variable{X:Cx}{B:OA}{N':List Str}{scope scope0:Scope}{keep:List Bool}{more n d:Nat}{tg iter elt:Expr}{ifs:List Expr}{gens gs:List Comprehension}{g:OZ}{t:Mo Bool}{m:Mo D}{mi:Mo (List D)}{a:Mo (List D)}{pos:Pos}{s:Shared}{H:Hp}{fp:List Addr}{p:Addr}
end
inductive NamesAt (X:Cx):List Expr->List Nat->Prop
 |nil:NamesAt X [] []
 |cons {x:Str}{p:Pos}{i:Nat}{es:List Expr}{is:List Nat}:PE X (.Name x p) (a1t i)->NamesAt X es is->NamesAt X (.Name x p::es) (i::is)
section
variable{K:Qq}{B:OA}{G:Hp}{σ:St}{env:Env'}{H:Hp}
open Classical in
end
section
variable{X:Cx}{B:OA}{pos p:Pos}{e:Expr}{es:List Expr}{is:List Nat}{fn:Fn}{k n:Nat}{x:Str}
end
end L2.Mir
namespace L2.Mir
open PySem PyProof PyProof.Rows L2
variable{X:Cx}{B:OA}
inductive RowsAre (h:Heap):List Value->OI->Prop
 |nil:RowsAre h [] []
 |cons {a:Addr}{its:Array Value}{k:List Int}{vs:List Value}{ks:OI}(t:IsTup h a its) (i:IntsAre its.toList k) (r:RowsAre h vs ks):RowsAre h (.ref a::vs) (k::ks)
theorem RowsAre.length{h:Heap}{vs:List Value}{ks:OI}(r:RowsAre h vs ks):vs.length=ks.length:=by
 induction r with
 |nil=>rfl
 |cons _ _ _ ih=>simp[ih]
theorem a5W:∀ns:List Int,PyData.canLayAll0 (ns.map PyData.int)=true
 |[]=>rfl
 |n::ns=>by simp[PyData.canLayAll0,PyData.canLay0,a5W ns]
section
open PySem.SeqAt
open PySem.AutoSeq1 (wpAny_loadPart')
open PySem.MeetsSeq PySem.MeetsSeq2 PySem.MeetsSeq3
end
section
variable{prog:Program}{w:World}{A:Around}{E:OE}{s:Shared}
end
def rows?:List D->Option (OI)
 |[]=>some []
 |.tup x::r=>(ints? x).bind fun a=>(rows? r).map fun l=>a::l
 |_::_=>none
section
variable{X:Cx}{B:OA}{pins:OX}{σ:St}{G H:Hp}{s:Shared}
end
section
variable{X:Cx}{B:OA}{e st:Expr}{ma:Mo D}{pos p2:Pos}
end
theorem RowsAre.mono{h h':Heap}(f:∀a its,IsTup h a its->IsTup h' a its){vs:List Value}{ks:OI}(r:RowsAre h vs ks):RowsAre h' vs ks:=by
 induction r with
 |nil=>exact .nil
 |cons t i _ ih=>exact .cons (f _ _ t) i ih
section
variable{prog:Program}{w:World}{A:Around}{E:OE}{s:Shared}
variable{h₀:Heap}{L kS D:Addr}{m:OU}{news0:OX}{e1:Nat}{Fin:List Value->Nat->Shared->Prop}
end
section
variable{X:Cx}{pins:OX}{σ:St}{H:Hp}{s:Shared}
end
section
variable{X:Cx}{B:OA}{e:Expr}{ma:Mo D}{p p1 kp1 kp2 pos:Pos}{j:Nat}{p2:Pos}
end
section
open PySem.SeqAt
open PySem.AutoSeq1 (wpAny_loadPart')
open PySem.MeetsSeq PySem.MeetsSeq2 PySem.MeetsSeq3
end
section
variable{X:Cx}{B:OA}{pos:Pos}{o e:Expr}{ma mb:Mo D}
end
abbrev Ro:=Option (OI)
abbrev MoN(α:Type):=Env'->Ro->Option (α×Env'×Ro)
theorem b8x{α β:Type}{R R':α->β->Prop}{as:List α}{bs:List β}(h:Paired R as bs):(∀a∈as,∀b,R a b->R' a b)->Paired R' as bs:=by
 induction h with
 |nil=>intro _;exact .nil
 |cons r _ ih=>intro f;exact .cons (f _ (Yx ..) _ r) (ih fun a ha=>f a (Yw _ ha))
theorem b8y{α β:Type}{R:α->β->Prop}{as:List α}{bs:List β}(h:Paired R as bs):∀{a},a∈as->∃b,R a b:=by
 induction h with
 |nil=>intro a ha;cases ha
 |cons r _ ih=>
  intro a ha
  rcases Qh.mp ha with rfl|ha
  ·exact⟨_,r⟩
  ·exact ih ha
def a5X(H0 G:Hp)(σ:St)(env:Env')(H:Hp)(bs:List Addr)(rows:OI):Prop:=
 Paired (fun b row=>H b=some (.lst (row.map V.int))) bs rows/\∀b∈bs,H0 b=none/\G b=none/\ ¬ Owned σ env b
def Nst(H0 G:Hp)(σ:St)(env:Env')(H:Hp)(r:Nat)(rows:OI):Prop:=
 ∃a bs,σ[r]? =some (some (V.ref a))/\H a=some (.lst (bs.map V.ref))/\(a::bs).Nodup/\a5X H0 G σ env H bs rows/\H0 a=none/\G a=none/\ ¬ Owned σ env a
def NO(H0 G:Hp)(σ:St)(env:Env')(H:Hp)(r:Nat):Ro->Prop
 |none=>True
 |some rows=>Nst H0 G σ env H r rows
section
variable{K:Qq}{B:OA}{H0 G G':Hp}{σ σ':St}{env env':Env'}{H H':Hp}{r:Nat}
theorem a7U{b:Addr}{xs:List V}(ev:Ev K B G σ env H G' σ' env' H')(h:H b=some (.lst xs))(g:G b=none)(no:¬ Owned σ env b):H' b=some (.lst xs)/\G' b=none/\ ¬ Owned σ' env' b:=
 ⟨ev.keep b _ no nt_lst h,ev.stay b (by rw[h];simp) no g,fun z=>(ev.sub b z).elim no fun e=>by rw[h]at e;cases e⟩
theorem a5X.step{bs:List Addr}{rows:OI}(l:a5X H0 G σ env H bs rows)(ev:Ev K B G σ env H G' σ' env' H'):a5X H0 G' σ' env' H' bs rows:=by
 obtain⟨h1,h2⟩:=l;refine⟨b8x h1 fun b hb row e=>(a7U ev e (h2 b hb).2.1 (h2 b hb).2.2).1,fun b hb=>?_⟩
 obtain⟨row,e⟩:=b8y h1 hb;have:=a7U ev e (h2 b hb).2.1 (h2 b hb).2.2;exact⟨(h2 b hb).1,this.2⟩
theorem NO.step{q:Ro}(n:NO H0 G σ env H r q)(ev:Ev K B G σ env H G' σ' env' H')(hr:σ'[r]? =σ[r]?):NO H0 G' σ' env' H' r q:=by
 cases q with
 |none=>trivial
 |some rows=>
  obtain⟨a,bs,h1,h2,h3,h4,h5,h6,h7⟩:=n;have:=a7U ev h2 h6 h7;exact⟨a,bs,hr.trans h1,this.1,h3,h4.step ev,h5,this.2⟩
end
section
variable(K:Qq)(B:OA)(r:Nat)
def a5Y(G0:Hp)(σ0:St)(env0:Env')(H0 G:Hp)(env':Env')(q':Ro)(D:Ends):Fl->Prop
 |.nx=>∀σ' G' H',Ev K B G0 σ0 env0 H0 G' σ' env' H'->Le G G'->env'[r]? =some .nil->NO H0 G' σ' env' H' r q'->D.nx σ' H'
 |fl=>Post K B G0 σ0 env0 H0 env' D fl
theorem a5Y.after{G0:Hp}{σ0:St}{env0:Env'}{H0 G G1:Hp}{env':Env'}{q':Ro}{D:Ends}{fl:Fl}(k:a5Y K B r G0 σ0 env0 H0 G env' q' D fl)(l:Le G G1):a5Y K B r G0 σ0 env0 H0 G1 env' q' D fl:=by
 cases fl with
 |nx=>exact fun σ' G' H' ev l' hn n=>k σ' G' H' ev (l.trans l') hn n
 |bk=>exact k
 |ct=>exact k
 |ret d=>exact k
 |retL d=>exact k
def TN(m:MoN Fl):TS:=fun D σ H=>∃G0 σ0 env0 H0 G env q fl env' q',Ev K B G0 σ0 env0 H0 G σ env H/\env[r]? =some .nil/\NO H0 G σ env H r q/\m env q=some (fl,env',q')/\a5Y K B r G0 σ0 env0 H0 G env' q' D fl
end
section
variable{X:Cx}{B:OA}{r:Nat}{e a b:Expr}{pos:Pos}{st:Stmt}{rest:List Stmt}
end
section
variable{X:Cx}{B:OA}{r:Nat}{e a b tg:Expr}{pos:Pos}{st:Stmt}{rest:List Stmt}
end
mutual
def D.lf:D->Bool
 |.non=>true
 |.bl _=>true
 |.int _=>true
 |.str _=>true
 |.tup ds=>lfL ds
 |_=>false
def lfL:List D->Bool
 |[]=>true
 |d::ds=>d.lf&&lfL ds
end
section
variable{K:Qq}{G G':Hp}
mutual
theorem rep_lf(h:∀b xs,G b=some (.tup xs)->G' b=some (.tup xs)):∀(d:D) {v:V},d.lf=true->Rep K G v d->Rep K G' v d
 |.non,v,_,r=>by simpa only[Rep]using r
 |.bl b,v,_,r=>by simpa only[Rep]using r
 |.int i,v,_,r=>by simpa only[Rep]using r
 |.str x,v,_,r=>by simpa only[Rep]using r
 |.tup ds,v,l,r=>by
  simp only[Rep]at r ⊢;obtain⟨a,xs,e,q,t⟩:=r;exact⟨a,xs,e,q.imp (fun e=>h _ _ e) id,repL_lf h ds (by simpa only[D.lf]using l) t⟩
 |.lst ds,v,l,r=>by simp[D.lf]at l
 |.emp,v,l,r=>by simp[D.lf]at l
 |.obj o,v,l,r=>by simp[D.lf]at l
 |.dct _ _,v,l,r=>by simp[D.lf]at l
theorem repL_lf(h:∀b xs,G b=some (.tup xs)->G' b=some (.tup xs)):∀(ds:List D) {xs:List V},lfL ds=true->z9_ K G xs ds->z9_ K G' xs ds
 |[],_,_,r=>by simpa only[z9_]using r
 |d::ds,_,l,r=>by
  simp only[z9_]at r ⊢;obtain⟨x,t,e,q,u⟩:=r;have l':d.lf=true/\lfL ds=true:=by simpa only[lfL,Qy]using l
  exact⟨x,t,e,rep_lf h d l'.1 q,repL_lf h ds l'.2 u⟩
end
end
section
variable{K:Qq}{B:OA}{H0 G:Hp}{σ:St}{env:Env'}{H:Hp}
end
section
variable{X:Cx}{B:OA}{r:Nat}{pos p px:Pos}{fn:Fn}{k n:Nat}{x y:Str}
end
section
variable{K:Qq}{B:OA}{G G1:Hp}{σ σ1:St}{env env1:Env'}{H H1:Hp}
end
section
variable{X:Cx}{B:OA}{r:Nat}{N':List Str}{scope:Scope}{keep:List Bool}{more:Nat}{tg iter elt:Expr}{g:OZ}{ml mi:Mo (List D)}{pos:Pos}
end
section
variable{X:Cx}{B:OA}{e:Expr}{ma:Mo D}{pos p2:Pos}
end
open PySem.W Builtin Builtin.ObjectAttr Builtin.Getset_descriptor PySem.Calls
theorem fl1:typeLookup (.type "function") "__getattribute__"=pure (some (.builtin "object.__getattribute__")):=by rfl
theorem fl2(self:Value):bindSpecial (Value.builtin "object.__getattribute__") self=pure (Value.builtin "object.__getattribute__",[self]):=by rfl
theorem fl3:typeLookup (.type "function") "__class__"=pure (some (.builtin "object.__class__")):=by rfl
theorem fl4:isSubtype (.type "function") (.type "object")=pure true:=by rfl
theorem fl5:getOf (some (.builtin "object.__class__"))=pure (some (.builtin "getset_descriptor.__get__")):=by rfl
theorem fl6:dataDescriptor? (some (.builtin "object.__class__")) (some (.builtin "getset_descriptor.__get__"))=pure (some (.builtin "getset_descriptor.__get__",.builtin "object.__class__")):=by rfl
section
variable{prog:Program}{w:World}{A:Around}{E:OE}{x:Addr}{h:Heap}{g:Array GenState}{d:Drawn}{t:Nat}{os:OsState}
theorem b8z{R:Result->Shared->Prop}{tp:Value}(I:KitAt x "function" h)
  (hq:R (.ok (.ret (.type "function"))) ⟨h,g,d,t,os⟩):codeAny (model prog w) A (.call (.builtin "getset_descriptor.__get__") ⟨[.builtin "object.__class__",.ref x,tp],[]⟩) R ⟨h,g,d,t,os⟩:=by
 have L0:=kitAt_ty (M:=model prog w) (T:="function") _ I
 refine Uu KF.slot_gs.plain KF.entry_gs (KF.slot_gs.check _ _ _ _ _ _ _ _ KF.type_class (KF.args_gs _ _ _) ?_);unfold Builtin.«getset_descriptor.__get__» descrGet;rw[dga_obj];refine Qz (Qv ?_);unfold descrGetter descrCheckInstance descrNameAndClass isInstance;simp only[KF.owner_class]
 repeat (first|with_reducible refine L0.at ?_|wp_step)
 dsimp only;rw[fl4]
 repeat (first|with_reducible refine L0.at ?_|wp_step)
 refine⟨Code.quiet_builtin _ (by decide+kernel),codeAny_builtin KF.entry_class ?_⟩
 unfold Builtin.«object.__class__» shownTypeOf
 repeat (first|with_reducible refine L0.at ?_|wp_step)
 exact hq
theorem b8A{tk:Tok}{Q:Fin->Shared->Prop}(I:KitAt x "function" h)(hq:Q (.done (.ret (.type "function"))) ⟨h,g,d,t,os⟩):
  wpAny (model prog w) A (Builtin.«object.__getattribute__» ⟨[.ref x,.str "__class__" tk],[]⟩) Q E ⟨h,g,d,t,os⟩:=by
 have L0:=kitAt_ty (M:=model prog w) (T:="function") _ I
 unfold Builtin.«object.__getattribute__»
 repeat (any_goals (first|assumption|with_reducible refine L0.at ?_|wp_step))
 rw[fl3];refine Qv ?_
 rw[fl5];refine Qz (Qv ?_);rw[fl6]
 repeat (any_goals (first|assumption|with_reducible refine L0.at ?_|wp_step))
 refine b8z I ?_
 repeat (any_goals (first|assumption|wp_step))
theorem b8B{M:Model}{nameV:Value}{Q:Unit->Shared->Prop}(I:KitAt x "function" h)(hq:Q () ⟨h,g,d,t,os⟩):
  wpAny M A (checkBuiltinCall "object.__getattribute__" ⟨[.ref x,nameV],[]⟩) Q E ⟨h,g,d,t,os⟩:=by
 have hk:builtinKind "object.__getattribute__"=some .slot:=by decide+kernel
 have hsplit:splitId "object.__getattribute__"=some ("object","__getattribute__"):=by decide+kernel
 have L0:=kitAt_ty (M:=M) (T:="function") _ I
 simp only[checkBuiltinCall,hk,hsplit];refine Qz ?_
 unfold isInstance
 repeat (first|with_reducible refine L0.at ?_|wp_step)
 rw[fl4]
 repeat (first|with_reducible refine L0.at ?_|wp_step)
 exact hq
theorem b8C{Q:Option Value->Shared->Prop}{s:Shared}(I:KitAt x "function" s.heap)(k:Q (some (.type "function")) ⟨s.heap,s.gens,s.drawn,s.toks+1,s.os⟩):
  wpAny (model prog w) A (getAttr? (.ref x) "__class__") Q E s:=by
 obtain⟨h,g,d,t,os⟩:=s;have L0:=kitAt_ty (M:=model prog w) (T:="function") _ I;unfold getAttr? getAttrBy?
 repeat (any_goals (first|assumption|with_reducible refine L0.at ?_|wp_step))
 rw[fl1]
 repeat (any_goals (first|assumption|with_reducible refine L0.at ?_|wp_step))
 rw[fl2]
 repeat (any_goals (first|assumption|with_reducible refine L0.at ?_|wp_step))
 refine Uu (by decide+kernel) F.entry_object_getattribute (b8B I (b8A I ?_))
 repeat (any_goals (first|assumption|wp_step))
end
theorem b8D{K:Frag}{x:Addr}{o:Obj}(hl:List.lookup x K=some o)(hc:o.cls=.type "function"):KitX K (.ref x) (.type "function") (fun _=>True):=by
 have q:KitX K (.ref x) (.type "function") (KitAt x "function"):=kitx_of (fun M h p=>kitAt_ty M h p) (fun{prog w A E Q s} p k=>b8C p k)
 exact⟨fun M h X _=>q.ty M h X (kitAt_K X hl hc),fun M h X _=>q.it M h X (kitAt_K X hl hc),q.ne,fun{prog w A E Q s} X _ k=>q.ca X (kitAt_K X hl hc) k⟩
def b1O(K:Qq)(f:Addr):Bool:=match List.lookup f K with
 |some o=>o.cls==.type "function"
 |none=>false
theorem a2y{K:Qq}{f:Addr}(h:b1O K f=true):PySem.W.KitX K (.ref f) (.type "function") (fun _=>True):=by
 unfold b1O at h;split at h
 ·rename_i o e
  exact b8D e (eq_of_beq h)
 ·cases h
def Nsd(K:Qq)(mg:OU)(x:Str):Prop:=∃f,PySem.W.nsIn K mainGlobals x=some (some (.ref f))/\mg x=some (.ref f)/\PySem.W.KitX K (.ref f) (.type "function") (fun _=>True)
section
variable{X:Cx}{B:OA}{e:Expr}{es:List Expr}{p pos:Pos}{y:Str}{i k n:Nat}{as:Mo (List Ar)}
theorem b8E{CX}{f:Addr}{fd:FuncData}{ps:List Str}{sp:Sp}{ds:List Value}{dvs:List V}{E:XK}{t:TA}(F:FnOk X.prog X.w X.K X.mg X.base CX k f fd ps sp)(hr:Room k X.A)(hv:PE X (.Name y p) (a1t i))(hk:PySem.W.keepIn X.K (.ref f)=true)(hb:a0j X.K fd ps ds)(hd:q5_ dvs ds)(hx:a3M CX X E)
  (ha:PA X (e::es) t)(he:starEach (e::es) X.env=(false,eval e X.env)::starEach es X.env:=by rfl)(hpl:(backTo pos (starEach es X.env)).any (·.1)=false:=by rfl):
  PE X (.Call (.Name y p) (e::es) [] pos) (fun σ H Q=>σ[i]? =some (some (.ref f))/\a5l sp dvs E t σ H Q):=by
 intro pins s σ H Q I ⟨h0,h⟩;refine Yo (thn (hv pins s σ H (fun v H'=>v=.ref f/\H'=H) I ⟨_,h0,rfl,rfl⟩) fun u s0 ⟨v,H',I',r',q'⟩=>?_)
 obtain⟨rfl,rfl⟩:=q';cases r';refine PySem.W.callWith_K (h₀:=X.base) I'.ok.mod.kin hk (thn (ha pos pins s0 σ _ _ I' h) fun us s1 ⟨vs,H1,I1,r,q⟩=>⟨I1.kIn,?_⟩) he hpl
 exact a6H F hr hb hd hx I1 r q
def a5Z(X:Cx)(n:Nat)(l:List (Str×Fn)):Prop:=∀nm fn,l.lookup nm=some fn->∃k,Room k X.A/\Def X.prog X.w X.K X.mg X.base nm k n fn/\Nsd X.K X.mg nm
theorem b8F:a5Z X n []:=fun nm fn h=>by cases h
theorem a2z{x:Str}{fn:Fn}{l:List (Str×Fn)}(hr:Room k X.A)(d:Def X.prog X.w X.K X.mg X.base x k n fn)(hn:Nsd X.K X.mg x)(h:a5Z X n l):a5Z X n ((x,fn)::l):=fun nm fn' e=>by
 rw[List.lookup_cons]at e;split at e
 ·rename_i hb
  cases e;have:nm=x:=eq_of_beq hb;subst this;exact⟨k,hr,d,hn⟩
 ·exact h nm fn' e
def mCV(n i:Nat)(l:List (Str×Fn))(as:Mo (List Ar)):Mo D:=fun env=>match env[i]? with
 |some (.dat (.obj (.fn nm)))=>(l.lookup nm).bind fun fn=>mCD n fn as env
 |_=>none
theorem b8G{G:Hp}{v:V}{nm:Str}{f':Addr}(hn:Nsd X.K X.mg nm)(hm:X.mg nm=some (.ref f'))(q:Rep X.K G v (.obj (.fn nm))):v=.ref f':=by
 obtain⟨f0,h1,h2,_⟩:=hn;simp only[Rep]at q;obtain⟨f,rfl,h3,_⟩:=q;rw[h1]at h3;rw[h2]at hm;cases h3;cases hm
 rfl
theorem b8H{l:List (Str×Fn)}(ht:a5Z X n l)(hv:PE X (.Name y p) (a1t i))(ha:EAr X B (e::es) as)(he:starEach (e::es) X.env=(false,eval e X.env)::starEach es X.env:=by rfl)(hpl:(backTo pos (starEach es X.env)).any (·.1)=false:=by rfl):
  ED X B (.Call (.Name y p) (e::es) [] pos) (mCV n i l as):=by
 intro pins s σ H Q I ⟨G,env,d,env',rl,em,kk⟩;unfold mCV at em;split at em
 case h_2=>cases em
 rename_i nm hen;obtain⟨fn,e1,e2⟩:=q6_ em;obtain⟨k,hr,D,hn⟩:=ht nm fn e1;obtain⟨v,q1,q2⟩:=rl.dat i _ hen;obtain⟨f',fd,ps,F,rfl,hm,hk,hb⟩:=D.ex;have:=b8G hn hm q2;subst this;obtain⟨⟨r,env1⟩,e3,e4⟩:=q6_ e2;refine b8E F hr hv hk hb .nil a5n ha he hpl pins s σ H Q I ⟨q1,?_⟩;cases r with
 |d d'=>cases e4;exact a5F rl e3 kk
 |l ds=>cases e4
end
section
variable{prog:Program}{w:World}{A:Around}{E:OE}{s:Shared}
end
inductive PairsAt (K:Qq) (G:Hp):List V->List (List Int×V)->Prop
 |nil:PairsAt K G [] []
 |cons {q b:Addr}{k:List Int}{v:V}{xs:List V}{ps:List (List Int×V)}:SqU K G q [.ref b,v]->a5V K G b k->PairsAt K G xs ps->PairsAt K G (.ref q::xs) ((k,v)::ps)
section
variable{X:Cx}{pins:OX}{σ:St}{A:Around}{R:Result->Shared->Prop}{l it d:Addr}{xs:List V}{G:Hp}
end
section
variable{X:Cx}{B:OA}
end
theorem PairsAt.mono{K:Qq}{G G':Hp}(l:Le G G'){xs:List V}{ps:List (List Int×V)}(h:PairsAt K G xs ps):PairsAt K G' xs ps:=by
 induction h with
 |nil=>exact .nil
 |cons a b c ih=>exact .cons (l.sqU a) (b.mono l) ih
end L2.Mir
namespace L2.Mir
open PySem PySem.Spec PyProof.Rows PySem.W
structure DefT(P:Program)(w:World)(K:Frag)(mg:OU)(base:Heap)(x:Str)(k n:Nat)(fn:Fn)(ts:List Addr):Prop where
 ex:∃(f:Addr) (fd:FuncData) (ps:List Str),FnOk P w K mg base CX0 k f fd ps (SpT K ts n fn)/\ps.length=n/\mg x=some (.ref f)/\keepIn K (.ref f)=true/\a0j K fd ps []
section
variable{X:Cx}{B:OA}{pos p:Pos}{e:Expr}{es:List Expr}{as:Mo (List Ar)}{fn:Fn}{k n:Nat}{x:Str}{ts:List Addr}{f:Addr}{fd:FuncData}{ps:List Str}{t:TA}{E:XK}
end
theorem x7_{N P:List Str}{sc:Scope}(a:sc.kind=.function:=by rfl)(b:sc.isCoroutine=false:=by rfl)(c:sc.isGenerator=false:=by rfl)(d:N.Nodup:=by decide+kernel)(e:N.take P.length=P:=by rfl)(f:∀x∈P,sc.names.lookup x=some .local∨sc.names.lookup x=some .cell:=by decide+kernel)(g:∀y∈sc.names,y.2≠.free:=by decide+kernel):FnScope N P sc:=⟨a,b,c,d,e,f,g⟩
theorem us1{α:Type}{M:List α->Prop}(h:∀a,M [a]):∀us:List α,us.length=1->M us
 |[a],_=>h a
theorem us2{α:Type}{M:List α->Prop}(h:∀a b,M [a,b]):∀us:List α,us.length=2->M us
 |[a,b],_=>h a b
theorem us3{α:Type}{M:List α->Prop}(h:∀a b c,M [a,b,c]):∀us:List α,us.length=3->M us
 |[a,b,c],_=>h a b c
section
variable{X:Cx}{B:OA}{pos:Pos}{o e:Expr}{ma mb:Mo D}
end
section
variable{X:Cx}{B:OA}{pos:Pos}{o e:Expr}{ma mb:Mo D}
end
section
variable{X:Cx}{B:OA}{tg e:Expr}{ma:Mo D}
end
section
variable{X:Cx}{B:OA}{pos:Pos}{e e2:Expr}{ma mb:Mo D}
end
def lkK:List (Key×Key)->Key->Option Key
 |[],_=>none
 |p::l,k=>if p.1=k then some p.2 else lkK l k
structure DkG(P:Program)(w:World)(K:Qq)(mg:OU)(x:Str)(kvs:List (Key×Key)):Prop where
 ex:∃a,mg x=some (.ref a)/\(a==sysModules)=false/\∀h:Heap,K.In h->(∃o,h.get? a=some o/\o.cls=.type "dict")/\∃g:Key->Option Value,h.MapOf (w2_ P w) a g/\∀k,a0Q ((lkK kvs k).map kV) (g k)
def a6a:D->Option Key
 |.int i=>some (.inl i)
 |.str x=>some (.inr x)
 |_=>none
theorem a7V{K:Qq}{G:Hp}{v:V}{d:D}{k:Key}(r:Rep K G v d)(h:a6a d=some k):v=kV k:=by
 cases d<;>first|(exact absurd (show(none:Option Key)=some k from h) (by simp))|skip
 ·cases h
  simp only[Rep]at r;exact r
 ·cases h
  simp only[Rep]at r;exact r.1
section
variable{X:Cx}{B:OA}{pos:Pos}{a b:Expr}{ma mb:Mo D}{kvs:List (Key×Key)}
end
section
variable{X:Cx}{B:OA}{pos:Pos}{k1 k2 k3 v1 v2 v3:Expr}{a1 a2 a3 b1 b2 b3:Key}
end
inductive Ents (P:Program) (w:World):List DictEntry->List (Key×Key)->Prop
 |nil:Ents P w [] []
 |cons {e:DictEntry}{p:Key×Key}{es:List DictEntry}{kvs:List (Key×Key)}:v4_ (kV p.1) e.key->e.hash=(w2_ P w).hash p.1->v4_ (kV p.2) e.val->Ents P w es kvs->Ents P w (e::es) (p::kvs)
theorem Ents.keys{P:Program}{w:World}{es:List DictEntry}{kvs:List (Key×Key)}(h:Ents P w es kvs):∀e∈es,∃k,(w2_ P w).is k e.key=true/\e.hash=(w2_ P w).hash k:=by
 induction h with
 |nil=>intro e he;cases he
 |cons h1 h2 h3 _ ih=>
  intro e he
  rcases Qh.mp he with rfl|he
  ·exact⟨_,a0B h1,h2⟩
  ·exact ih e he
theorem Ents.find{P:Program}{w:World}{es:List DictEntry}{kvs:List (Key×Key)}(h:Ents P w es kvs)(k:Key):a0Q ((lkK kvs k).map kV) ((es.find? fun e=>(w2_ P w).is k e.key).map (·.val)):=by
 induction h with
 |nil=>exact trivial
 |@cons e p es kvs h1 h2 h3 _ ih=>
  by_cases hk:p.1=k
  ·have e1:lkK (p::kvs) k=some p.2:=Qc hk
   have e2:(w2_ P w).is k e.key=true:=by rw[←hk];exact a0B h1
   rw[e1,Yb,e2];exact h3
  ·have e1:lkK (p::kvs) k=lkK kvs k:=Ql hk
   have e2:(w2_ P w).is k e.key=false:=by
    cases hq:(w2_ P w).is k e.key with
    |false=>rfl
    |true=>exact absurd ((w2_ P w).inj _ _ _ (a0B h1) hq) hk
   rw[e1,Yb,e2];exact ih
section
variable{X:Cx}{B:OA}{a b e st:Expr}{ma mb:Mo D}{pos p2:Pos}
def b1P:D->D->Option D
 |.str z,.int i=>(atI z.cps.toList i).map fun c=>.str ⟨#[c]⟩
 |_,_=>none
theorem b8I:(1:Nat)≤sizeLine:=by decide
theorem b8J:OpD X B a6N b1P:=by
 intro G σ env H x y a b d Q rl ra rb e k;cases a<;>cases b<;>first|(exact absurd (show(none:Option D)=some d from e) (by simp))|skip
 rename_i z i;simp only[Rep]at ra rb;obtain⟨rfl,hz⟩:=ra;subst rb;obtain⟨c,e1,e2⟩:=y5_ (show(atI z.cps.toList i).map _=some d from e)
 subst e2;exact⟨z,i,c,rfl,rfl,hz,e1,k _ G H (.refl rl) (by simp only[Rep];exact⟨trivial,b8I⟩)⟩
def a6b:=fOr dIx b1P
theorem b8K(ha:ED X B a ma)(hb:ED X B b mb)(hs:a4u b):ED X B (.Subscript a b pos) (z4_ a6b ma mb):=pe_imp (a6M (b0j.or b0i) ha hb hs) (a4x (b0z.or b8J))
def a7W:D->D->Option D
 |.str x,.str y=>if x.length+y.length≤10000 then some (.str (x++y))else none
 |_,_=>none
theorem a7X(x y:Str):(x++y).length=x.length+y.length:=by
 show(x.cps++y.cps).size=x.cps.size+y.cps.size;rw[Array.size_append]
theorem b8L:OpD X B (fun x y H Q=>∃i j,x=.str i/\y=.str j/\i.length+j.length≤sizeLine/\Q (.str (i++j)) H) a7W:=by
 intro G σ env H x y a b d Q rl ra rb e k;cases a<;>cases b<;>first|(exact absurd (show(none:Option D)=some d from e) (by simp))|skip
 rename_i z z';simp only[Rep]at ra rb;obtain⟨rfl,hz⟩:=ra;obtain⟨rfl,hz'⟩:=rb;simp only[a7W]at e;split at e
 ·rename_i hl
  cases e;have hl':=a5L hl;exact⟨z,z',rfl,rfl,hl',k _ G H (.refl rl) (by simp only[Rep];exact⟨trivial,by show(z++z').length≤sizeLine;rw[a7X];exact hl'⟩)⟩
 ·cases e
def a1F:=fOr v5_ a7W
theorem a7Y:OpR X (binaryOp .Add) (fun x y H Q=>(rI0 (fun i j=>.int (i+j)) x y H Q∨rCatT' X.K x y H Q)∨ ∃i j,x=.str i/\y=.str j/\i.length+j.length≤sizeLine/\Q (.str (i++j)) H):=OpR.or k7_ b5f
theorem a7Z:OpD X B (fun x y H Q=>(rI0 (fun i j=>.int (i+j)) x y H Q∨rCatT' X.K x y H Q)∨ ∃i j,x=.str i/\y=.str j/\i.length+j.length≤sizeLine/\Q (.str (i++j)) H) a1F:=k8_.or b8L
def a6c:List D->Option D
 |[.str z]=>some (.int z.length)
 |_=>none
theorem b8M:a1h X B (fun xs H Q=>∃z,xs=[.str z]/\z.length≤sizeLine/\Q (.int z.length) H) a6c:=by
 intro G σ env H xs ds c Q rl r e k
 match ds,e with
 |[.str z],e=>
  obtain⟨x,rfl,q⟩:=a0D r;simp only[Rep]at q;obtain⟨rfl,hz⟩:=q;cases e;exact⟨z,rfl,hz,k _ G H (.refl rl) (by simp only[Rep])⟩
def a6d(z:Str)(lo hi:Option Int)(st:Int):Str:=⟨((Builtin.Str.strSliceIndices lo hi st z.length).filterMap (z.cps[·]?)).toArray⟩
def a1G(z:Str)(lo hi:Option Int):Str:=if(Builtin.Str.strSliceIndices lo hi 1 z.length).length==z.length then z else a6d z lo hi 1
theorem a8a(z:Str)(lo hi:Option Int):(a1G z lo hi).length≤z.length:=by
 unfold a1G;split
 ·exact Qb _
 ·refine Qo ?_ (indices_len_le lo hi z.length)
  show(List.toArray _).size≤_;rw[Qp];exact List.length_filterMap_le ..
def a6e:Value->Option Int->Option (Int×Tok)
 |.int i t,some _=>some (i,t)
 |_,_=>none
theorem b1Q{v:Value}{o:Option Int}(h:IsPart v o):partValue (a6e v o)=v/\(a6e v o).map (·.1)=o:=by
 cases h<;>exact⟨rfl,rfl⟩
theorem b8N:SlR X (fun x lo hi H Q=>∃z,x=.str z/\z.length≤sizeLine/\Q (.str (a1G z lo hi)) H):=by
 intro pins s σ H x v vl vu lo hi sl Q I rx hs pl pu h;obtain⟨z,rfl,hz,q⟩:=h;obtain⟨t,rfl⟩:=rx;have hl:=a8a z lo hi;obtain⟨o,ho,hc,hd⟩:=hs;obtain⟨a1,a2⟩:=b1Q pl;obtain⟨b1,b2⟩:=b1Q pu;refine⟨"str",_,PySem.F.slot_str_getitem.lookup,typeIs_str s z t,?_⟩;refine wpAny_getItem_str_slice (l:=a6e vl lo) (u:=a6e vu hi) (st:=none) ⟨o,ho,hc,by rw[hd,a1,b1];rfl⟩ rfl ?_
 unfold sliceMade slicePicked;rw[a2,b2];show Made.post (if((1:Int)==1&&(Builtin.Str.strSliceIndices lo hi 1 z.length).length==z.length)=true then _ else _) _ _
 have e1:((1:Int)==1)=true:=by decide
 rw[e1,Ze];unfold a1G at q hl;split
 ·rename_i hq
  rw[Qc hq]at q;exact⟨.str z,H,I,⟨t,rfl⟩,q⟩
 ·rename_i hq
  rw[Ql hq]at q hl;exact⟨Qo hl hz,.str (a6d z lo hi 1),H,I.tok _,⟨_,rfl⟩,q⟩
def a3p(m:Mo D)(ml mh:Mo (Option Int)):Mo D:=fun env=>(m env).bind fun p=>(ml p.2).bind fun q=>(mh q.2).bind fun r=>match p.1 with
 |.str z=>some (.str (a1G z q.1 r.1),r.2)
 |_=>none
theorem b1R{lo hi:Option Expr}{ml mh:Mo (Option Int)}(he:ED X B e ma)(hl:EO X B lo ml)(hh:EO X B hi mh):ED X B (.Subscript e (.Slice lo hi none p2) pos) (a3p ma ml mh):=by
 refine pe_imp (b0b b8N he hl hh) ?_
 rintro σ H Q ⟨G,env,d,env',rl,e,k⟩;obtain⟨⟨d1,env1⟩,e1,e2⟩:=q6_ e;obtain⟨⟨l,env2⟩,e3,e4⟩:=q6_ e2;obtain⟨⟨u,env3⟩,e5,e6⟩:=q6_ e4;dsimp only at e3 e5 e6;split at e6
 ·rename_i z
  cases e6;refine .bind rl e1 fun v G1 H1 ev1 r1=>⟨G1,env1,l,env2,ev1.rel,e3,fun G2 H2 ev2=>⟨G2,env2,u,_,ev2.rel,e5,fun G3 H3 ev3=>?_⟩⟩
  simp only[Rep]at r1;obtain⟨rfl,hz⟩:=r1;exact⟨z,rfl,hz,k _ G3 H3 ((ev1.trans ev2).trans ev3) (by simp only[Rep];exact⟨trivial,Qo (a8a z l u) hz⟩)⟩
 ·cases e6
end
def lkF:List (Str×Str)->Key->Option Str
 |[],_=>none
 |p::l,k=>if(.inr p.1:Key)=k then some p.2 else lkF l k
def b1S(mg:OU):Option Str->Option Value->Prop
 |none,o=>o=none
 |some n,o=>∃f,mg n=some (.ref f)/\o=some (.ref f)
structure DfG(P:Program)(w:World)(K:Qq)(mg:OU)(x:Str)(kvs:List (Str×Str)):Prop where
 ex:∃a,mg x=some (.ref a)/\(a==sysModules)=false/\∀h:Heap,K.In h->(∃o,h.get? a=some o/\o.cls=.type "dict")/\∃g:Key->Option Value,h.MapOf (w2_ P w) a g/\∀k,b1S mg (lkF kvs k) (g k)
theorem b1T:∀{kvs:List (Str×Str)}{k:Key}{n:Str},lkF kvs k=some n->∃p∈kvs,p.2=n
 |[],_,_,h=>by cases h
 |p::l,k,n,h=>by
  unfold lkF at h;split at h
  ·cases h
   exact⟨p,Yx ..,rfl⟩
  ·obtain⟨q,hq,e⟩:=b1T h
   exact⟨q,Yw _ hq,e⟩
def b1U(kvs:List (Str×Str))(mb:Mo D):Mo D:=fun env=>(mb env).bind fun p=>(a6a p.1).bind fun k=>(lkF kvs k).map fun n=>(.obj (.fn n),p.2)
def a8b(kvs:List (Str×Str))(ma:Mo D):Mo D:=fun env=>(ma env).bind fun p=>(a6a p.1).map fun k=>(.bl (lkF kvs k).isSome,p.2)
section
variable{X:Cx}{B:OA}{pos:Pos}{a b:Expr}{ma mb:Mo D}{kvs:List (Str×Str)}
theorem b8O{K:Qq}{mg:OU}:∀q∈([]:List (Str×Str)),Nsd K mg q.2:=fun q hq=>by cases hq
theorem a2A{K:Qq}{mg:OU}{k n:Str}{l:List (Str×Str)}(h:Nsd K mg n)(t:∀q∈l,Nsd K mg q.2):∀q∈(k,n)::l,Nsd K mg q.2:=fun q hq=>by
 rcases Qh.mp hq with rfl|hq
 ·exact h
 ·exact t q hq
theorem b8P{x:Str}{p:Pos}(hk:DfG X.prog X.w X.K X.mg x kvs)(hn:∀q∈kvs,Nsd X.K X.mg q.2)(hg:Gl X x)(hb:ED X B b mb)(hs:a4u b)(hd:(x==("__debug__":Str))=false:=by decide):
  ED X B (.Subscript (.Name x p) b pos) (b1U kvs mb):=by
 intro pins s σ H Q I h;obtain⟨G,env,d,env',rl,em,kk⟩:=h;obtain⟨⟨d1,env1⟩,e1,e2⟩:=q6_ em;obtain⟨key,e3,e4⟩:=q6_ e2;obtain⟨n,e5,e6⟩:=y5_ e4;cases e6;obtain⟨q,hm,hz,hall⟩:=hk.ex;refine b5I PySem.F.slot_dict_getitem.lookup hs (thn (a5h (v:=.ref q) hg hm rfl hd pins s σ H (fun v H1=>v=.ref q/\H1=H) I ⟨rfl,rfl⟩) fun u s1 ⟨y,H1,I1,ry,z1,z2⟩=>?_)
 subst z1 z2;cases ry;refine thn (hb pins s1 σ H1 (fun v H2=>∃G2,Ev X.K B G σ env H1 G2 σ env1 H2/\Rep X.K G2 v d1) I1 ⟨G,env,d1,env1,rl,e1,fun v G2 H2 ev r=>⟨G2,ev,r⟩⟩) fun iv s2 ⟨y,H2,I2,ry,G2,ev,r⟩=>?_
 have hv:=a7V r e3
 subst hv;obtain⟨⟨o,ho,hc⟩,g,hmap,hrel⟩:=hall s2.heap I2.kIn;have hr:=hrel key;rw[e5]at hr;obtain⟨f,hf,hgk⟩:=hr;obtain⟨⟨_,_⟩,hq,rfl⟩:=b1T e5;obtain⟨f',n1,n2,n3⟩:=hn _ hq;dsimp only at hf n1 n2 n3;rw[hf]at n2;cases n2;exact⟨⟨o,ho,hc⟩,wpAny_getItem_of (a0B ry) hmap hgk ⟨.ref f,H2,I2.tok _,rfl,kk _ G2 H2 ev (by simp only[Rep,a2S];exact⟨f,rfl,n1,n3⟩)⟩⟩
theorem b8Q{x:Str}{p:Pos}(hk:DfG X.prog X.w X.K X.mg x kvs)(hg:Gl X x)(ha:ED X B a ma)(hd:(x==("__debug__":Str))=false:=by decide):PC X .In a (.Name x p) (TD X.K B (a8b kvs ma)):=by
 intro pins s σ H Q I h;obtain⟨G,env,d,env',rl,em,kk⟩:=h;obtain⟨⟨d1,env1⟩,e1,e2⟩:=q6_ em;obtain⟨key,e3,e4⟩:=y5_ e2;cases e4;obtain⟨q,hm,hn,hall⟩:=hk.ex;refine thn (ha pins s σ H (fun v H1=>∃G1,Ev X.K B G σ env H G1 σ env1 H1/\Rep X.K G1 v d1) I ⟨G,env,d1,env1,rl,e1,fun v G2 H2 ev r=>⟨G2,ev,r⟩⟩) fun iv s1 ⟨y,H1,I1,ry,G1,ev,r⟩=>?_
 refine thn (a5h (v:=.ref q) hg hm rfl hd pins s1 σ H1 (fun v H2=>v=.ref q/\H2=H1) I1 ⟨rfl,rfl⟩) fun u s2 ⟨x',H2,I2,rx,z1,z2⟩=>?_
 subst z1 z2;cases rx;have hv:=a7V r e3;subst hv;obtain⟨_,g,hmap,hrel⟩:=hall s2.heap I2.kIn;have hr:(g key).isSome=(lkF kvs key).isSome:=by
  have h1:=hrel key
  cases hl:lkF kvs key with
  |none=>rw[hl]at h1;rw[show g key=none from h1];rfl
  |some n=>
   rw[hl]at h1;obtain⟨f,_,h2⟩:=h1;rw[h2]
   rfl
 refine wpAny_in_of (a0B ry) hn hmap ⟨.bl (lkF kvs key).isSome,H2,I2.tok _,by rw[←hr];rfl,kk _ G1 H2 ev (by simp only[Rep])⟩
theorem b8R{x:Str}{p:Pos}(hk:DfG X.prog X.w X.K X.mg x kvs)(hg:Gl X x)(ha:ED X B a ma)(hm:behindInMarks .In (.Name x p)=false)(hd:(x==("__debug__":Str))=false:=by decide):ED X B (.Compare a [.In] [.Name x p] pos) (a8b kvs ma):=
 b4e (b8Q hk hg ha hd) hm
end
inductive EntF (P:Program) (w:World) (mg:OU):List DictEntry->List (Str×Str)->Prop
 |nil:EntF P w mg [] []
 |cons {e:DictEntry}{p:Str×Str}{f:Addr}{es:List DictEntry}{kvs:List (Str×Str)}:v4_ (.str p.1) e.key->e.hash=(w2_ P w).hash (.inr p.1)->e.val=.ref f->mg p.2=some (.ref f)->EntF P w mg es kvs->EntF P w mg (e::es) (p::kvs)
theorem EntF.keys{P:Program}{w:World}{mg:OU}{es:List DictEntry}{kvs:List (Str×Str)}(h:EntF P w mg es kvs):∀e∈es,∃k,(w2_ P w).is k e.key=true/\e.hash=(w2_ P w).hash k:=by
 induction h with
 |nil=>intro e he;cases he
 |@cons e' p f es kvs h1 h2 h3 h4 _ ih=>
  intro e he
  rcases Qh.mp he with rfl|he
  ·exact⟨.inr p.1,a0B (k:=.inr p.1) h1,h2⟩
  ·exact ih e he
theorem EntF.find{P:Program}{w:World}{mg:OU}{es:List DictEntry}{kvs:List (Str×Str)}(h:EntF P w mg es kvs)(k:Key):b1S mg (lkF kvs k) ((es.find? fun e=>(w2_ P w).is k e.key).map (·.val)):=by
 induction h with
 |nil=>rfl
 |@cons e p f es kvs h1 h2 h3 h4 _ ih=>
  by_cases hk:(.inr p.1:Key)=k
  ·have e1:lkF (p::kvs) k=some p.2:=Qc hk
   have e2:(w2_ P w).is k e.key=true:=by rw[←hk];exact a0B (k:=.inr p.1) h1
   rw[e1,Yb,e2];exact⟨f,h4,Jf some h3⟩
  ·have e1:lkF (p::kvs) k=lkF kvs k:=Ql hk
   have e2:(w2_ P w).is k e.key=false:=by
    cases hq:(w2_ P w).is k e.key with
    |false=>rfl
    |true=>exact absurd ((w2_ P w).inj _ _ _ (a0B (k:=.inr p.1) h1) hq) hk
   rw[e1,Yb,e2];exact ih
theorem b8S{P:Program}{w:World}{K:Qq}{mg:OU}{x:Str}{kvs:List (Str×Str)}{a:Addr}{es:List DictEntry}{ep:Nat}(hm:mg x=some (.ref a))(hl:K.lookup a=some ⟨.type "dict",none,.dict ⟨es⟩ ep,⟨[]⟩⟩)(hz:(a==sysModules)=false)(he:EntF P w mg es kvs):DfG P w K mg x kvs:=by
 refine⟨a,hm,hz,fun h hin=>⟨⟨_,hin a _ hl,rfl⟩,findBy (w2_ P w).is ⟨es⟩,⟨_,⟨es⟩,ep,hin a _ hl,⟨rfl,rfl,rfl⟩,rfl,fun e he'=>he.keys e (by simpa using he'),fun _=>rfl⟩,fun k=>?_⟩⟩
 have:=he.find k;unfold findBy;rw[←Array.find?_toList];exact this
section
variable{K:Qq}{B:OA}{G G':Hp}{σ σ':St}{env env':Env'}{H H':Hp}
theorem Ev.layO{a:Addr}{o o0:HO}(v:Ev K B G σ env H G' σ' env' H')(ha:H a=none)(no:¬ Owned σ' env' a)(h':H' a=some o0)(ne:∀φ,o0≠.ext φ)(nt:NT o)(g':G' a=none):
  Ev K B G σ env H (upd G' a o) σ' env' (upd H' a o):=by
 have live':∀c,H' c≠none->(upd H' a o) c≠none:=fun c hc=>by
  by_cases hb:c=a
  ·subst hb;rw[y6_];simp
  ·rw[q4_ hb];exact hc
 refine⟨⟨fun b u e=>?_,v.rel.len,fun i d e=>?_,fun i w ds e1 e2=>?_,v.rel.inj,v.rel.fresh,fun c hc=>live' c (v.rel.old c hc),v.rel.tabs.upd nt (fun φ z=>by rw[h']at z;exact ne φ (Yj z)),a5p v.rel.gnt nt⟩,v.same.trans (Le.upd g'),fun c u n t e=>?_,fun c e=>live' c (v.live c e),fun b e n g=>?_,v.sub,v.par,v.slen⟩
 ·by_cases hb:b=a
  ·subst hb;rw[y6_]at e ⊢;exact e
  ·rw[q4_ hb]at e ⊢;exact v.rel.sub b u e
 ·obtain⟨x,e1,e2⟩:=v.rel.dat i d e
  exact⟨x,e1,Rep.mono (Le.upd g') d e2⟩
 ·obtain⟨p,ys,e3,e4,e5,e6⟩:=v.rel.own i w ds e1 e2
  have hp:p≠a:=fun z=>no ⟨i,w,ds,e1,e2,by rw[←z];exact e3⟩
  exact⟨p,ys,e3,by rw[q4_ hp];exact e4,e5.mono (Le.upd g'),by rw[q4_ hp];exact e6⟩
 ·rw[q4_ (fun z=>by rw[z,ha]at e;cases e)];exact v.keep c u n t e
 ·have hb:b≠a:=fun z=>e (z ▸ ha)
  rw[q4_ hb];exact v.stay b e n g
end
def b1V:List Str->OI->List (Str×List Int)
 |x::xs,l::ls=>(x,l)::b1V xs ls
 |_,_=>[]
def a3q(ks:List Str)(ms:Mo (List D)):Mo D:=fun env=>(ms env).bind fun p=>(rows? p.1).map fun ls=>(.obj (.dt (b1V ks ls)),p.2)
section
variable{X:Cx}{B:OA}{pos:Pos}{k1 k2 k3 k4 v1 v2 v3 v4:Expr}{a1 a2 a3 a4:Str}{m1 m2 m3 m4:Mo D}
theorem b8T{K:Qq}{G:Hp}{x:V}{ds:List D}{l:List Int}(r:Rep K G x (.tup ds))(h:ints? ds=some l):∃a,x=.ref a/\SqU K G a (l.map V.int):=by
 simp only[Rep]at r;obtain⟨a,xs,rfl,q,t⟩:=r;exact⟨a,rfl,by rw[←a3Y t h];exact q⟩
theorem b8U{d1 d2 d3 d4:D}{ls:OI}(h:rows? [d1,d2,d3,d4]=some ls):∃e1 e2 e3 e4 l1 l2 l3 l4,d1=.tup e1/\d2=.tup e2/\d3=.tup e3/\d4=.tup e4/\ints? e1=some l1/\ints? e2=some l2/\ints? e3=some l3/\ints? e4=some l4/\ls=[l1,l2,l3,l4]:=by
 have step:∀{d:D}{r:List D}{ls:OI},rows? (d::r)=some ls->∃e l ls',d=.tup e/\ints? e=some l/\rows? r=some ls'/\ls=l::ls':=fun{d r ls} h=>by
  unfold rows? at h;split at h
  ·rename_i z;cases z
  ·rename_i x r' z
   cases z;obtain⟨l,e1,e2⟩:=q6_ h;obtain⟨ls',e3,e4⟩:=y5_ e2;exact⟨x,l,ls',rfl,e1,e3,e4.symm⟩
  ·cases h
 obtain⟨e1,l1,r1,rfl,h1,q1,rfl⟩:=step h;obtain⟨e2,l2,r2,rfl,h2,q2,rfl⟩:=step q1;obtain⟨e3,l3,r3,rfl,h3,q3,rfl⟩:=step q2;obtain⟨e4,l4,r4,rfl,h4,q4,rfl⟩:=step q3;cases q4;exact⟨_,_,_,_,_,_,_,_,rfl,rfl,rfl,rfl,h1,h2,h3,h4,rfl⟩
theorem b1W(hk1:PE X k1 (tC (.str a1)))(hk2:PE X k2 (tC (.str a2)))(hk3:PE X k3 (tC (.str a3)))(hk4:PE X k4 (tC (.str a4)))(hv1:ED X B v1 m1)(hv2:ED X B v2 m2)(hv3:ED X B v3 m3)(hv4:ED X B v4 m4)
  (hm:∀u1 u2 u3 u4:Value,merged [] [((.inr a1:Key),u1),(.inr a2,u2),(.inr a3,u3),(.inr a4,u4)]=[(.inr a1,u1),(.inr a2,u2),(.inr a3,u3),(.inr a4,u4)]):
  ED X B (.Dict [some k1,some k2,some k3,some k4] [v1,v2,v3,v4] pos) (a3q [a1,a2,a3,a4] (z1_ m1 (z1_ m2 (z1_ m3 (z1_ m4 z5_))))):=by
 intro pins s σ H Q I h;obtain⟨G,env,d,env',rl,em,kk⟩:=h;obtain⟨⟨ds,env9⟩,em1,em2⟩:=q6_ em;obtain⟨ls,er,em3⟩:=y5_ em2;cases em3;obtain⟨⟨d1,env1⟩,x1,em4⟩:=q6_ em1;obtain⟨⟨r1,env1'⟩,em5,em6⟩:=y5_ em4;cases em6;obtain⟨⟨d2,env2⟩,x2,em7⟩:=q6_ em5;obtain⟨⟨r2,env2'⟩,em8,em9⟩:=y5_ em7;cases em9;obtain⟨⟨d3,env3⟩,x3,em10⟩:=q6_ em8;obtain⟨⟨r3,env3'⟩,em11,em12⟩:=y5_ em10;cases em12;obtain⟨⟨d4,env4⟩,x4,em13⟩:=q6_ em11;obtain⟨⟨r4,env4'⟩,em14,em15⟩:=y5_ em13;cases em15;cases em14;obtain⟨e1,e2,e3,e4,l1,l2,l3,l4,rfl,rfl,rfl,rfl,i1,i2,i3,i4,rfl⟩:=b8U er;dsimp only at x1 x2 x3 x4;refine wpAny_Dict_walk (knd:=w2_ X.prog X.w) rfl rfl (by simp) (by simp) ?_
 have hn:H s.heap.objs.size=none:=I.hok.fresh (Qb _)
 have hz:(s.heap.objs.size==sysModules)=false:=Jw.mpr (Zy (Qr I.big))
 have I0:Inv X pins σ (upd H s.heap.objs.size (.dK [])) {s with heap:=s.heap.push {cls:=.type "dict",data:=.dict #[]}}:=I.laid (a:=s.heap.objs.size) (o:=.dK []) (t':=s.toks) (fun _ _ q=>Qj _ q) (Qb _) ⟨Ub _,hz,[],.nil,Heap.DictOf.new s.heap⟩
 generalize s.heap.objs.size=a at *;have ev0:Ev X.K B G σ env H G σ env (upd H a (.dK [])):=rl.allocM hn;have key:∀{e:Expr}{x:Str}(he:PE X e (tC (.str x))) {s1:Shared}{H1:Hp}{R:OE},Inv X pins σ H1 s1->(∀u s2,v4_ (.str x) u->Inv X pins σ H1 s2->R u s2)->wpAny (model X.prog X.w) X.A (eval e X.env) R X.xe s1:=fun{e x} he {s1 H1 R} I1 hR=>
  thn (he pins s1 σ _ (fun v H'=>v=.str x/\H'=H1) I1 ⟨rfl,rfl⟩) fun u s2 ⟨v,H',I2,r,z1,z2⟩=>by
   subst z1 z2;exact hR u s2 r I2
 have val:∀{e:Expr}{m:Mo D}(he:ED X B e m) {s1:Shared}{G1 H1:Hp}{en en':Env'}{d:D}{R:OE},Inv X pins σ H1 s1->Ev X.K B G σ env H G1 σ en H1->m en=some (d,en')->(∀u v s2 G2 H2,Inv X pins σ H2 s2->v4_ v u->Ev X.K B G1 σ en H1 G2 σ en' H2->Rep X.K G2 v d->R u s2)->wpAny (model X.prog X.w) X.A (eval e X.env) R X.xe s1:=fun{e m} he {s1 G1 H1 en en' d R} I1 ev1 hm hR=>
  thn (he pins s1 σ H1 (fun v H2=>∃G2,Ev X.K B G1 σ en H1 G2 σ en' H2/\Rep X.K G2 v d) I1 ⟨G1,en,d,en',ev1.rel,hm,fun v G2 H2 ev r=>⟨G2,ev,r⟩⟩) fun u s2 ⟨v,H2,I2,r,G2,ev,rp⟩=>hR u v s2 G2 H2 I2 r ev rp
 have stay:∀{G1 H1:Hp}{en:Env'}{G2 H2:Hp}{en':Env'},Ev X.K B G σ env H G1 σ en H1->Ev X.K B G1 σ en H1 G2 σ en' H2->H1 a=some (.dK [])/\G1 a=none/\ ¬ Owned σ en a->H2 a=some (.dK [])/\G2 a=none/\ ¬ Owned σ en' a:=fun{G1 H1 en G2 H2 en'} ev1 ev2 ⟨q1,q2,q3⟩=>
  ⟨ev2.keep a _ q3 (fun _ z=>by cases z) q1,ev2.stay a (by rw[q1];simp) q3 q2,fun z=>(ev2.sub a z).elim q3 fun w=>by rw[q1]at w;cases w⟩
 have st0:(upd H a (.dK [])) a=some (.dK [])/\G a=none/\ ¬ Owned σ env a:=⟨y6_,rl.gnone hn,rl.unowned hn⟩
 refine Ug (key hk1 I0 fun y1 s1 r1 I1=>val hv1 I1 ev0 x1 fun u1 w1 s2 G1 H1 I2 q1 ev1 p1=>?_)
 have t1:=ev0.trans ev1
 have st1:=stay ev0 ev1 st0
 refine Ug (key hk2 I2 fun y2 s3 r2 I3=>val hv2 I3 t1 x2 fun u2 w2 s4 G2 H2 I4 q2 ev2 p2=>?_)
 have t2:=t1.trans ev2
 have st2:=stay t1 ev2 st1
 refine Ug (key hk3 I4 fun y3 s5 r3 I5=>val hv3 I5 t2 x3 fun u3 w3 s6 G3 H3 I6 q3 ev3 p3=>?_)
 have t3:=t2.trans ev3
 have st3:=stay t2 ev3 st2
 refine Ug (key hk4 I6 fun y4 s7 r4 I7=>val hv4 I7 t3 x4 fun u4 w4 s8 G4 H4 I8 q4 ev4 p4=>?_)
 have t4:=t3.trans ev4
 obtain⟨z1,z2,z3⟩:=stay t3 ev4 st3;refine pairTrees_nil_walk ?_
 obtain⟨_,_,vs0,kv0,dd⟩:=(show k1_ X.prog X.w _ s8.heap a (.dK [])from I8.hok _ _ z1)
 cases kv0;refine⟨[(.inr a1,u1),(.inr a2,u2),(.inr a3,u3),(.inr a4,u4)],⟨a0B (k:=.inr a1) r1,rfl,a0B (k:=.inr a2) r2,rfl,a0B (k:=.inr a3) r3,rfl,a0B (k:=.inr a4) r4,rfl,trivial⟩,dd,fun h' d' sb=>?_⟩
 rw[hm]at d';have I9:Inv X pins σ (upd H4 a (.dK [(.inr a1,w1),(.inr a2,w2),(.inr a3,w3),(.inr a4,w4)])) {s8 with heap:=h',toks:=s8.toks+4}:=b5G I8 (by rw[z1];exact True.intro) sb (by obtain⟨o,es,ep,g1,_⟩:=d';exact⟨o,g1⟩) ⟨show 4≤sizeLine by decide,hz,_,.cons ⟨rfl,q1⟩ (.cons ⟨rfl,q2⟩ (.cons ⟨rfl,q3⟩ (.cons ⟨rfl,q4⟩ .nil))),d'⟩
 have l4:Le G4 (upd G4 a (.dK [(.inr a1,w1),(.inr a2,w2),(.inr a3,w3),(.inr a4,w4)])):=Le.upd z2
 have up:∀{G0:Hp}{w:V}{e:List D}{l:List Int},Le G0 G4->Rep X.K G0 w (.tup e)->ints? e=some l->∃b,w=.ref b/\SqU X.K (upd G4 a (.dK [(.inr a1,w1),(.inr a2,w2),(.inr a3,w3),(.inr a4,w4)])) b (l.map V.int):=fun{G0 w e l} le r hi=>by
  obtain⟨b,hb,q⟩:=b8T r hi;exact⟨b,hb,l4.sqU (le.sqU q)⟩
 refine⟨.ref a,_,I9,rfl,kk _ _ _ (t4.layO (o:=.dK [(.inr a1,w1),(.inr a2,w2),(.inr a3,w3),(.inr a4,w4)]) hn z3 z1 (fun _ z=>by cases z) (fun _ z=>by cases z) z2) ?_⟩
 simp only[Rep,a2S];exact⟨a,_,rfl,y6_,rfl,up ((ev2.same.trans ev3.same).trans ev4.same) p1 i1,rfl,up (ev3.same.trans ev4.same) p2 i2,rfl,up ev4.same p3 i3,rfl,up Le.refl p4 i4,trivial⟩
def lkV:List (Key×V)->Key->Option V
 |[],_=>none
 |p::l,k=>if p.1=k then some p.2 else lkV l k
theorem b1X:∀{ps:List (Key×V)}{vs:List (Key×Value)}(k:Key),KV ps vs->a0Q (lkV ps k) (valueAt vs k)
 |[],_,k,h=>by cases h;exact trivial
 |p::ps,_,k,h=>by
  cases h with
  |@cons _ q _ qs hq t=>
   have ih:=b1X k t
   obtain⟨h1,h2⟩:=hq
   by_cases e:p.1=k
   ·have e1:lkV (p::ps) k=some p.2:=Qc e
    have e2:valueAt (q::qs) k=some q.2:=by
     unfold valueAt;rw[Yb,show decide (q.1=k)=true from Uk (h1.symm.trans e)]
     rfl
    rw[e1,e2];exact h2
   ·have e1:lkV (p::ps) k=lkV ps k:=Ql e
    have e2:valueAt (q::qs) k=valueAt qs k:=by
     unfold valueAt;rw[Yb,show decide (q.1=k)=false from Zx (fun z=>e (h1.trans z))]
    rw[e1,e2];exact ih
theorem b8V:MtM X "dict.get" (fun x vs H Q=>∃(q:Addr) (ps:List (Key×V)) (key:Key) (df:V),x=.ref q/\vs=[kV key,df]/\H q=some (.dK ps)/\Q ((lkV ps key).getD df) H):=by
 intro pins s σ H x vs v us Q I rx rv h;obtain⟨q,ps,key,df,rfl,rfl,hq,k⟩:=h;cases rx;obtain⟨u,u2,rfl,ru,ru2⟩:=rv.two;obtain⟨_,hsys,xs,kv,dd⟩:=(show k1_ X.prog X.w H s.heap q (.dK _)from I.hok q _ hq)
 refine call_meetsIn PySem.F.slot_dict_get dd.typeIs PySem.F.entry_dict_get (PySem.F.args_dict_get_3 _ _ _) (meets_dict_get_default (w2_ X.prog X.w) q (a0B ru) hsys u2) ⟨_,dd.mapOf,?_⟩;have hr:=b1X key kv;cases hv:lkV ps key with
 |none=>
  rw[hv]at hr k;have:valueAt xs key=none:=by
   cases h2:valueAt xs key with
   |none=>rfl
   |some w=>rw[h2]at hr;exact False.elim hr
  rw[this];exact⟨df,H,I.tok _,ru2,k⟩
 |some y=>
  rw[hv]at hr k;obtain⟨w',hw,rw'⟩:=a0Q.some_of (v:=y) (o:=valueAt xs key) hr;rw[hw];exact⟨y,H,I.tok _,rw',k⟩
def lkT:List (Str×List Int)->Key->Option (List Int)
 |[],_=>none
 |p::l,k=>if(.inr p.1:Key)=k then some p.2 else lkT l k
theorem b1Y{K:Qq}{G:Hp}:∀{ps:List (Key×V)}{qs:List (Str×List Int)}(k:Key),a2R K G ps qs->match lkT qs k with
  |none=>lkV ps k=none
  |some l=>∃a,lkV ps k=some (.ref a)/\SqU K G a (l.map V.int)
 |[],[],k,_=>rfl
 |p::ps,q::qs,k,⟨h1,⟨a,h2,h3⟩,h4⟩=>by
  have ih:=b1Y k h4
  by_cases e:(.inr q.1:Key)=k
  ·have e1:lkT (q::qs) k=some q.2:=Qc e
   have e2:lkV (p::ps) k=some p.2:=Qc (h1.trans e)
   rw[e1];exact⟨a,by rw[e2,h2],h3⟩
  ·have e1:lkT (q::qs) k=lkT qs k:=Ql e
   have e2:lkV (p::ps) k=lkV ps k:=Ql (fun z=>e (h1.symm.trans z))
   rw[e1,e2];exact ih
def a0N(md ma mb:Mo D):Mo D:=fun env=>(md env).bind fun o=>(ma o.2).bind fun p=>(mb p.2).bind fun r=>match o.1 with
 |.obj (.dt kvs)=>(a6a p.1).map fun k=>match lkT kvs k with
  |none=>(r.1,r.2)
  |some l=>(.tup (l.map .int),r.2)
 |_=>none
theorem b1Z{e e2 d:Expr}{ma mb md:Mo D}{apos cpos:Pos}(ho:ED X B d md)(ha:EDs X B [e,e2] (z1_ ma (z1_ mb z5_)))
  (hbase:attributeBase d "get" X.env (eval d X.env)=eval d X.env:=by rfl)
  (hfew:((backTo cpos (starEach [e,e2] X.env)).all (fun x=>!x.1)&&(backToKw cpos (keywordEach [] X.env)).all (fun x=>x.1.isSome)
   &&decide ([e,e2].length+([]:List Keyword).length+(if([]:List Keyword).isEmpty then 0 else 1)<30))=true:=by rfl)
  (hline:(apos.endLine==cpos.line)=true:=by rfl)(hs:starEach [e,e2] X.env=(false,eval e X.env)::starEach [e2] X.env:=by rfl)(hplain:(backTo cpos (starEach [e2] X.env)).any (·.1)=false:=by rfl):
  ED X B (.Call (.Attribute d "get" apos) [e,e2] [] cpos) (a0N md ma mb):=by
 refine pe_imp (a6Q PySem.F.plainAttrs_dict PySem.F.slot_dict_get PySem.F.type_dict_get b8V ho ha hbase hfew hline hs hplain) ?_
 rintro σ H Q ⟨G,env,d,env',rl,e,k⟩;obtain⟨⟨d0,env0⟩,e0,e⟩:=q6_ e;obtain⟨⟨d1,env1⟩,e1,e2⟩:=q6_ e;obtain⟨⟨d2,env2⟩,e3,e4⟩:=q6_ e2;dsimp only at e1 e3 e4;split at e4
 case h_2=>cases e4
 rename_i kvs;obtain⟨key,e5,e6⟩:=y5_ e4;refine .bind rl e0 fun v0 G0 H0 ev0 r0=>?_
 simp only[Rep,a2S]at r0;obtain⟨q,ps,rfl,g0,tv⟩:=r0;refine⟨.inr (.inr (.inl ⟨rfl,.inl ⟨_,ev0.rel.sub _ _ g0⟩⟩)),G0,env0,[d1,d2],env2,ev0.rel,?_,fun us G1 H1 ev r1=>?_⟩
 ·show(ma env0).bind _=_
  rw[e1,Qx];show((z1_ mb z5_) env1).map _=_;show((mb env1).bind _).map _=_;rw[e3]
  rfl
 ·simp only[z9_]at r1
  obtain⟨y1,t1,rfl,s1,y2,t2,rfl,s2,rfl⟩:=r1;have hk:=a7V s1 e5;subst hk;refine⟨q,ps,key,y2,rfl,rfl,ev.rel.sub _ _ (ev.same _ _ g0),?_⟩;have hl:=b1Y key (tv.mono ev.same);cases hv:lkT kvs key with
  |none=>
   rw[hv]at e6 hl;cases e6;rw[show lkV ps key=none from hl]
   exact k _ G1 H1 (ev0.trans ev) s2
  |some l=>
   rw[hv]at e6 hl;cases e6;obtain⟨a,h1,h2⟩:=hl;rw[h1];exact k _ G1 H1 (ev0.trans ev) (by simp only[Rep];exact⟨a,_,rfl,h2,a5Q l⟩)
end
section
variable{X:Cx}{B:OA}{pos p:Pos}{fn:Fn}{k:Nat}{x:Str}
theorem a8c(D:Def X.prog X.w X.K X.mg X.base x k 0 fn)(hr:Room k X.A)(hg:Gl X x)(hdb:(x==("__debug__":Str))=false:=by decide):
  EL X B (.Call (.Name x p) [] [] pos) (u3_ 0 fn q0_):=by
 obtain⟨f,fd,ps,F,hl,hm,hk,hb⟩:=D.ex;refine pe_imp (b5n F hr hg hm hk hb .nil a5n hdb) ?_
 rintro σ H Q ⟨G,env,d,env',rl,e,k⟩;obtain⟨⟨r,env1⟩,e1,e2⟩:=q6_ e;cases r with
 |d d'=>cases e2
 |l ds=>
  cases e2;have h:=a5F (E:=fun _ _ _=>False) rl e1 k
  obtain⟨G,env,as,env',rl,e,kk⟩:=h;cases e;exact kk [] G H (.refl rl) rfl
end
end L2.Mir
namespace L2.Mir
open PySem L2
abbrev rgD(n:Nat):List D:=(List.range n).map fun(i:Nat)=>D.int (i:Int)
theorem b8W(n:Nat):a0l 0 n=rgD n:=by
 unfold a0l rgD;exact Za fun i _=>by simp
theorem a4R{M:Mo D}{e e1:Env'}{n:Nat}{j:Int}(hM:M e=some (.int j,e1))(hj:j=(n:Int))(hn:n≤10000):j4_ (z1_ M z5_) e=some (rgD n,e1):=by
 subst hj;have:=a4M (ms:=z1_ M z5_) (env:=e) (e1:=e1) (j:=(n:Int)) (by unfold z1_ z5_;rw[hM];rfl) (by omega) (by omega)
 rw[this,Yl,b8W]
theorem b8X{base:Env'}{w v:W}{k:Nat}(h:base.length=k):(base++[w]).set k v=base++[v]:=by
 subst h;simp
theorem b8Y{base:Env'}{w w2 v v2:W}{k:Nat}(h:base.length=k):((base++[w,w2]).set k v).set (k+1) v2=base++[v,v2]:=by
 subst h;rw[List.set_append_right _ _ (Qb _),Nat.sub_self,List.set_append_right _ _ (by omega)]
 simp
theorem b2a{α:Type}{t:Mo Bool}{m:Mo D}{base:Env'}{q f:α->D}{p:α->Bool}{k:Nat}(hk:base.length=k):∀{l:List α},(∀a∈l,t (base++[.dat (q a)])=some (p a,base++[.dat (q a)])/\(p a=true->m (base++[.dat (q a)])=some (f a,base++[.dat (q a)])))->∀w,∃w',j1_ (gN k) t m (l.map q) (base++[w])=some ((l.filter p).map f,base++[w'])
 |[],_,w=>⟨w,rfl⟩
 |a::l,h,w=>by
  obtain⟨h1,h2⟩:=h a (by simp)
  obtain⟨w',e⟩:=b2a hk (l:=l) (fun x hx=>h x (by simp[hx])) (.dat (q a))
  refine⟨w',?_⟩;rw[Qs];unfold j1_ gN;rw[Qx,b8X hk,h1,Qx];cases hp:p a with
  |false=>simp only[Zh,Jx];rw[Jt (by simp[hp])];exact e
  |true=>
   simp only[Zs];rw[h2 hp,Qx,Ja hp,Qs];show(j1_ (gN k) t m (l.map q) (base++[.dat (q a)])).map _=_;rw[e];rfl
theorem b8Z{α:Type}{mi:Mo (List D)}{keep:List Bool}{t:Mo Bool}{m:Mo D}{env base:Env'}{l:List α}{q f:α->D}{p:α->Bool}{k:Nat}(hi:mi env=some (l.map q,env))(hl:l.length≤100000)(hb:j9_ keep 0 env=base)(hk:base.length=k)
  (h:∀a∈l,t (base++[.dat (q a)])=some (p a,base++[.dat (q a)])/\(p a=true->m (base++[.dat (q a)])=some (f a,base++[.dat (q a)])))(ho:∀w,g0_ keep env (base++[w])=some env):y7_ mi keep 1 (gN k) t m env=some ((l.filter p).map f,env):=by
 obtain⟨w',e⟩:=b2a hk h .nil;refine a2s hi (by simpa using hl) (e2:=base++[w']) ?_ (ho w')
 have:j9_ keep 1 env=base++[.nil]:=by rw[←hb];unfold j9_;simp
 rw[this];exact e
theorem b9a{α:Type}{mi:Mo (List D)}{keep:List Bool}{m:Mo D}{env base:Env'}{l:List α}{q f:α->D}{k:Nat}(hi:mi env=some (l.map q,env))(hl:l.length≤100000)(hb:j9_ keep 0 env=base)(hk:base.length=k)
  (h:∀a∈l,m (base++[.dat (q a)])=some (f a,base++[.dat (q a)]))(ho:∀w,g0_ keep env (base++[w])=some env):y7_ mi keep 1 (gN k) x3_ m env=some (l.map f,env):=by
 have:=b8Z (p:=fun _=>true) (t:=x3_) hi hl hb hk (fun a ha=>⟨rfl,fun _=>h a ha⟩) ho
 rw[this,List.filter_eq_self.mpr (fun _ _=>rfl)]
theorem b2b{α:Type}{t:Mo Bool}{m:Mo D}{base:Env'}{q q2 f:α->D}{p:α->Bool}{k:Nat}(hk:base.length=k):∀{l:List α},(∀a∈l,t (base++[.dat (q a),.dat (q2 a)])=some (p a,base++[.dat (q a),.dat (q2 a)])/\(p a=true->m (base++[.dat (q a),.dat (q2 a)])=some (f a,base++[.dat (q a),.dat (q2 a)])))->∀w w2,∃w' w2',j1_ (gT 2 (gCn (gN k) (gCn (gN (k+1)) gNl))) t m (l.map fun a=>.tup [q a,q2 a]) (base++[w,w2])=some ((l.filter p).map f,base++[w',w2'])
 |[],_,w,w2=>⟨w,w2,rfl⟩
 |a::l,h,w,w2=>by
  obtain⟨h1,h2⟩:=h a (by simp)
  obtain⟨w',w2',e⟩:=b2b hk (l:=l) (fun x hx=>h x (by simp[hx])) (.dat (q a)) (.dat (q2 a))
  refine⟨w',w2',?_⟩;rw[Qs];unfold j1_;have hg:gT 2 (gCn (gN k) (gCn (gN (k+1)) gNl)) (.tup [q a,q2 a]) (base++[w,w2])=some (base++[.dat (q a),.dat (q2 a)]):=by
   show some (((base++[w,w2]).set k _).set (k+1) _)=_;rw[b8Y hk]
  rw[hg,Qx,h1,Qx];cases hp:p a with
  |false=>simp only[Zh,Jx];rw[Jt (by simp[hp])];exact e
  |true=>
   simp only[Zs];rw[h2 hp,Qx,Ja hp,Qs];show(j1_ _ t m (l.map _) (base++[.dat (q a),.dat (q2 a)])).map _=_;rw[e];rfl
theorem b9b{α:Type}{mi:Mo (List D)}{keep:List Bool}{t:Mo Bool}{m:Mo D}{env base:Env'}{l:List α}{q q2 f:α->D}{p:α->Bool}{k:Nat}(hi:mi env=some (l.map (fun a=>.tup [q a,q2 a]),env))(hl:l.length≤100000)(hb:j9_ keep 0 env=base)(hk:base.length=k)
  (h:∀a∈l,t (base++[.dat (q a),.dat (q2 a)])=some (p a,base++[.dat (q a),.dat (q2 a)])/\(p a=true->m (base++[.dat (q a),.dat (q2 a)])=some (f a,base++[.dat (q a),.dat (q2 a)])))(ho:∀w w2,g0_ keep env (base++[w,w2])=some env):
  y7_ mi keep 2 (gT 2 (gCn (gN k) (gCn (gN (k+1)) gNl))) t m env=some ((l.filter p).map f,env):=by
 obtain⟨w',w2',e⟩:=b2b hk h .nil .nil;refine a2s hi (by simpa using hl) (e2:=base++[w',w2']) ?_ (ho w' w2')
 have:j9_ keep 2 env=base++[.nil,.nil]:=by rw[←hb];unfold j9_;simp
 rw[this];exact e
theorem b9c{α:Type}{mi:Mo (List D)}{keep:List Bool}{m:Mo D}{env base:Env'}{l:List α}{q q2 f:α->D}{k:Nat}(hi:mi env=some (l.map (fun a=>.tup [q a,q2 a]),env))(hl:l.length≤100000)(hb:j9_ keep 0 env=base)(hk:base.length=k)
  (h:∀a∈l,m (base++[.dat (q a),.dat (q2 a)])=some (f a,base++[.dat (q a),.dat (q2 a)]))(ho:∀w w2,g0_ keep env (base++[w,w2])=some env):y7_ mi keep 2 (gT 2 (gCn (gN k) (gCn (gN (k+1)) gNl))) x3_ m env=some (l.map f,env):=by
 have:=b9b (p:=fun _=>true) (t:=x3_) hi hl hb hk (fun a ha=>⟨rfl,fun _=>h a ha⟩) ho
 rw[this,List.filter_eq_self.mpr (fun _ _=>rfl)]
theorem b2c{g:OZ}{b:Mo Fl}:∀{ds:List D}{P:Nat->Env'->Prop}{env:Env'},(∀i d e,ds[i]? =some d->P i e->∃e1 e2,g d e=some e1/\b e1=some (.nx,e2)/\P (i+1) e2)->P 0 env->∃env',loop g b ds env=some (.nx,env')/\P ds.length env'
 |[],P,env,_,p=>⟨env,rfl,p⟩
 |d::ds,P,env,h,p=>by
  obtain⟨e1,e2,h1,h2,h3⟩:=h 0 d env rfl p;obtain⟨e3,h4,h5⟩:=b2c (ds:=ds) (P:=fun i e=>P (i+1) e) (fun i x e hi q=>h (i+1) x e (by simpa using hi) q) h3
  refine⟨e3,?_,h5⟩;unfold loop;rw[h1];simp only[Qx];rw[h2];exact h4
theorem a8d{g:OZ}{b:Mo Fl}{n:Nat}(P:Nat->Env'->Prop){env:Env'}(h:∀i<n,∀e,P i e->∃e1 e2,g (.int (i:Int)) e=some e1/\b e1=some (.nx,e2)/\P (i+1) e2)(p:P 0 env):∃env',loop g b (rgD n) env=some (.nx,env')/\P n env':=by
 obtain⟨e',h1,h2⟩:=b2c (ds:=rgD n) (g:=g) (b:=b) (P:=P) (env:=env) (fun i d e hi q=>by
  unfold rgD at hi;rw[Yu]at hi
  by_cases hl:i<n
  ·rw[List.getElem?_range hl]at hi
   cases hi;exact h i hl e q
  ·rw[List.getElem?_eq_none (by simpa using hl)]at hi;cases hi) p
 refine⟨e',h1,?_⟩;have:(rgD n).length=n:=by simp[rgD]
 rw[this]at h2;exact h2
theorem b0d{m:Mo D}{ml mh:Mo (Option Int)}{e:Env'}{xs:List D}{lo hi:Option Int}(h:m e=some (.tup xs,e))(h1:ml e=some (lo,e))(h2:mh e=some (hi,e)):mSl m ml mh e=some (.tup (a1i xs lo hi),e):=by
 unfold mSl;rw[h,Qx,h1,Qx,h2];rfl
theorem k9_{m n:Mo Fl}{e e1:Env'}{r:Option (Fl×Env')}(h:m e=some (.nx,e1))(h2:n e1=r):q2_ m n e=r:=by unfold q2_;rw[h];exact h2
theorem a8e{t:Mo Bool}{m n:Mo Fl}{e e1:Env'}{r:Option (Fl×Env')}(h:t e=some (true,e1))(h2:m e1=r):y3_ t m n e=r:=by unfold y3_;rw[h];exact h2
theorem a1V{t:Mo Bool}{m n:Mo Fl}{e e1:Env'}{r:Option (Fl×Env')}(h:t e=some (false,e1))(h2:n e1=r):y3_ t m n e=r:=by unfold y3_;rw[h];exact h2
theorem b2d{i:Nat}{m:Mo D}{env env':Env'}{w w':W}{d:D}{ds ds':List D}(h0:env[i]? =some w')(h00:w'.mutL=some ds')(h:m env=some (d,env'))(h1:env'[i]? =some w)(h2:w.mutL=some ds)(hl:ds.length<100000):a1y i m env=some (.nx,env'.set i (w.put (ds++[d]))):=by
 unfold a1y;rw[h0];simp only[Qx,h00,h,h1,h2];rw[Qc hl]
theorem a2B{n:Nat}{f:Fn}{as:Mo (List Ar)}{env e1:Env'}{av:List Ar}{r:D}{ws':List W}(h:as env=some (av,e1))(hn:av.length=n)(hs:slots av=[])(hf:f (av.map (u2_ (.l [])))=some (.d r,ws')):mCD n f as env=some (r,e1):=a0K (a1S h hn hs hf)
theorem a8f{names:List Str}{keep:List Bool}{mb:Mo D}{xb:Mx}{fr:Option Str->Option D}{env lw:Env'}{n:Str}{d:D}(hw:a2w keep env=lw)(hx:xb lw=some n)(hn:names.contains n=true)(hf:fr (some n)=some d):a1k names keep mb xb fr env=some (d,env):=by
 unfold a1k outcome;rw[hw,hx];simp only[hn,Zs,Qx];rw[hf];rfl
theorem b9d{C N:Nat}(hC:1≤C)(hC2:C≤900){body last:Mo Fl}{ns:List Int}(hb:∀k:Nat,k<1000->∀ws:List W,ws.length=N->∃ws':List W,ws'.length=N+1/\body (.dat (.lst (ns.map D.int))::.dat (.int (k:Int))::ws)=some (.nx,.dat (.lst (ns.map D.int))::ws'))
  (hl:∀ws:List W,ws.length=N+1->∃e,last (.dat (.lst (ns.map D.int))::ws)=some (.ret (.bl true),e)):
  ∃ws',fnM (N+2) (q2_ (w8_ (j4_ (z1_ (mCB a3W (z1_ (mC (.int 1)) (z1_ (mCB a3X (z1_ (mCB v8_ (z1_ (z0_ 0) z5_)) (z1_ (mC (.int (C:Int))) z5_))) z5_))) z5_)) (gN 1) body) last) [.dat (.lst (ns.map D.int))]=some (.d (.bl true),ws'):=by
 obtain⟨K,hK,hr⟩:∃K:Nat,K≤C/\(j4_ (z1_ (mCB a3W (z1_ (mC (.int 1)) (z1_ (mCB a3X (z1_ (mCB v8_ (z1_ (z0_ 0) z5_)) (z1_ (mC (.int (C:Int))) z5_))) z5_))) z5_)) (.dat (.lst (ns.map D.int))::List.replicate (N+1) .nil)=some (rgD K,.dat (.lst (ns.map D.int))::List.replicate (N+1) .nil):=by
  let q:Int:=if(C:Int)<(ns.length:Int)then C else(ns.length:Int)
  let p:Int:=if q>1 then q else 1
  have hq:q≤C:=by simp only[q];split<;>omega
  have hp:1≤p/\p≤C:=by simp only[p];split<;>omega
  refine⟨p.toNat,by omega,a4R (j:=p) (a0J (y2_ rfl (y2_ (a0J (y2_ (a0J (y2_ rfl rfl) (show v8_ [.lst (ns.map .int)]=some (.int (ns.length:Int))from ?_)) (y2_ rfl rfl)) (show a3X [.int (ns.length:Int),.int C]=some (.int q)from rfl)) rfl)) (show a3W [.int 1,.int q]=some (.int p)from rfl)) (by omega) (by omega)⟩
  show some (D.int ((ns.map D.int).length:Nat))=_;rw[Qk]
 obtain⟨e',h1,ws,hws,rfl⟩:=a8d (g:=gN 1) (b:=body) (n:=K) (fun _ e=>∃ws:List W,ws.length=N+1/\e=.dat (.lst (ns.map D.int))::ws) (env:=.dat (.lst (ns.map D.int))::List.replicate (N+1) .nil)
  (fun i hi e ⟨ws,hw,he⟩=>by
   subst he
   match ws,hw with
   |w::ws,hw=>
    obtain⟨ws',h1,h2⟩:=hb i (by omega) ws (by simpa using hw)
    exact⟨_,_,rfl,h2,ws',h1,rfl⟩) ⟨_,by simp,rfl⟩
 obtain⟨e2,h2⟩:=hl ws hws;refine⟨_,w3_ (d:=.bl true) (env:=e2) ?_⟩;show q2_ _ _ (.dat (.lst (ns.map D.int))::List.replicate (N+1) .nil)=_;exact k9_ ((a1D hr).trans h1) h2
theorem a4e{n:Nat}{g:List W->Option Str}{as:Mo (List Ar)}{env e1:Env'}{av:List Ar}{r:Option Str}(h:as env=some (av,e1))(hn:av.length=n)(hs:slots av=[])(hg:g (av.map (u2_ (.l [])))=r):a0L n g as env=r:=by
 unfold a0L;rw[h,Qx];simp only[hn,Zs,hs];exact hg
theorem b9e{m:Mo D}{i j:Nat}{env e1:Env'}{a b:D}(h:m env=some (.tup [a,b],e1)):a0g m (gT 2 (gCn (gN i) (gCn (gN j) gNl))) env=some (.nx,(e1.set i (.dat a)).set j (.dat b)):=by
 unfold a0g;rw[h];rfl
theorem b9f{α:Type}(l:List α)(p q:α->D):a1A (l.map p) (l.map q)=l.map fun a=>.tup [p a,q a]:=by
 unfold a1A
 induction l with
 |nil=>rfl
 |cons a l ih=>rw[Qs,Qs,List.zip_cons_cons,Qs,ih,Qs]
theorem b9g{ms:Mo (List D)}{e e1:Env'}{a b:D}{α:Type}{l:List α}{p q:α->D}(h:ms e=some ([a,b],e1))(ha:a.items=some (l.map p))(hb:b.items=some (l.map q)):a1B ms e=some (l.map fun a=>.tup [p a,q a],e1):=by
 unfold a1B;rw[h];show a.items.bind _=_;rw[ha];show b.items.map _=_;rw[hb,Xj,b9f]
theorem a8g{m n:Mo D}{e e1:Env'}{r:Option (D×Env')}(h:m e=some (.bl true,e1))(h2:n e1=r):u4_ m n e=r:=by unfold u4_;rw[h];exact h2
theorem b2e{m n:Mo D}{e e1:Env'}(h:m e=some (.bl false,e1)):u4_ m n e=some (.bl false,e1):=by unfold u4_;rw[h];rfl
theorem b9h{m:Mo D}{i j:Nat}{env e1 e2:Env'}{a b:D}(h:m env=some (.tup [a,b],e1))(he:(e1.set i (.dat a)).set j (.dat b)=e2):a0g m (gT 2 (gCn (gN i) (gCn (gN j) gNl))) env=some (.nx,e2):=by
 rw[b9e h,he]
theorem a1l{i:Nat}{m:Mo D}{env e1 e2:Env'}{d:D}(h:m env=some (d,e1))(he:e1.set i (.dat d)=e2):q8_ i m env=some (.nx,e2):=by rw[g1_ h,he]
theorem a8h{i:Nat}{m:Mo (List D)}{env e1 e2:Env'}{d:List D}(h:m env=some (d,e1))(he:e1.set i (.own d)=e2):u5_ i m env=some (.nx,e2):=by rw[b1n h,he]
theorem a1H{N:Nat}{mb:Mo Fl}{ws env ws':List W}{d:D}(h:mb (ws++List.replicate (N-ws.length) .nil)=some (.ret d,env))(he:a0F ws env=ws'):fnM N mb ws=some (.d d,ws'):=by rw[w3_ h,he]
abbrev up(a n:Nat):List Nat:=(List.range (n-a)).map (a+ ·)
theorem a1m{xs ys:List D}(h:xs.length+ys.length≤10000):v5_ (.tup xs) (.tup ys)=some (.tup (xs++ys)):=by
 show(if xs.length+ys.length≤10000 then _ else none)=_
 rw[Qc h]
end L2.Mir
namespace L2.Mir
open PySem PySem.W
structure DfAt(K:Frag)(x:Str)(st:Stmt)(f:Addr)(pm:Value)(cd:Addr):Prop where
 a:nsIn K mainGlobals x=some (some (.ref f))
 l:K.lookup f=some ⟨.type "function",none,.func (fnOf x x (a2P st) (a0S st) (v9_ st) .none .none .none pm none (.ref cd) .none),⟨[]⟩⟩
 c:codeIn K (.ref cd) x=true
 k:keepIn K (.ref f)=true
theorem DfAt.f{K:Frag}{x:Str}{st:Stmt}{f:Addr}{pm:Value}{cd:Addr}(A:DfAt K x st f pm cd):Fun K x x st f (fnOf x x (a2P st) (a0S st) (v9_ st) .none .none .none pm none (.ref cd) .none):=b5F A.l A.c A.k
theorem DfAt.g{K:Frag}{x:Str}{st:Stmt}{f:Addr}{pm:Value}{cd:Addr}{h:Heap}{mg:OU}(A:DfAt K x st f pm cd)(X:K.In h)(G:h.Ns mainGlobals mg):mg x=some (.ref f):=mg_of X G A.a
end L2.Mir
namespace K51
open PySem L2 L2.Mir
def top(i:Nat):Stmt:=PySem.Challenge.pw_turnsigns_k51_tables_turned.main.body.getD i (.Pass ⟨0,0,0,0⟩)
abbrev a8i:Stmt:=top 16
abbrev a8j:Stmt:=top 17
abbrev a8k:Stmt:=top 18
abbrev a8l:Stmt:=top 19
abbrev a8m:Stmt:=top 20
abbrev a8n:Stmt:=top 23
abbrev a8o:Stmt:=top 24
abbrev a6f:Stmt:=top 25
abbrev a8p:Stmt:=top 27
abbrev a8q:Stmt:=top 28
abbrev a8r:Stmt:=top 29
abbrev a8s:Stmt:=top 30
abbrev a8t:Stmt:=top 31
abbrev a8u:Stmt:=top 32
abbrev a8v:Stmt:=top 33
abbrev a8w:Stmt:=top 34
abbrev a8x:Stmt:=top 36
abbrev a6g:Stmt:=top 37
abbrev a8y:Stmt:=top 38
abbrev a6h:Stmt:=top 39
abbrev a8z:Stmt:=top 41
abbrev a8A:Stmt:=top 42
abbrev a8B:Stmt:=top 43
abbrev a8C:Stmt:=top 44
abbrev a8D:Stmt:=top 45
abbrev a8E:Stmt:=top 46
abbrev a8F:Stmt:=top 47
abbrev a8G:Stmt:=top 48
abbrev a8H:Stmt:=top 49
abbrev a8I:Stmt:=top 50
abbrev a8J:Stmt:=top 51
abbrev a8K:Stmt:=top 52
abbrev a8L:Stmt:=top 53
abbrev a8M:Stmt:=top 54
abbrev a4f:Stmt:=top 55
abbrev xN:List Str:=["NoTable","NoHeights","NoNet","NoPlace","NoTriangle","NoRow","NoNumber","NoTurn","NotAlike","NoStep","NoRows","TooMany","BadNote"]
structure Txt(K:Qq)(mg:OU):Prop where
 ex:a1E K "SignError" xN=true
 g_isinstance:mg "isinstance"=none
 g_int:mg "int"=none
 g_bool:mg "bool"=none
 g_all:mg "all"=none
 g_tuple:mg "tuple"=none
 g_len:mg "len"=none
 g_range:mg "range"=none
 g_str:mg "str"=none
 g_ValueError:mg "ValueError"=none
 g_sum:mg "sum"=none
 g_sorted:mg "sorted"=none
 g_zip:mg "zip"=none
 g_list:mg "list"=none
 g_min:mg "min"=none
 g_max:mg "max"=none
 n_told_other:Nsd K mg "told_other"
 n_told_slant:Nsd K mg "told_slant"
 n_told_flat:Nsd K mg "told_flat"
 n_told_upright:Nsd K mg "told_upright"
 n_turned_right:Nsd K mg "turned_right"
 n_turned_half:Nsd K mg "turned_half"
 n_turned_left:Nsd K mg "turned_left"
 n_stayed:Nsd K mg "stayed"
 c_GREATEST_SIDE:∃t,mg "GREATEST_SIDE"=some (.int 6 t)
section
variable{P:Program}{w:World}{K:Qq}{mg:OU}{base:Heap}
theorem b9i:FnScope ["thing"] ["thing"] (v9_ a8i):=x7_
def b9j:Mo Fl:=(v1_ (u4_ (mIs "int" (z0_ 0)) (a5v (mIs "bool" (z0_ 0)))))
def a1W:Fn:=fnM 1 b9j
theorem b9k{f:Addr}{fd:FuncData}(F:Fun K "is_whole" "is_whole" a8i f fd)(T:Txt K mg):FnOk P w K mg base CX0 1 f fd ["thing"] (SpF K 1 a1W):=
 k0_ F b9i fun cdv A outer s H E hr=>(@v2_ _ _ _ _ (@y4_ _ _ _ _ _ (@a2Y _ _ _ _ _ _ _ _ (@a0h _ _ _ _ _ _ _ _ _ (by exact b0Q) (@z3_ _ _ _ _ _ (pv 0)) (by exact rfl) (by exact T.g_isinstance) (by exact rfl) (by exact T.g_int) (by exact a7w) (by decide) (by decide) (by exact se2 rfl rfl)) (@a3Q _ _ _ _ _ _ (@b0x _ _ _ _ _ (@a0h _ _ _ _ _ _ _ _ _ (by exact a5J) (@z3_ _ _ _ _ _ (pv 0)) (by exact rfl) (by exact T.g_isinstance) (by exact rfl) (by exact T.g_bool) (by exact a5P) (by decide) (by decide) (by exact se2 rfl rfl)))))))
theorem b9l:FnScope ["thing","width"] ["thing","width"] (v9_ a8j):=x7_
theorem nd1:(["-0","-1","number"]:List Str).Nodup:=by decide+kernel
def a8N:Mo Fl:=(q2_ (y3_ (g5_ (y8_ (mT (mIs "tuple" (z0_ 0)))) (mT (z4_ (dEq true) (mCB v8_ (z1_ (z0_ 0) z5_)) (z0_ 1)))) (v1_ (mC (.bl false))) mNx) (v1_ (mCB a2o (z1_ (mF (y7_ (x2_ (z0_ 0)) [false,false] 1 (gN 2) x3_ (mCD 1 a1W (z7_ (z0_ 2) q0_)))) z5_))))
def a1I:Fn:=fnM 2 a8N
theorem b9m{f:Addr}{fd:FuncData}(F:Fun K "is_row" "is_row" a8j f fd)(T:Txt K mg)(d_is_whole:Def P w K mg base "is_whole" 1 1 a1W):FnOk P w K mg base CX0 2 f fd ["thing","width"] (SpF K 2 a1I):=
 k0_ F b9l fun cdv A outer s H E hr=>(@v0_ _ _ _ _ _ _ (@w6_ _ _ _ _ _ _ _ _ _ (@a2f _ _ _ _ (@a2X _ _ _ _ _ _ _ _ (@u9_ _ _ _ _ _ (@u8_ _ _ _ _ (@a0h _ _ _ _ _ _ _ _ _ (by exact a2n) (@z3_ _ _ _ _ _ (pv 0)) (by exact rfl) (by exact T.g_isinstance) (by exact rfl) (by exact T.g_tuple) (by exact a0o) (by decide) (by decide) (by exact se2 rfl rfl)) (by intro _;rfl))) (@a2W _ _ _ _ _ (@a0e _ _ _ _ _ _ _ _ _ _ (by exact(op_neD hr.units)) (by exact opd_eq) (@k5_ _ _ _ _ _ _ _ _ _ _ _ (by exact j6_) (by exact j8_) (by exact rfl) (by exact T.g_len) (by exact Qi) (@z6_ _ _ _ _ _ _ (@z3_ _ _ _ _ _ (pv 0)) (@q1_ _ _) (by exact z2_ rfl)) (by decide) (by decide) (by exact z2_ rfl) (by exact q3_ rfl)) (@z3_ _ _ _ _ _ (pv 1)) (by exact(nomark _)))))) (@v2_ _ _ _ _ (@y4_ _ _ _ _ _ (@g2_ _ _ _ _ _))) (@w5_ _ _)) (@v2_ _ _ _ _ (@y4_ _ _ _ _ _ (@k5_ _ _ _ _ _ _ _ _ _ _ _ (by exact(a4F rfl)) (by exact a4G) (by exact rfl) (by exact T.g_all) (by exact a4K) (@z6_ _ _ _ _ _ _ (@x8_ _ _ _ _ (@a0G _ _ ["-0","-1","number"] _ [false,false] 1 _ _ _ _ _ _ _ _ _ (by exact(a0c rfl rfl)) (by exact rfl) (@a0b _ _ _ _ _ (@z3_ _ _ _ _ _ (pv 0))) (fun s H fp=>(@x9_ _ _ _ _ 2 _ (by exact(show 2≤2 by decide)) (by exact nd1) (by exact rfl) (by first|exact Or.inl rfl|exact Or.inr rfl) (by first|exact .inl rfl|exact .inr rfl|assumption))) (fun s H fp=>(@a0W _ _)) (fun s H fp=>(@y1_ _ _ _ _ _ _ _ _ _ _ _ (by exact d_is_whole) (by exact(hr.mono (show 1≤1 by decide))) (by exact rfl) (@q7_ _ _ _ _ _ _ (@z3_ _ _ _ _ _ (pv 2)) (@v7_ _ _) (by exact z2_ rfl)) (by decide) (by exact z2_ rfl) (by exact q3_ rfl))) (by intro _;rfl))) (@q1_ _ _) (by exact z2_ rfl)) (by decide) (by decide) (by exact z2_ rfl) (by exact q3_ rfl)))))
theorem b9n:FnScope ["thing","many","width"] ["thing","many","width"] (v9_ a8k):=x7_
theorem nd2:(["-0","-1","width","row"]:List Str).Nodup:=by decide+kernel
def a4S:Mo Fl:=(q2_ (y3_ (g5_ (y8_ (mT (mIs "tuple" (z0_ 0)))) (mT (z4_ (dEq true) (mCB v8_ (z1_ (z0_ 0) z5_)) (z0_ 1)))) (v1_ (mC (.bl false))) mNx) (v1_ (mCB a2o (z1_ (mF (y7_ (x2_ (z0_ 0)) [false,false,true] 1 (gN 3) x3_ (mCD 2 a1I (z7_ (z0_ 3) (z7_ (z0_ 2) q0_))))) z5_))))
def a4g:Fn:=fnM 3 a4S
theorem b9o{f:Addr}{fd:FuncData}(F:Fun K "is_grid" "is_grid" a8k f fd)(T:Txt K mg)(d_is_row:Def P w K mg base "is_row" 2 2 a1I):FnOk P w K mg base CX0 3 f fd ["thing","many","width"] (SpF K 3 a4g):=
 k0_ F b9n fun cdv A outer s H E hr=>(@v0_ _ _ _ _ _ _ (@w6_ _ _ _ _ _ _ _ _ _ (@a2f _ _ _ _ (@a2X _ _ _ _ _ _ _ _ (@u9_ _ _ _ _ _ (@u8_ _ _ _ _ (@a0h _ _ _ _ _ _ _ _ _ (by exact a2n) (@z3_ _ _ _ _ _ (pv 0)) (by exact rfl) (by exact T.g_isinstance) (by exact rfl) (by exact T.g_tuple) (by exact a0o) (by decide) (by decide) (by exact se2 rfl rfl)) (by intro _;rfl))) (@a2W _ _ _ _ _ (@a0e _ _ _ _ _ _ _ _ _ _ (by exact(op_neD hr.units)) (by exact opd_eq) (@k5_ _ _ _ _ _ _ _ _ _ _ _ (by exact j6_) (by exact j8_) (by exact rfl) (by exact T.g_len) (by exact Qi) (@z6_ _ _ _ _ _ _ (@z3_ _ _ _ _ _ (pv 0)) (@q1_ _ _) (by exact z2_ rfl)) (by decide) (by decide) (by exact z2_ rfl) (by exact q3_ rfl)) (@z3_ _ _ _ _ _ (pv 1)) (by exact(nomark _)))))) (@v2_ _ _ _ _ (@y4_ _ _ _ _ _ (@g2_ _ _ _ _ _))) (@w5_ _ _)) (@v2_ _ _ _ _ (@y4_ _ _ _ _ _ (@k5_ _ _ _ _ _ _ _ _ _ _ _ (by exact(a4F rfl)) (by exact a4G) (by exact rfl) (by exact T.g_all) (by exact a4K) (@z6_ _ _ _ _ _ _ (@x8_ _ _ _ _ (@a0G _ _ ["-0","-1","width","row"] _ [false,false,true] 1 _ _ _ _ _ _ _ _ _ (by exact(a0c rfl rfl)) (by exact rfl) (@a0b _ _ _ _ _ (@z3_ _ _ _ _ _ (pv 0))) (fun s H fp=>(@x9_ _ _ _ _ 3 _ (by exact(show 3≤3 by decide)) (by exact nd2) (by exact rfl) (by first|exact Or.inl rfl|exact Or.inr rfl) (by first|exact .inl rfl|exact .inr rfl|assumption))) (fun s H fp=>(@a0W _ _)) (fun s H fp=>(@y1_ _ _ _ _ _ _ _ _ _ _ _ (by exact d_is_row) (by exact(hr.mono (show 2≤2 by decide))) (by exact rfl) (@q7_ _ _ _ _ _ _ (@z3_ _ _ _ _ _ (pv 3)) (@q7_ _ _ _ _ _ _ (@z3_ _ _ _ _ _ (pv 2)) (@v7_ _ _) (by exact z2_ rfl)) (by exact z2_ rfl)) (by decide) (by exact z2_ rfl) (by exact q3_ rfl))) (by intro _;rfl))) (@q1_ _ _) (by exact z2_ rfl)) (by decide) (by decide) (by exact z2_ rfl) (by exact q3_ rfl)))))
theorem b9p:FnScope ["thing","least","greatest"] ["thing","least","greatest"] (v9_ a8l):=x7_
def a4T:Mo Fl:=(q2_ (y3_ (g5_ (y8_ (mT (mIs "tuple" (z0_ 0)))) (y8_ (mT (a0C dLe dLe (z0_ 1) (mCB v8_ (z1_ (z0_ 0) z5_)) (z0_ 2))))) (v1_ (mC (.bl false))) mNx) (v1_ (mCD 3 a4g (z7_ (z0_ 0) (z7_ (mCB v8_ (z1_ (z0_ 0) z5_)) (z7_ (mCB v8_ (z1_ (z0_ 0) z5_)) q0_))))))
def a3r:Fn:=fnM 3 a4T
theorem b9q{f:Addr}{fd:FuncData}(F:Fun K "is_square" "is_square" a8l f fd)(T:Txt K mg)(d_is_grid:Def P w K mg base "is_grid" 3 3 a4g):FnOk P w K mg base CX0 4 f fd ["thing","least","greatest"] (SpF K 3 a3r):=
 k0_ F b9p fun cdv A outer s H E hr=>(@v0_ _ _ _ _ _ _ (@w6_ _ _ _ _ _ _ _ _ _ (@a2f _ _ _ _ (@a2X _ _ _ _ _ _ _ _ (@u9_ _ _ _ _ _ (@u8_ _ _ _ _ (@a0h _ _ _ _ _ _ _ _ _ (by exact a2n) (@z3_ _ _ _ _ _ (pv 0)) (by exact rfl) (by exact T.g_isinstance) (by exact rfl) (by exact T.g_tuple) (by exact a0o) (by decide) (by decide) (by exact se2 rfl rfl)) (by intro _;rfl))) (@a2W _ _ _ _ _ (@u9_ _ _ _ _ _ (@a5x _ _ _ _ _ _ _ _ _ _ _ _ _ _ _ (by exact a1u) (by exact a1u) (by exact a1x) (by exact a1x) (@z3_ _ _ _ _ _ (pv 1)) (@k5_ _ _ _ _ _ _ _ _ _ _ _ (by exact j6_) (by exact j8_) (by exact rfl) (by exact T.g_len) (by exact Qi) (@z6_ _ _ _ _ _ _ (@z3_ _ _ _ _ _ (pv 0)) (@q1_ _ _) (by exact z2_ rfl)) (by decide) (by decide) (by exact z2_ rfl) (by exact q3_ rfl)) (@z3_ _ _ _ _ _ (pv 2)) (by with_unfolding_all rfl)))))) (@v2_ _ _ _ _ (@y4_ _ _ _ _ _ (@g2_ _ _ _ _ _))) (@w5_ _ _)) (@v2_ _ _ _ _ (@y4_ _ _ _ _ _ (@y1_ _ _ _ _ _ _ _ _ _ _ _ (by exact d_is_grid) (by exact(hr.mono (show 3≤3 by decide))) (by exact rfl) (@q7_ _ _ _ _ _ _ (@z3_ _ _ _ _ _ (pv 0)) (@q7_ _ _ _ _ _ _ (@k5_ _ _ _ _ _ _ _ _ _ _ _ (by exact j6_) (by exact j8_) (by exact rfl) (by exact T.g_len) (by exact Qi) (@z6_ _ _ _ _ _ _ (@z3_ _ _ _ _ _ (pv 0)) (@q1_ _ _) (by exact z2_ rfl)) (by decide) (by decide) (by exact z2_ rfl) (by exact q3_ rfl)) (@q7_ _ _ _ _ _ _ (@k5_ _ _ _ _ _ _ _ _ _ _ _ (by exact j6_) (by exact j8_) (by exact rfl) (by exact T.g_len) (by exact Qi) (@z6_ _ _ _ _ _ _ (@z3_ _ _ _ _ _ (pv 0)) (@q1_ _ _) (by exact z2_ rfl)) (by decide) (by decide) (by exact z2_ rfl) (by exact q3_ rfl)) (@v7_ _ _) (by exact z2_ rfl)) (by exact z2_ rfl)) (by exact z2_ rfl)) (by decide) (by exact z2_ rfl) (by exact q3_ rfl)))))
theorem b9r:FnScope ["grid"] ["grid"] (v9_ a8m):=x7_
theorem nd3:(["grid","at"]:List Str).Nodup:=by decide+kernel
theorem nd4:(["-0","at","row"]:List Str).Nodup:=by decide+kernel
def a8O:Mo Fl:=(v1_ (mCB a0k (z1_ (mF (y7_ (j4_ (z1_ (mCB v8_ (z1_ (z4_ dIx (z0_ 0) (mC (.int 0))) z5_)) z5_)) [true] 1 (gN 1) x3_ (mCB a0k (z1_ (mF (y7_ (x2_ (z0_ 0)) [false,true] 1 (gN 2) x3_ (z4_ dIx (z0_ 2) (z0_ 1)))) z5_)))) z5_)))
def a0y:Fn:=fnM 1 a8O
theorem b9s{f:Addr}{fd:FuncData}(F:Fun K "flipped" "flipped" a8m f fd)(T:Txt K mg):FnOk P w K mg base CX0 1 f fd ["grid"] (SpF K 1 a0y):=
 k0_ F b9r fun cdv A outer s H E hr=>(@v2_ _ _ _ _ (@y4_ _ _ _ _ _ (@a2g _ _ _ _ _ _ _ _ _ _ _ (by exact a2O) (by exact a2Z) (by exact rfl) (by exact T.g_tuple) (by exact a0o) (@z6_ _ _ _ _ _ _ (@x8_ _ _ _ _ (@a0G _ _ ["grid","at"] _ [true] 1 _ _ _ _ _ _ _ _ _ (by exact(a0c rfl rfl)) (by exact rfl) (@a2i _ _ _ _ _ _ _ (by exact rfl) (by exact T.g_range) (@z6_ _ _ _ _ _ _ (@k5_ _ _ _ _ _ _ _ _ _ _ _ (by exact j6_) (by exact j8_) (by exact rfl) (by exact T.g_len) (by exact Qi) (@z6_ _ _ _ _ _ _ (@a0f _ _ _ _ _ _ _ (@z3_ _ _ _ _ _ (pv 0)) (@z8_ _ _ _ _ _) (fun _ _=>rfl)) (@q1_ _ _) (by exact z2_ rfl)) (by decide) (by decide) (by exact z2_ rfl) (by exact q3_ rfl)) (@q1_ _ _) (by exact z2_ rfl)) (by exact se1 rfl)) (fun s H fp=>(@x9_ _ _ _ _ 1 _ (by exact(show 1≤1 by decide)) (by exact nd3) (by exact rfl) (by first|exact Or.inl rfl|exact Or.inr rfl) (by first|exact .inl rfl|exact .inr rfl|assumption))) (fun s H fp=>(@a0W _ _)) (fun s H fp=>(@a2g _ _ _ _ _ _ _ _ _ _ _ (by exact a2O) (by exact a2Z) (by exact rfl) (by exact T.g_tuple) (by exact a0o) (@z6_ _ _ _ _ _ _ (@x8_ _ _ _ _ (@a0G _ _ ["-0","at","row"] _ [false,true] 1 _ _ _ _ _ _ _ _ _ (by exact(a0c rfl rfl)) (by exact rfl) (@a0b _ _ _ _ _ (@z3_ _ _ _ _ _ (pv 0))) (fun s H fp=>(@x9_ _ _ _ _ 2 _ (by exact(show 2≤2 by decide)) (by exact nd4) (by exact rfl) (by first|exact Or.inl rfl|exact Or.inr rfl) (by first|exact .inl rfl|exact .inr rfl|assumption))) (fun s H fp=>(@a0W _ _)) (fun s H fp=>(@a0f _ _ _ _ _ _ _ (@z3_ _ _ _ _ _ (pv 2)) (@z3_ _ _ _ _ _ (pv 1)) (fun _ _=>rfl))) (by intro _;rfl))) (@q1_ _ _) (by exact z2_ rfl)) (by decide) (by decide) (by exact z2_ rfl) (by exact q3_ rfl))) (by intro _;rfl))) (@q1_ _ _) (by exact z2_ rfl)) (by decide) (by decide) (by exact z2_ rfl) (by exact q3_ rfl))))
theorem a6i:FnScope ["line","total","number"] ["line"] (v9_ a8n):=x7_
def a4U:Mo Fl:=(q2_ (q8_ 1 (mC (.int 0))) (q2_ (w8_ (x2_ (z0_ 0)) (gN 2) (q2_ (a5z 1 a5t (z0_ 2)) (y3_ (mT (z4_ (dIn true) (z0_ 1) (q9_ (z1_ (mC (.int 0)) (z1_ (mC (.int 1)) z5_))))) (v1_ (mC (.bl false))) mNx))) (v1_ (z4_ (dEq false) (z0_ 1) (mC (.int 1))))))
def a2C:Fn:=fnM 3 a4U
theorem b9t{f:Addr}{fd:FuncData}(F:Fun K "takes_turns" "takes_turns" a8n f fd)(T:Txt K mg):FnOk P w K mg base CX0 1 f fd ["line"] (SpF K 1 a2C):=
 k0_ F a6i fun cdv A outer s H E hr=>(@v0_ _ _ _ _ _ _ (@x5_ _ _ _ _ _ 1 _ _ (by exact a6i.nd) (by exact rfl) (by first|exact Or.inl rfl|exact Or.inr rfl) (@z8_ _ _ _ _ _) (by rfl) (by first|exact .inl rfl|exact .inr rfl|assumption)) (@v0_ _ _ _ _ _ _ (@a0E _ _ _ _ _ _ _ _ _ (by exact Zm) (by exact rfl) (@a0b _ _ _ _ _ (@z3_ _ _ _ _ _ (pv 0))) (@x9_ _ _ _ _ 2 _ (by exact(show 0≤2 by decide)) (by exact a6i.nd) (by exact rfl) (by first|exact Or.inl rfl|exact Or.inr rfl) (by first|exact .inl rfl|exact .inr rfl|assumption)) (@v0_ _ _ _ _ _ _ (@b5T _ _ _ _ _ 1 _ _ _ _ _ (by exact a6i.nd) (by exact rfl) (by first|exact Or.inl rfl|exact Or.inr rfl) (@z3_ _ _ _ _ _ (pv 2)) (by exact b4W) (by exact b0v) (by first|exact .inl rfl|exact .inr rfl|assumption)) (@v2_ _ _ _ _ (@w6_ _ _ _ _ _ _ _ _ _ (@a0e _ _ _ _ _ _ _ _ _ _ (by exact b5B) (by exact b6v) (@z3_ _ _ _ _ _ (pv 1)) (@x1_ _ _ _ _ _ _ (@z6_ _ _ _ _ _ _ (@z8_ _ _ _ _ _) (@z6_ _ _ _ _ _ _ (@z8_ _ _ _ _ _) (@q1_ _ _) (by exact z2_ rfl)) (by exact z2_ rfl))) (by with_unfolding_all rfl)) (@v2_ _ _ _ _ (@y4_ _ _ _ _ _ (@g2_ _ _ _ _ _))) (@w5_ _ _)))) (by intro _;rfl)) (@v2_ _ _ _ _ (@y4_ _ _ _ _ _ (@a2U _ _ _ _ _ _ _ _ _ _ (by exact(op_eqD hr.units)) (by exact opd_eq) (@z3_ _ _ _ _ _ (pv 1)) (@z8_ _ _ _ _ _) (by exact(nomark _)))))))
theorem b9u:FnScope ["thing"] ["thing"] (v9_ a8o):=x7_
theorem nd5:(["-0","line"]:List Str).Nodup:=by decide+kernel
def a8P:Mo Fl:=(q2_ (y3_ (y8_ (mT (mCD 3 a3r (z7_ (z0_ 0) (z7_ (mC (.int 1)) (z7_ (mC (.int 6)) q0_)))))) (v1_ (mC (.bl false))) mNx) (v1_ (mCB a2o (z1_ (mF (y7_ (x2_ (z4_ v5_ (z0_ 0) (mCD 1 a0y (z7_ (z0_ 0) q0_)))) [false] 1 (gN 1) x3_ (mCD 1 a2C (z7_ (z0_ 1) q0_)))) z5_))))
def a3s:Fn:=fnM 1 a8P
theorem b9v{f:Addr}{fd:FuncData}(F:Fun K "is_table" "is_table" a8o f fd)(T:Txt K mg)(d_is_square:Def P w K mg base "is_square" 4 3 a3r)(d_takes_turns:Def P w K mg base "takes_turns" 1 1 a2C)(d_flipped:Def P w K mg base "flipped" 1 1 a0y):FnOk P w K mg base CX0 5 f fd ["thing"] (SpF K 1 a3s):=
 k0_ F b9u fun cdv A outer s H E hr=>(@v0_ _ _ _ _ _ _ (@w6_ _ _ _ _ _ _ _ _ _ (@u9_ _ _ _ _ _ (@u8_ _ _ _ _ (@y1_ _ _ _ _ _ _ _ _ _ _ _ (by exact d_is_square) (by exact(hr.mono (show 4≤4 by decide))) (by exact rfl) (@q7_ _ _ _ _ _ _ (@z3_ _ _ _ _ _ (pv 0)) (@q7_ _ _ _ _ _ _ (@z8_ _ _ _ _ _) (@q7_ _ _ _ _ _ _ (@b7i _ _ _ _ _ (by exact rfl) (by exact T.c_GREATEST_SIDE) (by decide)) (@v7_ _ _) (by exact z2_ rfl)) (by exact z2_ rfl)) (by exact z2_ rfl)) (by decide) (by exact z2_ rfl) (by exact q3_ rfl)) (by intro _;rfl))) (@v2_ _ _ _ _ (@y4_ _ _ _ _ _ (@g2_ _ _ _ _ _))) (@w5_ _ _)) (@v2_ _ _ _ _ (@y4_ _ _ _ _ _ (@k5_ _ _ _ _ _ _ _ _ _ _ _ (by exact(a4F rfl)) (by exact a4G) (by exact rfl) (by exact T.g_all) (by exact a4K) (@z6_ _ _ _ _ _ _ (@x8_ _ _ _ _ (@a0G _ _ ["-0","line"] _ [false] 1 _ _ _ _ _ _ _ _ _ (by exact(a0c rfl rfl)) (by exact rfl) (@a0b _ _ _ _ _ (@v3_ _ _ _ _ _ _ _ _ _ _ (by exact k7_) (by exact k8_) (@z3_ _ _ _ _ _ (pv 0)) (@y1_ _ _ _ _ _ _ _ _ _ _ _ (by exact d_flipped) (by exact(hr.mono (show 1≤4 by decide))) (by exact rfl) (@q7_ _ _ _ _ _ _ (@z3_ _ _ _ _ _ (pv 0)) (@v7_ _ _) (by exact z2_ rfl)) (by decide) (by exact z2_ rfl) (by exact q3_ rfl)))) (fun s H fp=>(@x9_ _ _ _ _ 1 _ (by exact(show 1≤1 by decide)) (by exact nd5) (by exact rfl) (by first|exact Or.inl rfl|exact Or.inr rfl) (by first|exact .inl rfl|exact .inr rfl|assumption))) (fun s H fp=>(@a0W _ _)) (fun s H fp=>(@y1_ _ _ _ _ _ _ _ _ _ _ _ (by exact d_takes_turns) (by exact(hr.mono (show 1≤4 by decide))) (by exact rfl) (@q7_ _ _ _ _ _ _ (@z3_ _ _ _ _ _ (pv 1)) (@v7_ _ _) (by exact z2_ rfl)) (by decide) (by exact z2_ rfl) (by exact q3_ rfl))) (by intro _;rfl))) (@q1_ _ _) (by exact z2_ rfl)) (by decide) (by decide) (by exact z2_ rfl) (by exact q3_ rfl)))))
theorem b2f:FnScope ["thing"] ["thing"] (v9_ a6f):=x7_
def a8Q:Mo Fl:=(y3_ (y8_ (mT (mCD 1 a3s (z7_ (z0_ 0) q0_)))) a7a mNx)
def a3t:Fn:=fnM 1 a8Q
theorem b9w{f:Addr}{fd:FuncData}(F:Fun K "must_be_table" "must_be_table" a6f f fd)(T:Txt K mg)(d_is_table:Def P w K mg base "is_table" 5 1 a3s):FnOk P w K mg base CX0 6 f fd ["thing"] (SpF K 1 a3t):=
 k0_ F b2f fun cdv A outer s H E hr=>(@v2_ _ _ _ _ (@w6_ _ _ _ _ _ _ _ _ _ (@u9_ _ _ _ _ _ (@u8_ _ _ _ _ (@y1_ _ _ _ _ _ _ _ _ _ _ _ (by exact d_is_table) (by exact(hr.mono (show 5≤5 by decide))) (by exact rfl) (@q7_ _ _ _ _ _ _ (@z3_ _ _ _ _ _ (pv 0)) (@v7_ _ _) (by exact z2_ rfl)) (by decide) (by exact z2_ rfl) (by exact q3_ rfl)) (by intro _;rfl))) (@v2_ _ _ _ _ (@b0C _ _ _)) (@w5_ _ _)))
def a4V:Mx:=(xIf (y8_ (mT (mCD 1 a3s (z7_ (z0_ 0) q0_)))) (a7H "NoTable" (z1_ (mC (.str "this is no table")) z5_)) xNo)
def a4h:List W->Option Str:=fnX 1 a4V
theorem b9x{f:Addr}{fd:FuncData}(F:Fun K "must_be_table" "must_be_table" a6f f fd)(T:Txt K mg)(d_is_table:Def P w K mg base "is_table" 5 1 a3s):FnOk P w K mg base (CXE P w) 6 f fd ["thing"] (SpX K 1 a4h):=
 a7I F b2f fun cdv A outer s H E hr=>(@a4O _ _ _ _ _ (@b1C _ _ _ _ _ _ _ _ _ _ (by exact(PT.nox (@u9_ _ _ _ _ _ (@u8_ _ _ _ _ (@y1_ _ _ _ _ _ _ _ _ _ _ _ (by exact d_is_table) (by exact(hr.mono (show 5≤5 by decide))) (by exact rfl) (@q7_ _ _ _ _ _ _ (@z3_ _ _ _ _ _ (pv 0)) (@v7_ _ _) (by exact z2_ rfl)) (by decide) (by exact z2_ rfl) (by exact q3_ rfl)) (by intro _;rfl))))) (@a4O _ _ _ _ _ (@b1E _ _ _ _ _ _ _ _ _ _ (by exact a5T) (by exact rfl) (by exact(b1K T.ex (by decide+kernel))) (by exact rfl) (by exact(PA.nox (@z6_ _ _ _ _ _ _ (@g3_ _ _ _ _ _ (by decide)) (@q1_ _ _) (by exact z2_ rfl)))) (by exact z2_ rfl) (by exact q3_ rfl) (by decide))) (@b1A _ _ _)))
theorem b9y:FnScope ["table"] ["table"] (v9_ a8p):=x7_
def b9z:Mo Fl:=(v1_ (z0_ 0))
def a3u:Fn:=fnM 1 b9z
theorem b9A{f:Addr}{fd:FuncData}(F:Fun K "stayed" "stayed" a8p f fd)(T:Txt K mg):FnOk P w K mg base CX0 1 f fd ["table"] (SpF K 1 a3u):=
 k0_ F b9y fun cdv A outer s H E hr=>(@v2_ _ _ _ _ (@y4_ _ _ _ _ _ (@z3_ _ _ _ _ _ (pv 0))))
theorem b9B:FnScope ["table"] ["table"] (v9_ a8q):=x7_
def a8R:Mo Fl:=(v1_ (a1j (mCD 1 a0y (z7_ (z0_ 0) q0_))))
def a1a:Fn:=fnM 1 a8R
theorem b9C{f:Addr}{fd:FuncData}(F:Fun K "turned_left" "turned_left" a8q f fd)(T:Txt K mg)(d_flipped:Def P w K mg base "flipped" 1 1 a0y):FnOk P w K mg base CX0 2 f fd ["table"] (SpF K 1 a1a):=
 k0_ F b9B fun cdv A outer s H E hr=>(@v2_ _ _ _ _ (@y4_ _ _ _ _ _ (@a4H _ _ _ _ _ _ _ (@y1_ _ _ _ _ _ _ _ _ _ _ _ (by exact d_flipped) (by exact(hr.mono (show 1≤1 by decide))) (by exact rfl) (@q7_ _ _ _ _ _ _ (@z3_ _ _ _ _ _ (pv 0)) (@v7_ _ _) (by exact z2_ rfl)) (by decide) (by exact z2_ rfl) (by exact q3_ rfl)) (by exact a4I))))
theorem b9D:FnScope ["table"] ["table"] (v9_ a8r):=x7_
def a8S:Mo Fl:=(v1_ (mCD 1 a1a (z7_ (mCD 1 a1a (z7_ (z0_ 0) q0_)) q0_)))
def a1n:Fn:=fnM 1 a8S
theorem b9E{f:Addr}{fd:FuncData}(F:Fun K "turned_half" "turned_half" a8r f fd)(T:Txt K mg)(d_turned_left:Def P w K mg base "turned_left" 2 1 a1a):FnOk P w K mg base CX0 3 f fd ["table"] (SpF K 1 a1n):=
 k0_ F b9D fun cdv A outer s H E hr=>(@v2_ _ _ _ _ (@y4_ _ _ _ _ _ (@y1_ _ _ _ _ _ _ _ _ _ _ _ (by exact d_turned_left) (by exact(hr.mono (show 2≤2 by decide))) (by exact rfl) (@q7_ _ _ _ _ _ _ (@y1_ _ _ _ _ _ _ _ _ _ _ _ (by exact d_turned_left) (by exact(hr.mono (show 2≤2 by decide))) (by exact rfl) (@q7_ _ _ _ _ _ _ (@z3_ _ _ _ _ _ (pv 0)) (@v7_ _ _) (by exact z2_ rfl)) (by decide) (by exact z2_ rfl) (by exact q3_ rfl)) (@v7_ _ _) (by exact z2_ rfl)) (by decide) (by exact z2_ rfl) (by exact q3_ rfl))))
theorem b9F:FnScope ["table"] ["table"] (v9_ a8s):=x7_
def a8T:Mo Fl:=(v1_ (mCD 1 a1a (z7_ (mCD 1 a1n (z7_ (z0_ 0) q0_)) q0_)))
def a3v:Fn:=fnM 1 a8T
theorem b9G{f:Addr}{fd:FuncData}(F:Fun K "turned_right" "turned_right" a8s f fd)(T:Txt K mg)(d_turned_left:Def P w K mg base "turned_left" 2 1 a1a)(d_turned_half:Def P w K mg base "turned_half" 3 1 a1n):FnOk P w K mg base CX0 4 f fd ["table"] (SpF K 1 a3v):=
 k0_ F b9F fun cdv A outer s H E hr=>(@v2_ _ _ _ _ (@y4_ _ _ _ _ _ (@y1_ _ _ _ _ _ _ _ _ _ _ _ (by exact d_turned_left) (by exact(hr.mono (show 2≤3 by decide))) (by exact rfl) (@q7_ _ _ _ _ _ _ (@y1_ _ _ _ _ _ _ _ _ _ _ _ (by exact d_turned_half) (by exact(hr.mono (show 3≤3 by decide))) (by exact rfl) (@q7_ _ _ _ _ _ _ (@z3_ _ _ _ _ _ (pv 0)) (@v7_ _ _) (by exact z2_ rfl)) (by decide) (by exact z2_ rfl) (by exact q3_ rfl)) (@v7_ _ _) (by exact z2_ rfl)) (by decide) (by exact z2_ rfl) (by exact q3_ rfl))))
theorem b9H:FnScope ["table"] ["table"] (v9_ a8t):=x7_
theorem nd6:(["-0","row"]:List Str).Nodup:=by decide+kernel
def a8U:Mo Fl:=(v1_ (mCB a0k (z1_ (mF (y7_ (x2_ (z0_ 0)) [false] 1 (gN 1) x3_ (a1j (z0_ 1)))) z5_)))
def a3w:Fn:=fnM 1 a8U
theorem b9I{f:Addr}{fd:FuncData}(F:Fun K "told_upright" "told_upright" a8t f fd)(T:Txt K mg):FnOk P w K mg base CX0 1 f fd ["table"] (SpF K 1 a3w):=
 k0_ F b9H fun cdv A outer s H E hr=>(@v2_ _ _ _ _ (@y4_ _ _ _ _ _ (@a2g _ _ _ _ _ _ _ _ _ _ _ (by exact a2O) (by exact a2Z) (by exact rfl) (by exact T.g_tuple) (by exact a0o) (@z6_ _ _ _ _ _ _ (@x8_ _ _ _ _ (@a0G _ _ ["-0","row"] _ [false] 1 _ _ _ _ _ _ _ _ _ (by exact(a0c rfl rfl)) (by exact rfl) (@a0b _ _ _ _ _ (@z3_ _ _ _ _ _ (pv 0))) (fun s H fp=>(@x9_ _ _ _ _ 1 _ (by exact(show 1≤1 by decide)) (by exact nd6) (by exact rfl) (by first|exact Or.inl rfl|exact Or.inr rfl) (by first|exact .inl rfl|exact .inr rfl|assumption))) (fun s H fp=>(@a0W _ _)) (fun s H fp=>(@a4H _ _ _ _ _ _ _ (@z3_ _ _ _ _ _ (pv 1)) (by exact a4I))) (by intro _;rfl))) (@q1_ _ _) (by exact z2_ rfl)) (by decide) (by decide) (by exact z2_ rfl) (by exact q3_ rfl))))
theorem b9J:FnScope ["table"] ["table"] (v9_ a8u):=x7_
def a8V:Mo Fl:=(v1_ (a1j (z0_ 0)))
def a3x:Fn:=fnM 1 a8V
theorem b9K{f:Addr}{fd:FuncData}(F:Fun K "told_flat" "told_flat" a8u f fd)(T:Txt K mg):FnOk P w K mg base CX0 1 f fd ["table"] (SpF K 1 a3x):=
 k0_ F b9J fun cdv A outer s H E hr=>(@v2_ _ _ _ _ (@y4_ _ _ _ _ _ (@a4H _ _ _ _ _ _ _ (@z3_ _ _ _ _ _ (pv 0)) (by exact a4I))))
theorem b9L:FnScope ["table"] ["table"] (v9_ a8v):=x7_
def a8W:Mo Fl:=(v1_ (mCD 1 a0y (z7_ (z0_ 0) q0_)))
def a1X:Fn:=fnM 1 a8W
theorem b9M{f:Addr}{fd:FuncData}(F:Fun K "told_slant" "told_slant" a8v f fd)(T:Txt K mg)(d_flipped:Def P w K mg base "flipped" 1 1 a0y):FnOk P w K mg base CX0 2 f fd ["table"] (SpF K 1 a1X):=
 k0_ F b9L fun cdv A outer s H E hr=>(@v2_ _ _ _ _ (@y4_ _ _ _ _ _ (@y1_ _ _ _ _ _ _ _ _ _ _ _ (by exact d_flipped) (by exact(hr.mono (show 1≤1 by decide))) (by exact rfl) (@q7_ _ _ _ _ _ _ (@z3_ _ _ _ _ _ (pv 0)) (@v7_ _ _) (by exact z2_ rfl)) (by decide) (by exact z2_ rfl) (by exact q3_ rfl))))
theorem b9N:FnScope ["table"] ["table"] (v9_ a8w):=x7_
def a8X:Mo Fl:=(v1_ (mCD 1 a1n (z7_ (mCD 1 a1X (z7_ (z0_ 0) q0_)) q0_)))
def a3y:Fn:=fnM 1 a8X
theorem b9O{f:Addr}{fd:FuncData}(F:Fun K "told_other" "told_other" a8w f fd)(T:Txt K mg)(d_turned_half:Def P w K mg base "turned_half" 3 1 a1n)(d_told_slant:Def P w K mg base "told_slant" 2 1 a1X):FnOk P w K mg base CX0 4 f fd ["table"] (SpF K 1 a3y):=
 k0_ F b9N fun cdv A outer s H E hr=>(@v2_ _ _ _ _ (@y4_ _ _ _ _ _ (@y1_ _ _ _ _ _ _ _ _ _ _ _ (by exact d_turned_half) (by exact(hr.mono (show 3≤3 by decide))) (by exact rfl) (@q7_ _ _ _ _ _ _ (@y1_ _ _ _ _ _ _ _ _ _ _ _ (by exact d_told_slant) (by exact(hr.mono (show 2≤3 by decide))) (by exact rfl) (@q7_ _ _ _ _ _ _ (@z3_ _ _ _ _ _ (pv 0)) (@v7_ _ _) (by exact z2_ rfl)) (by decide) (by exact z2_ rfl) (by exact q3_ rfl)) (@v7_ _ _) (by exact z2_ rfl)) (by decide) (by exact z2_ rfl) (by exact q3_ rfl))))
theorem b9P:FnScope ["thing"] ["thing"] (v9_ a8x):=x7_
def a8Y:Mo Fl:=(v1_ (u4_ (mIs "str" (z0_ 0)) (a8b [("stay","stayed"),("left","turned_left"),("half","turned_half"),("right","turned_right"),("upright","told_upright"),("flat","told_flat"),("slant","told_slant"),("other","told_other")] (z0_ 0))))
def a3z:Fn:=fnM 1 a8Y
theorem b9Q{f:Addr}{fd:FuncData}(F:Fun K "is_turn" "is_turn" a8x f fd)(T:Txt K mg)(k_TURNS:DfG P w K mg "TURNS" [("stay","stayed"),("left","turned_left"),("half","turned_half"),("right","turned_right"),("upright","told_upright"),("flat","told_flat"),("slant","told_slant"),("other","told_other")]):FnOk P w K mg base CX0 1 f fd ["thing"] (SpF K 1 a3z):=
 k0_ F b9P fun cdv A outer s H E hr=>(@v2_ _ _ _ _ (@y4_ _ _ _ _ _ (@a2Y _ _ _ _ _ _ _ _ (@a0h _ _ _ _ _ _ _ _ _ (by exact b6p) (@z3_ _ _ _ _ _ (pv 0)) (by exact rfl) (by exact T.g_isinstance) (by exact rfl) (by exact T.g_str) (by exact b7j) (by decide) (by decide) (by exact se2 rfl rfl)) (@a3Q _ _ _ _ _ _ (@b8R _ _ _ _ _ _ _ _ (by exact k_TURNS) (by exact rfl) (@z3_ _ _ _ _ _ (pv 0)) (by with_unfolding_all rfl) (by decide))))))
theorem b2g:FnScope ["thing"] ["thing"] (v9_ a6g):=x7_
def a8Z:Mo Fl:=(y3_ (y8_ (mT (mCD 1 a3z (z7_ (z0_ 0) q0_)))) a7a mNx)
def a3A:Fn:=fnM 1 a8Z
theorem b9R{f:Addr}{fd:FuncData}(F:Fun K "must_be_turn" "must_be_turn" a6g f fd)(T:Txt K mg)(d_is_turn:Def P w K mg base "is_turn" 1 1 a3z):FnOk P w K mg base CX0 2 f fd ["thing"] (SpF K 1 a3A):=
 k0_ F b2g fun cdv A outer s H E hr=>(@v2_ _ _ _ _ (@w6_ _ _ _ _ _ _ _ _ _ (@u9_ _ _ _ _ _ (@u8_ _ _ _ _ (@y1_ _ _ _ _ _ _ _ _ _ _ _ (by exact d_is_turn) (by exact(hr.mono (show 1≤1 by decide))) (by exact rfl) (@q7_ _ _ _ _ _ _ (@z3_ _ _ _ _ _ (pv 0)) (@v7_ _ _) (by exact z2_ rfl)) (by decide) (by exact z2_ rfl) (by exact q3_ rfl)) (by intro _;rfl))) (@v2_ _ _ _ _ (@b0C _ _ _)) (@w5_ _ _)))
def a9a:Mx:=(xIf (y8_ (mT (mCD 1 a3z (z7_ (z0_ 0) q0_)))) (a7H "NoTurn" (z1_ (mC (.str "this is no turn")) z5_)) xNo)
def a4W:List W->Option Str:=fnX 1 a9a
theorem b9S{f:Addr}{fd:FuncData}(F:Fun K "must_be_turn" "must_be_turn" a6g f fd)(T:Txt K mg)(d_is_turn:Def P w K mg base "is_turn" 1 1 a3z):FnOk P w K mg base (CXE P w) 2 f fd ["thing"] (SpX K 1 a4W):=
 a7I F b2g fun cdv A outer s H E hr=>(@a4O _ _ _ _ _ (@b1C _ _ _ _ _ _ _ _ _ _ (by exact(PT.nox (@u9_ _ _ _ _ _ (@u8_ _ _ _ _ (@y1_ _ _ _ _ _ _ _ _ _ _ _ (by exact d_is_turn) (by exact(hr.mono (show 1≤1 by decide))) (by exact rfl) (@q7_ _ _ _ _ _ _ (@z3_ _ _ _ _ _ (pv 0)) (@v7_ _ _) (by exact z2_ rfl)) (by decide) (by exact z2_ rfl) (by exact q3_ rfl)) (by intro _;rfl))))) (@a4O _ _ _ _ _ (@b1E _ _ _ _ _ _ _ _ _ _ (by exact a5T) (by exact rfl) (by exact(b1K T.ex (by decide+kernel))) (by exact rfl) (by exact(PA.nox (@z6_ _ _ _ _ _ _ (@g3_ _ _ _ _ _ (by decide)) (@q1_ _ _) (by exact z2_ rfl)))) (by exact z2_ rfl) (by exact q3_ rfl) (by decide))) (@b1A _ _ _)))
theorem b2h:FnScope ["table","turn","deed"] ["table","turn"] (v9_ a8y):=x7_
def a9b:Mo Fl:=(q2_ (q8_ 2 (b1U [("stay","stayed"),("left","turned_left"),("half","turned_half"),("right","turned_right"),("upright","told_upright"),("flat","told_flat"),("slant","told_slant"),("other","told_other")] (z0_ 1))) (v1_ (mCV 1 2 [("stayed",a3u),("turned_left",a1a),("turned_half",a1n),("turned_right",a3v),("told_upright",a3w),("told_flat",a3x),("told_slant",a1X),("told_other",a3y)] (z7_ (z0_ 0) q0_))))
def a4i:Fn:=fnM 3 a9b
theorem b9T{f:Addr}{fd:FuncData}(F:Fun K "brought" "brought" a8y f fd)(T:Txt K mg)(d_stayed:Def P w K mg base "stayed" 1 1 a3u)(d_turned_left:Def P w K mg base "turned_left" 2 1 a1a)(d_turned_half:Def P w K mg base "turned_half" 3 1 a1n)(d_turned_right:Def P w K mg base "turned_right" 4 1 a3v)(d_told_upright:Def P w K mg base "told_upright" 1 1 a3w)(d_told_flat:Def P w K mg base "told_flat" 1 1 a3x)(d_told_slant:Def P w K mg base "told_slant" 2 1 a1X)(d_told_other:Def P w K mg base "told_other" 4 1 a3y)(k_TURNS:DfG P w K mg "TURNS" [("stay","stayed"),("left","turned_left"),("half","turned_half"),("right","turned_right"),("upright","told_upright"),("flat","told_flat"),("slant","told_slant"),("other","told_other")]):FnOk P w K mg base CX0 5 f fd ["table","turn"] (SpF K 2 a4i):=
 k0_ F b2h fun cdv A outer s H E hr=>(@v0_ _ _ _ _ _ _ (@x5_ _ _ _ _ _ 2 _ _ (by exact b2h.nd) (by exact rfl) (by first|exact Or.inl rfl|exact Or.inr rfl) (@b8P _ _ _ _ _ _ _ _ (by exact k_TURNS) (by exact(a2A T.n_stayed (a2A T.n_turned_left (a2A T.n_turned_half (a2A T.n_turned_right (a2A T.n_told_upright (a2A T.n_told_flat (a2A T.n_told_slant (a2A T.n_told_other b8O))))))))) (by exact rfl) (@z3_ _ _ _ _ _ (pv 1)) (fun _ _=>rfl) (by decide)) (by rfl) (by first|exact .inl rfl|exact .inr rfl|assumption)) (@v2_ _ _ _ _ (@y4_ _ _ _ _ _ (@b8H _ _ _ _ _ _ _ _ _ _ _ (@a2z _ _ _ _ _ _ (by exact(hr.mono (show 1≤4 by decide))) (by exact d_stayed) (by exact T.n_stayed) (@a2z _ _ _ _ _ _ (by exact(hr.mono (show 2≤4 by decide))) (by exact d_turned_left) (by exact T.n_turned_left) (@a2z _ _ _ _ _ _ (by exact(hr.mono (show 3≤4 by decide))) (by exact d_turned_half) (by exact T.n_turned_half) (@a2z _ _ _ _ _ _ (by exact(hr.mono (show 4≤4 by decide))) (by exact d_turned_right) (by exact T.n_turned_right) (@a2z _ _ _ _ _ _ (by exact(hr.mono (show 1≤4 by decide))) (by exact d_told_upright) (by exact T.n_told_upright) (@a2z _ _ _ _ _ _ (by exact(hr.mono (show 1≤4 by decide))) (by exact d_told_flat) (by exact T.n_told_flat) (@a2z _ _ _ _ _ _ (by exact(hr.mono (show 2≤4 by decide))) (by exact d_told_slant) (by exact T.n_told_slant) (@a2z _ _ _ _ _ _ (by exact(hr.mono (show 4≤4 by decide))) (by exact d_told_other) (by exact T.n_told_other) (@b8F _ _))))))))) (pv 2) (@q7_ _ _ _ _ _ _ (@z3_ _ _ _ _ _ (pv 0)) (@v7_ _ _) (by exact z2_ rfl)) (by exact z2_ rfl) (by exact q3_ rfl)))))
theorem b2i:FnScope ["table","turn"] ["table","turn"] (v9_ a6h):=x7_
def a9c:Mo Fl:=(q2_ (a3m (mCD 1 a3t (z7_ (z0_ 0) q0_))) (q2_ (a3m (mCD 1 a3A (z7_ (z0_ 1) q0_))) (v1_ (mCD 2 a4i (z7_ (z0_ 0) (z7_ (z0_ 1) q0_))))))
def a0d:Fn:=fnM 2 a9c
theorem b9U{f:Addr}{fd:FuncData}(F:Fun K "turned" "turned" a6h f fd)(T:Txt K mg)(d_must_be_table:Def P w K mg base "must_be_table" 6 1 a3t)(d_must_be_turn:Def P w K mg base "must_be_turn" 2 1 a3A)(d_brought:Def P w K mg base "brought" 5 2 a4i):FnOk P w K mg base CX0 7 f fd ["table","turn"] (SpF K 2 a0d):=
 k0_ F b2i fun cdv A outer s H E hr=>(@v0_ _ _ _ _ _ _ (@a5R _ _ _ _ _ (@y1_ _ _ _ _ _ _ _ _ _ _ _ (by exact d_must_be_table) (by exact(hr.mono (show 6≤6 by decide))) (by exact rfl) (@q7_ _ _ _ _ _ _ (@z3_ _ _ _ _ _ (pv 0)) (@v7_ _ _) (by exact z2_ rfl)) (by decide) (by exact z2_ rfl) (by exact q3_ rfl)) (by rfl)) (@v0_ _ _ _ _ _ _ (@a5R _ _ _ _ _ (@y1_ _ _ _ _ _ _ _ _ _ _ _ (by exact d_must_be_turn) (by exact(hr.mono (show 2≤6 by decide))) (by exact rfl) (@q7_ _ _ _ _ _ _ (@z3_ _ _ _ _ _ (pv 1)) (@v7_ _ _) (by exact z2_ rfl)) (by decide) (by exact z2_ rfl) (by exact q3_ rfl)) (by rfl)) (@v2_ _ _ _ _ (@y4_ _ _ _ _ _ (@y1_ _ _ _ _ _ _ _ _ _ _ _ (by exact d_brought) (by exact(hr.mono (show 5≤6 by decide))) (by exact rfl) (@q7_ _ _ _ _ _ _ (@z3_ _ _ _ _ _ (pv 0)) (@q7_ _ _ _ _ _ _ (@z3_ _ _ _ _ _ (pv 1)) (@v7_ _ _) (by exact z2_ rfl)) (by exact z2_ rfl)) (by decide) (by exact z2_ rfl) (by exact q3_ rfl))))))
def a4X:Mx:=(a2u (a0L 1 a4h (z7_ (z0_ 0) q0_)) (a3m (mCD 1 a3t (z7_ (z0_ 0) q0_))) (a2u (a0L 1 a4W (z7_ (z0_ 1) q0_)) (a3m (mCD 1 a3A (z7_ (z0_ 1) q0_))) xNo))
def a0O:List W->Option Str:=fnX 2 a4X
theorem b9V{f:Addr}{fd:FuncData}(F:Fun K "turned" "turned" a6h f fd)(T:Txt K mg)(d_must_be_table:Def P w K mg base "must_be_table" 6 1 a3t)(d_must_be_turn:Def P w K mg base "must_be_turn" 2 1 a3A)(d_brought:Def P w K mg base "brought" 5 2 a4i)(dx_must_be_table:DefX P w K mg base "must_be_table" 6 1 a4h)(dx_must_be_turn:DefX P w K mg base "must_be_turn" 2 1 a4W):FnOk P w K mg base (CXE P w) 7 f fd ["table","turn"] (SpX K 2 a0O):=
 a7I F b2i fun cdv A outer s H E hr=>(@b1B _ _ _ _ _ _ _ _ (@b1D _ _ _ _ _ _ (@a4P _ _ _ _ _ _ _ _ _ _ _ _ (by exact a5T) (by exact dx_must_be_table) (by exact(hr.mono (show 6≤6 by decide))) (by exact rfl) (by exact(PA.nox (@q7_ _ _ _ _ _ _ (@z3_ _ _ _ _ _ (pv 0)) (@v7_ _ _) (by exact z2_ rfl)))) (by decide) (by exact z2_ rfl) (by exact q3_ rfl)) (by rfl)) (by exact(PS.nox (@a5R _ _ _ _ _ (@y1_ _ _ _ _ _ _ _ _ _ _ _ (by exact d_must_be_table) (by exact(hr.mono (show 6≤6 by decide))) (by exact rfl) (@q7_ _ _ _ _ _ _ (@z3_ _ _ _ _ _ (pv 0)) (@v7_ _ _) (by exact z2_ rfl)) (by decide) (by exact z2_ rfl) (by exact q3_ rfl)) (by rfl)))) (@b1B _ _ _ _ _ _ _ _ (@b1D _ _ _ _ _ _ (@a4P _ _ _ _ _ _ _ _ _ _ _ _ (by exact a5T) (by exact dx_must_be_turn) (by exact(hr.mono (show 2≤6 by decide))) (by exact rfl) (by exact(PA.nox (@q7_ _ _ _ _ _ _ (@z3_ _ _ _ _ _ (pv 1)) (@v7_ _ _) (by exact z2_ rfl)))) (by decide) (by exact z2_ rfl) (by exact q3_ rfl)) (by rfl)) (by exact(PS.nox (@a5R _ _ _ _ _ (@y1_ _ _ _ _ _ _ _ _ _ _ _ (by exact d_must_be_turn) (by exact(hr.mono (show 2≤6 by decide))) (by exact rfl) (@q7_ _ _ _ _ _ _ (@z3_ _ _ _ _ _ (pv 1)) (@v7_ _ _) (by exact z2_ rfl)) (by decide) (by exact z2_ rfl) (by exact q3_ rfl)) (by rfl)))) (@a4O _ _ _ _ _ (@b7y _ _ _ _))))
theorem b9W:FnScope ["_law_script","_law_k"] ["_law_script","_law_k"] (v9_ a8z):=x7_
def a4Y:Mo Fl:=(q2_ (y3_ (mT (z4_ dLt (z0_ 1) (mCB v8_ (z1_ (z0_ 0) z5_)))) (v1_ (z4_ dIx (z0_ 0) (z0_ 1))) mNx) (v1_ (mC (.int 0))))
def a4j:Fn:=fnM 2 a4Y
theorem b9X{f:Addr}{fd:FuncData}(F:Fun K "_law_cell_at" "_law_cell_at" a8z f fd)(T:Txt K mg):FnOk P w K mg base CX0 1 f fd ["_law_script","_law_k"] (SpF K 2 a4j):=
 k0_ F b9W fun cdv A outer s H E hr=>(@v0_ _ _ _ _ _ _ (@w6_ _ _ _ _ _ _ _ _ _ (@a0e _ _ _ _ _ _ _ _ _ _ (by exact b4Y) (by exact b5L) (@z3_ _ _ _ _ _ (pv 1)) (@k5_ _ _ _ _ _ _ _ _ _ _ _ (by exact j6_) (by exact j8_) (by exact rfl) (by exact T.g_len) (by exact Qi) (@z6_ _ _ _ _ _ _ (@z3_ _ _ _ _ _ (pv 0)) (@q1_ _ _) (by exact z2_ rfl)) (by decide) (by decide) (by exact z2_ rfl) (by exact q3_ rfl)) (by exact(nomark _))) (@v2_ _ _ _ _ (@y4_ _ _ _ _ _ (@a0f _ _ _ _ _ _ _ (@z3_ _ _ _ _ _ (pv 0)) (@z3_ _ _ _ _ _ (pv 1)) (fun _ _=>rfl)))) (@w5_ _ _)) (@v2_ _ _ _ _ (@y4_ _ _ _ _ _ (@z8_ _ _ _ _ _))))
theorem b2j:FnScope ["_law_script","_law_k","_law_cell"] ["_law_script","_law_k"] (v9_ a8A):=x7_
def a4Z:Mo Fl:=(q2_ (q8_ 2 (mCD 2 a4j (z7_ (z0_ 0) (z7_ (z0_ 1) q0_)))) (q2_ (y3_ (mT (z4_ dGe (z0_ 2) (z4_ a1g (mC (.int 10)) (mC (.int 18))))) (a2h (x4_ (z1_ (z4_ y0_ (z0_ 2) (z4_ a1g (mC (.int 10)) (mC (.int 18)))) (z1_ (mC (.bl true)) z5_)))) mNx) (a2h (x4_ (z1_ (z4_ g4_ (z0_ 2) (mC (.int 2147483647))) (z1_ (mC (.bl false)) z5_))))))
def a4k:Fn:=fnM 3 a4Z
theorem b9Y{f:Addr}{fd:FuncData}(F:Fun K "_law_state" "_law_state" a8A f fd)(T:Txt K mg)(d__law_cell_at:Def P w K mg base "_law_cell_at" 1 2 a4j):FnOk P w K mg base CX0 2 f fd ["_law_script","_law_k"] (SpF K 2 a4k):=
 k0_ F b2j fun cdv A outer s H E hr=>(@v0_ _ _ _ _ _ _ (@x5_ _ _ _ _ _ 2 _ _ (by exact b2j.nd) (by exact rfl) (by first|exact Or.inl rfl|exact Or.inr rfl) (@y1_ _ _ _ _ _ _ _ _ _ _ _ (by exact d__law_cell_at) (by exact(hr.mono (show 1≤1 by decide))) (by exact rfl) (@q7_ _ _ _ _ _ _ (@z3_ _ _ _ _ _ (pv 0)) (@q7_ _ _ _ _ _ _ (@z3_ _ _ _ _ _ (pv 1)) (@v7_ _ _) (by exact z2_ rfl)) (by exact z2_ rfl)) (by decide) (by exact z2_ rfl) (by exact q3_ rfl)) (by rfl) (by first|exact .inl rfl|exact .inr rfl|assumption)) (@v0_ _ _ _ _ _ _ (@w6_ _ _ _ _ _ _ _ _ _ (@a0e _ _ _ _ _ _ _ _ _ _ (by exact b4Z) (by exact b5M) (@z3_ _ _ _ _ _ (pv 2)) (@v3_ _ _ _ _ _ _ _ _ _ _ (by exact a6D) (by exact a6S) (@z8_ _ _ _ _ _) (@z8_ _ _ _ _ _)) (by exact(nomark _))) (@v2_ _ _ _ _ (@a5y _ _ _ _ _ (@j7_ _ _ _ _ _ (@z6_ _ _ _ _ _ _ (@v3_ _ _ _ _ _ _ _ _ _ _ (by exact u0_) (by exact u1_) (@z3_ _ _ _ _ _ (pv 2)) (@v3_ _ _ _ _ _ _ _ _ _ _ (by exact a6D) (by exact a6S) (@z8_ _ _ _ _ _) (@z8_ _ _ _ _ _))) (@z6_ _ _ _ _ _ _ (@g2_ _ _ _ _ _) (@q1_ _ _) (by exact z2_ rfl)) (by exact z2_ rfl))))) (@w5_ _ _)) (@v2_ _ _ _ _ (@a5y _ _ _ _ _ (@j7_ _ _ _ _ _ (@z6_ _ _ _ _ _ _ (@v3_ _ _ _ _ _ _ _ _ _ _ (by exact a2b) (by exact a2e) (@z3_ _ _ _ _ _ (pv 2)) (@z8_ _ _ _ _ _)) (@z6_ _ _ _ _ _ _ (@g2_ _ _ _ _ _) (@q1_ _ _) (by exact z2_ rfl)) (by exact z2_ rfl)))))))
theorem a6j:FnScope ["_law_state_here","_law_many","_law_mixed","_law_found"] ["_law_state_here","_law_many"] (v9_ a8B):=x7_
def a5a:Mo Fl:=(q2_ (y3_ (mT (w7_ 0 (mC (.int 1)))) (q2_ (q8_ 3 (z4_ g4_ (w7_ 0 (mC (.int 0))) (z0_ 1))) (q2_ (a0g (z4_ a4z (w7_ 0 (mC (.int 0))) (z0_ 1)) (gS 0 (mC (.int 0)))) (v1_ (z0_ 3)))) mNx) (q2_ (a0g (z4_ g4_ (z4_ v5_ (z4_ g7_ (w7_ 0 (mC (.int 0))) (mC (.int 48271))) (mC (.int 29))) (mC (.int 2147483647))) (gS 0 (mC (.int 0)))) (q2_ (q8_ 2 (z4_ g4_ (z4_ v5_ (z4_ v5_ (z4_ g7_ (w7_ 0 (mC (.int 0))) (w7_ 0 (mC (.int 0)))) (z4_ g7_ (mC (.int 39373)) (w7_ 0 (mC (.int 0))))) (mC (.int 7))) (mC (.int 2147483629)))) (q2_ (q8_ 2 (z4_ g4_ (z4_ v5_ (z4_ g7_ (z0_ 2) (z0_ 2)) (z4_ g7_ (mC (.int 16807)) (z0_ 2))) (mC (.int 2147483587)))) (v1_ (z4_ g4_ (z4_ a4z (z0_ 2) (mC (.int 8))) (z0_ 1)))))))
def k2_:Fn:=fnM 4 a5a
theorem b9Z{f:Addr}{fd:FuncData}(F:Fun K "_law_take" "_law_take" a8B f fd)(T:Txt K mg):FnOk P w K mg base CX0 1 f fd ["_law_state_here","_law_many"] (SpF K 2 k2_):=
 k0_ F a6j fun cdv A outer s H E hr=>(@v0_ _ _ _ _ _ _ (@w6_ _ _ _ _ _ _ _ _ _ (@u8_ _ _ _ _ (@a1O _ _ _ _ _ _ _ _ (pv 0) (@z8_ _ _ _ _ _) (fun _ _=>rfl) (by exact a3i)) (by intro _;rfl)) (@v0_ _ _ _ _ _ _ (@x5_ _ _ _ _ _ 3 _ _ (by exact a6j.nd) (by exact rfl) (by first|exact Or.inl rfl|exact Or.inr rfl) (@v3_ _ _ _ _ _ _ _ _ _ _ (by exact a2b) (by exact a2e) (@a1O _ _ _ _ _ _ _ _ (pv 0) (@z8_ _ _ _ _ _) (fun _ _=>rfl) (by exact a3i)) (@z3_ _ _ _ _ _ (pv 1))) (by rfl) (by first|exact .inl rfl|exact .inr rfl|assumption)) (@v0_ _ _ _ _ _ _ (@a5C _ _ _ _ _ _ _ (@v3_ _ _ _ _ _ _ _ _ _ _ (by exact a9P) (by exact b0w) (@a1O _ _ _ _ _ _ _ _ (pv 0) (@z8_ _ _ _ _ _) (fun _ _=>rfl) (by exact a3i)) (@z3_ _ _ _ _ _ (pv 1))) (@a5B _ _ _ _ _ _ _ _ _ (pv 0) (@z8_ _ _ _ _ _) (by intro _;rfl)) (by rfl) (by rfl) (by rfl)) (@v2_ _ _ _ _ (@y4_ _ _ _ _ _ (@z3_ _ _ _ _ _ (pv 3)))))) (@w5_ _ _)) (@v0_ _ _ _ _ _ _ (@a5C _ _ _ _ _ _ _ (@v3_ _ _ _ _ _ _ _ _ _ _ (by exact a2b) (by exact a2e) (@v3_ _ _ _ _ _ _ _ _ _ _ (by exact k7_) (by exact k8_) (@v3_ _ _ _ _ _ _ _ _ _ _ (by exact a3g) (by exact a3h) (@a1O _ _ _ _ _ _ _ _ (pv 0) (@z8_ _ _ _ _ _) (fun _ _=>rfl) (by exact a3i)) (@z8_ _ _ _ _ _)) (@z8_ _ _ _ _ _)) (@z8_ _ _ _ _ _)) (@a5B _ _ _ _ _ _ _ _ _ (pv 0) (@z8_ _ _ _ _ _) (by intro _;rfl)) (by rfl) (by rfl) (by rfl)) (@v0_ _ _ _ _ _ _ (@x5_ _ _ _ _ _ 2 _ _ (by exact a6j.nd) (by exact rfl) (by first|exact Or.inl rfl|exact Or.inr rfl) (@v3_ _ _ _ _ _ _ _ _ _ _ (by exact a2b) (by exact a2e) (@v3_ _ _ _ _ _ _ _ _ _ _ (by exact k7_) (by exact k8_) (@v3_ _ _ _ _ _ _ _ _ _ _ (by exact k7_) (by exact k8_) (@v3_ _ _ _ _ _ _ _ _ _ _ (by exact a3g) (by exact a3h) (@a1O _ _ _ _ _ _ _ _ (pv 0) (@z8_ _ _ _ _ _) (fun _ _=>rfl) (by exact a3i)) (@a1O _ _ _ _ _ _ _ _ (pv 0) (@z8_ _ _ _ _ _) (fun _ _=>rfl) (by exact a3i))) (@v3_ _ _ _ _ _ _ _ _ _ _ (by exact a3g) (by exact a3h) (@z8_ _ _ _ _ _) (@a1O _ _ _ _ _ _ _ _ (pv 0) (@z8_ _ _ _ _ _) (fun _ _=>rfl) (by exact a3i)))) (@z8_ _ _ _ _ _)) (@z8_ _ _ _ _ _)) (by rfl) (by first|exact .inl rfl|exact .inr rfl|assumption)) (@v0_ _ _ _ _ _ _ (@x5_ _ _ _ _ _ 2 _ _ (by exact a6j.nd) (by exact rfl) (by first|exact Or.inl rfl|exact Or.inr rfl) (@v3_ _ _ _ _ _ _ _ _ _ _ (by exact a2b) (by exact a2e) (@v3_ _ _ _ _ _ _ _ _ _ _ (by exact k7_) (by exact k8_) (@v3_ _ _ _ _ _ _ _ _ _ _ (by exact a3g) (by exact a3h) (@z3_ _ _ _ _ _ (pv 2)) (@z3_ _ _ _ _ _ (pv 2))) (@v3_ _ _ _ _ _ _ _ _ _ _ (by exact a3g) (by exact a3h) (@z8_ _ _ _ _ _) (@z3_ _ _ _ _ _ (pv 2)))) (@z8_ _ _ _ _ _)) (by rfl) (by first|exact .inl rfl|exact .inr rfl|assumption)) (@v2_ _ _ _ _ (@y4_ _ _ _ _ _ (@v3_ _ _ _ _ _ _ _ _ _ _ (by exact a2b) (by exact a2e) (@v3_ _ _ _ _ _ _ _ _ _ _ (by exact a9P) (by exact b0w) (@z3_ _ _ _ _ _ (pv 2)) (@z8_ _ _ _ _ _)) (@z3_ _ _ _ _ _ (pv 1)))))))))
theorem a4l:FnScope ["_law_call","_law_error","e","_law_sorts"] ["_law_call"] (v9_ a8C):=x7_
theorem nd7:(["-0","-1","-2","-3","_law_one"]:List Str).Nodup:=by decide+kernel
def c0a:Mo Fl:=(q2_ (y3_ (mT (z4_ a7J (z0_ 1) (mC .non))) (v1_ (mC .non)) mNx) (q2_ (u5_ 3 (x4_ (z1_ (a0x xN "NoTable" (z0_ 1)) (z1_ (a0x xN "NoHeights" (z0_ 1)) (z1_ (a0x xN "NoNet" (z0_ 1)) z5_))))) (q2_ (u5_ 3 (a2p (z0_ 3) (mF (x4_ (z1_ (a0x xN "NoPlace" (z0_ 1)) (z1_ (a0x xN "NoTriangle" (z0_ 1)) (z1_ (a0x xN "NoRow" (z0_ 1)) z5_))))))) (q2_ (u5_ 3 (a2p (z0_ 3) (mF (x4_ (z1_ (a0x xN "NoNumber" (z0_ 1)) (z1_ (a0x xN "NoTurn" (z0_ 1)) (z1_ (a0x xN "NotAlike" (z0_ 1)) z5_))))))) (q2_ (u5_ 3 (a2p (z0_ 3) (mF (x4_ (z1_ (a0x xN "NoStep" (z0_ 1)) (z1_ (a0x xN "NoRows" (z0_ 1)) (z1_ (a0x xN "TooMany" (z0_ 1)) z5_))))))) (q2_ (a1y 3 (a0x xN "BadNote" (z0_ 1))) (q2_ (y3_ (g5_ (y8_ (mT (b1F xN (z0_ 1)))) (mT (z4_ (dEq true) (mCB a7F (z1_ (mF (y7_ (x2_ (z0_ 3)) [false,false,false,false] 1 (gN 4) x3_ (mCB a7r (z1_ (z0_ 4) z5_)))) z5_)) (mC (.int 1))))) (v1_ (a0T (mC (.int 1)))) mNx) (v1_ (z4_ a7S (z0_ 3) (mC (.bl true)))))))))))
def c0b(o:Option Str):Mo Fl:=q2_ (q8_ 1 (mC .non)) (q2_ (a7L xN 2 1 o) c0a)
def a1b:Option Str->Option D:=a7P 4 c0b
theorem c0c{f:Addr}{fd:FuncData}(F:Fun K "_law_refused" "_law_refused" a8C f fd)(T:Txt K mg)(hmg:mg "_law_refused"=some (.ref f))(hbd:a0j K fd ["_law_call"] []):RefDef P w K mg base "_law_refused" 9 8 a1b:=
 b8j F a4l hmg hbd (by decide) fun cdv A outer s H E fl o G hr fn clo=>b7W (i0:=0) (i:=2) (j:=1) rfl rfl rfl T.ex a4l.nd rfl (Or.inl rfl) rfl rfl rfl rfl (by decide) rfl fn clo (@v0_ _ _ _ _ _ _ (@w6_ _ _ _ _ _ _ _ _ _ (@a0e _ _ _ _ _ _ _ _ _ _ (by exact b5a) (by exact b7L) (@z3_ _ _ _ _ _ (pv 1)) (@a3P _ _ _ _) (by exact(nomark _))) (@v2_ _ _ _ _ (@y4_ _ _ _ _ _ (@a3P _ _ _ _))) (@w5_ _ _)) (@v0_ _ _ _ _ _ _ (@a1P _ _ _ _ _ 3 _ _ (by exact a4l.nd) (by exact rfl) (by first|exact Or.inl rfl|exact Or.inr rfl) (@j7_ _ _ _ _ _ (@z6_ _ _ _ _ _ _ (@a0M _ _ _ _ _ _ _ _ _ _ (by exact T.ex) (by decide+kernel) (@z3_ _ _ _ _ _ (pv 1)) (by exact rfl) (by exact T.g_isinstance) (by exact rfl) (by decide) (by exact se2 rfl rfl)) (@z6_ _ _ _ _ _ _ (@a0M _ _ _ _ _ _ _ _ _ _ (by exact T.ex) (by decide+kernel) (@z3_ _ _ _ _ _ (pv 1)) (by exact rfl) (by exact T.g_isinstance) (by exact rfl) (by decide) (by exact se2 rfl rfl)) (@z6_ _ _ _ _ _ _ (@a0M _ _ _ _ _ _ _ _ _ _ (by exact T.ex) (by decide+kernel) (@z3_ _ _ _ _ _ (pv 1)) (by exact rfl) (by exact T.g_isinstance) (by exact rfl) (by decide) (by exact se2 rfl rfl)) (@q1_ _ _) (by exact z2_ rfl)) (by exact z2_ rfl)) (by exact z2_ rfl))) (by rfl) (by first|exact .inl rfl|exact .inr rfl|assumption)) (@v0_ _ _ _ _ _ _ (@a1P _ _ _ _ _ 3 _ _ (by exact a4l.nd) (by exact rfl) (by first|exact Or.inl rfl|exact Or.inr rfl) (@a5M _ _ _ _ _ _ _ (@z3_ _ _ _ _ _ (pv 3)) (@x8_ _ _ _ _ (@j7_ _ _ _ _ _ (@z6_ _ _ _ _ _ _ (@a0M _ _ _ _ _ _ _ _ _ _ (by exact T.ex) (by decide+kernel) (@z3_ _ _ _ _ _ (pv 1)) (by exact rfl) (by exact T.g_isinstance) (by exact rfl) (by decide) (by exact se2 rfl rfl)) (@z6_ _ _ _ _ _ _ (@a0M _ _ _ _ _ _ _ _ _ _ (by exact T.ex) (by decide+kernel) (@z3_ _ _ _ _ _ (pv 1)) (by exact rfl) (by exact T.g_isinstance) (by exact rfl) (by decide) (by exact se2 rfl rfl)) (@z6_ _ _ _ _ _ _ (@a0M _ _ _ _ _ _ _ _ _ _ (by exact T.ex) (by decide+kernel) (@z3_ _ _ _ _ _ (pv 1)) (by exact rfl) (by exact T.g_isinstance) (by exact rfl) (by decide) (by exact se2 rfl rfl)) (@q1_ _ _) (by exact z2_ rfl)) (by exact z2_ rfl)) (by exact z2_ rfl))))) (by rfl) (by first|exact .inl rfl|exact .inr rfl|assumption)) (@v0_ _ _ _ _ _ _ (@a1P _ _ _ _ _ 3 _ _ (by exact a4l.nd) (by exact rfl) (by first|exact Or.inl rfl|exact Or.inr rfl) (@a5M _ _ _ _ _ _ _ (@z3_ _ _ _ _ _ (pv 3)) (@x8_ _ _ _ _ (@j7_ _ _ _ _ _ (@z6_ _ _ _ _ _ _ (@a0M _ _ _ _ _ _ _ _ _ _ (by exact T.ex) (by decide+kernel) (@z3_ _ _ _ _ _ (pv 1)) (by exact rfl) (by exact T.g_isinstance) (by exact rfl) (by decide) (by exact se2 rfl rfl)) (@z6_ _ _ _ _ _ _ (@a0M _ _ _ _ _ _ _ _ _ _ (by exact T.ex) (by decide+kernel) (@z3_ _ _ _ _ _ (pv 1)) (by exact rfl) (by exact T.g_isinstance) (by exact rfl) (by decide) (by exact se2 rfl rfl)) (@z6_ _ _ _ _ _ _ (@a0M _ _ _ _ _ _ _ _ _ _ (by exact T.ex) (by decide+kernel) (@z3_ _ _ _ _ _ (pv 1)) (by exact rfl) (by exact T.g_isinstance) (by exact rfl) (by decide) (by exact se2 rfl rfl)) (@q1_ _ _) (by exact z2_ rfl)) (by exact z2_ rfl)) (by exact z2_ rfl))))) (by rfl) (by first|exact .inl rfl|exact .inr rfl|assumption)) (@v0_ _ _ _ _ _ _ (@a1P _ _ _ _ _ 3 _ _ (by exact a4l.nd) (by exact rfl) (by first|exact Or.inl rfl|exact Or.inr rfl) (@a5M _ _ _ _ _ _ _ (@z3_ _ _ _ _ _ (pv 3)) (@x8_ _ _ _ _ (@j7_ _ _ _ _ _ (@z6_ _ _ _ _ _ _ (@a0M _ _ _ _ _ _ _ _ _ _ (by exact T.ex) (by decide+kernel) (@z3_ _ _ _ _ _ (pv 1)) (by exact rfl) (by exact T.g_isinstance) (by exact rfl) (by decide) (by exact se2 rfl rfl)) (@z6_ _ _ _ _ _ _ (@a0M _ _ _ _ _ _ _ _ _ _ (by exact T.ex) (by decide+kernel) (@z3_ _ _ _ _ _ (pv 1)) (by exact rfl) (by exact T.g_isinstance) (by exact rfl) (by decide) (by exact se2 rfl rfl)) (@z6_ _ _ _ _ _ _ (@a0M _ _ _ _ _ _ _ _ _ _ (by exact T.ex) (by decide+kernel) (@z3_ _ _ _ _ _ (pv 1)) (by exact rfl) (by exact T.g_isinstance) (by exact rfl) (by decide) (by exact se2 rfl rfl)) (@q1_ _ _) (by exact z2_ rfl)) (by exact z2_ rfl)) (by exact z2_ rfl))))) (by rfl) (by first|exact .inl rfl|exact .inr rfl|assumption)) (@v0_ _ _ _ _ _ _ (@a5A _ _ _ _ _ _ _ _ _ _ (pv 3) (@z6_ _ _ _ _ _ _ (@a0M _ _ _ _ _ _ _ _ _ _ (by exact T.ex) (by decide+kernel) (@z3_ _ _ _ _ _ (pv 1)) (by exact rfl) (by exact T.g_isinstance) (by exact rfl) (by decide) (by exact se2 rfl rfl)) (@q1_ _ _) (by exact z2_ rfl)) (by rfl) (by rfl) (by rfl) (by exact z2_ rfl) (by exact q3_ rfl) (by rfl)) (@v0_ _ _ _ _ _ _ (@w6_ _ _ _ _ _ _ _ _ _ (@a2f _ _ _ _ (@a2X _ _ _ _ _ _ _ _ (@u9_ _ _ _ _ _ (@u8_ _ _ _ _ (@b7J _ _ _ _ _ _ _ _ _ (by exact T.ex) (@z3_ _ _ _ _ _ (pv 1)) (by exact rfl) (by exact T.g_isinstance) (by exact rfl) (by exact T.g_ValueError) (by exact se2 rfl rfl)) (by intro _;rfl))) (@a2W _ _ _ _ _ (@a0e _ _ _ _ _ _ _ _ _ _ (by exact(op_neD hr.units)) (by exact opd_eq) (@k5_ _ _ _ _ _ _ _ _ _ _ _ (by exact(b7t rfl)) (by exact b7u) (by exact rfl) (by exact T.g_sum) (by exact b7v) (@z6_ _ _ _ _ _ _ (@x8_ _ _ _ _ (@a0G _ _ ["-0","-1","-2","-3","_law_one"] _ [false,false,false,false] 1 _ _ _ _ _ _ _ _ _ (by exact(a0c rfl rfl)) (by exact rfl) (@a0b _ _ _ _ _ (@z3_ _ _ _ _ _ (pv 3))) (fun s H fp=>(@x9_ _ _ _ _ 4 _ (by exact(show 4≤4 by decide)) (by exact nd7) (by exact rfl) (by first|exact Or.inl rfl|exact Or.inr rfl) (by first|exact .inl rfl|exact .inr rfl|assumption))) (fun s H fp=>(@a0W _ _)) (fun s H fp=>(@a2g _ _ _ _ _ _ _ _ _ _ _ (by exact b5i) (by exact b6s) (by exact rfl) (by exact T.g_int) (by exact a7w) (@z6_ _ _ _ _ _ _ (@z3_ _ _ _ _ _ (pv 4)) (@q1_ _ _) (by exact z2_ rfl)) (by decide) (by decide) (by exact z2_ rfl) (by exact q3_ rfl))) (by intro _;rfl))) (@q1_ _ _) (by exact z2_ rfl)) (by decide) (by decide) (by exact z2_ rfl) (by exact q3_ rfl)) (@z8_ _ _ _ _ _) (by exact(nomark _)))))) (@v2_ _ _ _ _ (@y4_ _ _ _ _ _ (@a5w _ _ _ _ _ (@z8_ _ _ _ _ _)))) (@w5_ _ _)) (@v2_ _ _ _ _ (@y4_ _ _ _ _ _ (@b8u _ _ _ _ _ _ _ _ (@z3_ _ _ _ _ _ (pv 3)) (@g2_ _ _ _ _ _) (by rfl) (by rfl) (by rfl) (by exact z2_ rfl) (by exact q3_ rfl)))))))))))
theorem a2D:FnScope ["_law_held","_law_found","_law_one","_law_longer","_law_far","_law_row","_law_number"] ["_law_held"] (v9_ a8D):=x7_
theorem nd8:(["-0","-1","-2","-3","-4","-5","-6","_law_far","_law_row"]:List Str).Nodup:=by decide+kernel
def c0d:Mo Fl:=(q2_ (q8_ 1 (mF (x4_ (z1_ (q9_ (z1_ (mC (.int 0)) (z1_ (q9_ z5_) z5_))) z5_)))) (q2_ (w8_ (x2_ (z0_ 0)) (gN 2) (q2_ (u5_ 3 (x4_ z5_)) (q2_ (w8_ (x2_ (z0_ 1)) (gT 2 (gCn (gN 4) (gCn (gN 5) gNl))) (w8_ (x2_ (q9_ (z1_ (a0T (mC (.int 1))) (z1_ (mC (.int 0)) (z1_ (mC (.int 1)) z5_))))) (gN 6) (y3_ (a5u (mT (a0C dLe dLe (mC (.int 0)) (z4_ v5_ (z0_ 4) (z0_ 6)) (mC (.int 1)))) (mT (a0C dLe dLe (mC (.int 0)) (z4_ v5_ (z0_ 2) (z0_ 6)) (mC (.int 1))))) (a1y 3 (q9_ (z1_ (z4_ v5_ (z0_ 4) (z0_ 6)) (z1_ (z4_ v5_ (z0_ 5) (q9_ (z1_ (z0_ 6) z5_))) z5_)))) mNx))) (q8_ 1 (z0_ 3))))) (a2h (mCL a7E (z1_ (mF (y7_ (x2_ (z0_ 1)) [false,false,false,false,false,false,false] 2 (gT 2 (gCn (gN 7) (gCn (gN 8) gNl))) (mT (z4_ (dEq false) (z0_ 7) (mC (.int 1)))) (z0_ 8))) z5_)))))
def a2E:Fn:=fnM 7 c0d
theorem c0e{f:Addr}{fd:FuncData}(F:Fun K "_law_lines" "_law_lines" a8D f fd)(T:Txt K mg):FnOk P w K mg base CX0 1 f fd ["_law_held"] (SpF K 1 a2E):=
 k0_ F a2D fun cdv A outer s H E hr=>(@v0_ _ _ _ _ _ _ (@x5_ _ _ _ _ _ 1 _ _ (by exact a2D.nd) (by exact rfl) (by first|exact Or.inl rfl|exact Or.inr rfl) (@x8_ _ _ _ _ (@j7_ _ _ _ _ _ (@z6_ _ _ _ _ _ _ (@x1_ _ _ _ _ _ _ (@z6_ _ _ _ _ _ _ (@z8_ _ _ _ _ _) (@z6_ _ _ _ _ _ _ (@x1_ _ _ _ _ _ _ (@q1_ _ _)) (@q1_ _ _) (by exact z2_ rfl)) (by exact z2_ rfl))) (@q1_ _ _) (by exact z2_ rfl)))) (by rfl) (by first|exact .inl rfl|exact .inr rfl|assumption)) (@v0_ _ _ _ _ _ _ (@a0E _ _ _ _ _ _ _ _ _ (by exact Zm) (by exact rfl) (@a0b _ _ _ _ _ (@z3_ _ _ _ _ _ (pv 0))) (@x9_ _ _ _ _ 2 _ (by exact(show 0≤2 by decide)) (by exact a2D.nd) (by exact rfl) (by first|exact Or.inl rfl|exact Or.inr rfl) (by first|exact .inl rfl|exact .inr rfl|assumption)) (@v0_ _ _ _ _ _ _ (@a1P _ _ _ _ _ 3 _ _ (by exact a2D.nd) (by exact rfl) (by first|exact Or.inl rfl|exact Or.inr rfl) (@j7_ _ _ _ _ _ (@q1_ _ _)) (by rfl) (by first|exact .inl rfl|exact .inr rfl|assumption)) (@v0_ _ _ _ _ _ _ (@a0E _ _ _ _ _ _ _ _ _ (by exact Zm) (by exact rfl) (@a0b _ _ _ _ _ (@z3_ _ _ _ _ _ (pv 1))) (@a3T _ _ _ _ _ _ _ _ (by exact rfl) (@a0U _ _ _ _ _ _ _ (@x9_ _ _ _ _ 4 _ (by exact(show 0≤4 by decide)) (by exact a2D.nd) (by exact rfl) (by first|exact Or.inl rfl|exact Or.inr rfl) (by first|exact .inl rfl|exact .inr rfl|assumption)) (@a0U _ _ _ _ _ _ _ (@x9_ _ _ _ _ 5 _ (by exact(show 0≤5 by decide)) (by exact a2D.nd) (by exact rfl) (by first|exact Or.inl rfl|exact Or.inr rfl) (by first|exact .inl rfl|exact .inr rfl|assumption)) (@a3S _ _ _) (by rfl)) (by rfl)) (by rfl) (by rfl)) (@v2_ _ _ _ _ (@a0E _ _ _ _ _ _ _ _ _ (by exact Zm) (by exact rfl) (@a0b _ _ _ _ _ (@x1_ _ _ _ _ _ _ (@z6_ _ _ _ _ _ _ (@a5w _ _ _ _ _ (@z8_ _ _ _ _ _)) (@z6_ _ _ _ _ _ _ (@z8_ _ _ _ _ _) (@z6_ _ _ _ _ _ _ (@z8_ _ _ _ _ _) (@q1_ _ _) (by exact z2_ rfl)) (by exact z2_ rfl)) (by exact z2_ rfl)))) (@x9_ _ _ _ _ 6 _ (by exact(show 0≤6 by decide)) (by exact a2D.nd) (by exact rfl) (by first|exact Or.inl rfl|exact Or.inr rfl) (by first|exact .inl rfl|exact .inr rfl|assumption)) (@v2_ _ _ _ _ (@w6_ _ _ _ _ _ _ _ _ _ (@a2f _ _ _ _ (@b5Q _ _ _ _ _ _ _ _ (@a5x _ _ _ _ _ _ _ _ _ _ _ _ _ _ _ (by exact a1u) (by exact a1u) (by exact a1x) (by exact a1x) (@z8_ _ _ _ _ _) (@v3_ _ _ _ _ _ _ _ _ _ _ (by exact k7_) (by exact k8_) (@z3_ _ _ _ _ _ (pv 4)) (@z3_ _ _ _ _ _ (pv 6))) (@z8_ _ _ _ _ _) (by with_unfolding_all rfl)) (@b5P _ _ _ _ _ (@a5x _ _ _ _ _ _ _ _ _ _ _ _ _ _ _ (by exact a1u) (by exact a1u) (by exact a1x) (by exact a1x) (@z8_ _ _ _ _ _) (@v3_ _ _ _ _ _ _ _ _ _ _ (by exact k7_) (by exact k8_) (@z3_ _ _ _ _ _ (pv 2)) (@z3_ _ _ _ _ _ (pv 6))) (@z8_ _ _ _ _ _) (by with_unfolding_all rfl))))) (@v2_ _ _ _ _ (@a5A _ _ _ _ _ _ _ _ _ _ (pv 3) (@z6_ _ _ _ _ _ _ (@x1_ _ _ _ _ _ _ (@z6_ _ _ _ _ _ _ (@v3_ _ _ _ _ _ _ _ _ _ _ (by exact k7_) (by exact k8_) (@z3_ _ _ _ _ _ (pv 4)) (@z3_ _ _ _ _ _ (pv 6))) (@z6_ _ _ _ _ _ _ (@v3_ _ _ _ _ _ _ _ _ _ _ (by exact k7_) (by exact k8_) (@z3_ _ _ _ _ _ (pv 5)) (@x1_ _ _ _ _ _ _ (@z6_ _ _ _ _ _ _ (@z3_ _ _ _ _ _ (pv 6)) (@q1_ _ _) (by exact z2_ rfl)))) (@q1_ _ _) (by exact z2_ rfl)) (by exact z2_ rfl))) (@q1_ _ _) (by exact z2_ rfl)) (by rfl) (by rfl) (by rfl) (by exact z2_ rfl) (by exact q3_ rfl) (by rfl))) (@w5_ _ _))) (by intro _;rfl))) (by intro _;rfl)) (@v2_ _ _ _ _ (@x5_ _ _ _ _ _ 1 _ _ (by exact a2D.nd) (by exact rfl) (by first|exact Or.inl rfl|exact Or.inr rfl) (@z3_ _ _ _ _ _ (pv 3)) (by rfl) (by first|exact .inl rfl|exact .inr rfl|assumption))))) (by intro _;rfl)) (@v2_ _ _ _ _ (@a5y _ _ _ _ _ (@b5S _ _ _ _ _ _ _ _ _ _ _ (by exact b7p) (by exact b7q) (by exact rfl) (by exact T.g_sorted) (by exact b7m) (@z6_ _ _ _ _ _ _ (@x8_ _ _ _ _ (@a0G _ _ ["-0","-1","-2","-3","-4","-5","-6","_law_far","_law_row"] _ [false,false,false,false,false,false,false] 2 _ _ _ _ _ _ _ _ _ (by exact(a0c rfl rfl)) (by exact rfl) (@a0b _ _ _ _ _ (@z3_ _ _ _ _ _ (pv 1))) (fun s H fp=>(@a3T _ _ _ _ _ _ _ _ (by exact rfl) (@a0U _ _ _ _ _ _ _ (@x9_ _ _ _ _ 7 _ (by exact(show 7≤7 by decide)) (by exact nd8) (by exact rfl) (by first|exact Or.inl rfl|exact Or.inr rfl) (by first|exact .inl rfl|exact .inr rfl|assumption)) (@a0U _ _ _ _ _ _ _ (@x9_ _ _ _ _ 8 _ (by exact(show 7≤8 by decide)) (by exact nd8) (by exact rfl) (by first|exact Or.inl rfl|exact Or.inr rfl) (by first|exact .inl rfl|exact .inr rfl|assumption)) (@a3S _ _ _) (by rfl)) (by rfl)) (by rfl) (by rfl))) (fun s H fp=>(@b0O _ _ _ _ (@a0e _ _ _ _ _ _ _ _ _ _ (by exact(op_eqD hr.units)) (by exact opd_eq) (@z3_ _ _ _ _ _ (pv 7)) (@z8_ _ _ _ _ _) (by exact(nomark _))))) (fun s H fp=>(@z3_ _ _ _ _ _ (pv 8))) (by intro _;rfl))) (@q1_ _ _) (by exact z2_ rfl)) (by decide) (by decide) (by exact z2_ rfl) (by exact q3_ rfl))))))
theorem a1Y:FnScope ["_law_state_here","_law_least","_law_most","_law_side","_law_held","_law_found","_law_turn","_law_rows","_law_row"] ["_law_state_here","_law_least","_law_most"] (v9_ a8E):=x7_
theorem nd9:(["-0","-1","-2","-3","-4","-5","-6","-7","-8","_law_one","_law_number"]:List Str).Nodup:=by decide+kernel
def a9d:Mo Fl:=(q2_ (q8_ 3 (z4_ v5_ (z0_ 1) (mCD 2 k2_ (x0_ 0 (z7_ (z4_ v5_ (z4_ y0_ (z0_ 2) (z0_ 1)) (mC (.int 1))) q0_))))) (q2_ (q8_ 4 (z4_ g7_ (q9_ (z1_ (mC (.int 0)) z5_)) (z0_ 3))) (q2_ (q8_ 5 (q9_ z5_)) (q2_ (w8_ (j4_ (z1_ (z0_ 3) z5_)) (gN 6) (q2_ (q8_ 7 (mF (u3_ 1 a2E (z7_ (z0_ 4) q0_)))) (q2_ (q8_ 8 (z4_ dIx (z0_ 7) (mCD 2 k2_ (x0_ 0 (z7_ (mCB v8_ (z1_ (z0_ 7) z5_)) q0_))))) (q2_ (q8_ 4 (mCB a0k (z1_ (mF (y7_ (a1B (z1_ (z0_ 4) (z1_ (z0_ 8) z5_))) [false,false,false,false,false,false,false,false,false] 2 (gT 2 (gCn (gN 9) (gCn (gN 10) gNl))) x3_ (z4_ v5_ (z0_ 9) (z0_ 10)))) z5_))) (q8_ 5 (z4_ v5_ (z0_ 5) (q9_ (z1_ (z0_ 8) z5_)))))))) (v1_ (z0_ 5))))))
def a1o:Fn:=fnM 9 a9d
theorem c0f{f:Addr}{fd:FuncData}(F:Fun K "_law_table" "_law_table" a8E f fd)(T:Txt K mg)(d__law_take:Def P w K mg base "_law_take" 1 2 k2_)(d__law_lines:Def P w K mg base "_law_lines" 1 1 a2E):FnOk P w K mg base CX0 2 f fd ["_law_state_here","_law_least","_law_most"] (SpF K 3 a1o):=
 k0_ F a1Y fun cdv A outer s H E hr=>(@v0_ _ _ _ _ _ _ (@x5_ _ _ _ _ _ 3 _ _ (by exact a1Y.nd) (by exact rfl) (by first|exact Or.inl rfl|exact Or.inr rfl) (@v3_ _ _ _ _ _ _ _ _ _ _ (by exact k7_) (by exact k8_) (@z3_ _ _ _ _ _ (pv 1)) (@y1_ _ _ _ _ _ _ _ _ _ _ _ (by exact d__law_take) (by exact(hr.mono (show 1≤1 by decide))) (by exact rfl) (@a0a _ _ _ _ _ _ _ (pv 0) (@q7_ _ _ _ _ _ _ (@v3_ _ _ _ _ _ _ _ _ _ _ (by exact k7_) (by exact k8_) (@v3_ _ _ _ _ _ _ _ _ _ _ (by exact u0_) (by exact u1_) (@z3_ _ _ _ _ _ (pv 2)) (@z3_ _ _ _ _ _ (pv 1))) (@z8_ _ _ _ _ _)) (@v7_ _ _) (by exact z2_ rfl)) (by exact z2_ rfl)) (by decide) (by exact z2_ rfl) (by exact q3_ rfl))) (by rfl) (by first|exact .inl rfl|exact .inr rfl|assumption)) (@v0_ _ _ _ _ _ _ (@x5_ _ _ _ _ _ 4 _ _ (by exact a1Y.nd) (by exact rfl) (by first|exact Or.inl rfl|exact Or.inr rfl) (@v3_ _ _ _ _ _ _ _ _ _ _ (by exact a3g) (by exact a3h) (@x1_ _ _ _ _ _ _ (@z6_ _ _ _ _ _ _ (@z8_ _ _ _ _ _) (@q1_ _ _) (by exact z2_ rfl))) (@z3_ _ _ _ _ _ (pv 3))) (by rfl) (by first|exact .inl rfl|exact .inr rfl|assumption)) (@v0_ _ _ _ _ _ _ (@x5_ _ _ _ _ _ 5 _ _ (by exact a1Y.nd) (by exact rfl) (by first|exact Or.inl rfl|exact Or.inr rfl) (@x1_ _ _ _ _ _ _ (@q1_ _ _)) (by rfl) (by first|exact .inl rfl|exact .inr rfl|assumption)) (@v0_ _ _ _ _ _ _ (@a0E _ _ _ _ _ _ _ _ _ (by exact Zm) (by exact rfl) (@a2i _ _ _ _ _ _ _ (by exact rfl) (by exact T.g_range) (@z6_ _ _ _ _ _ _ (@z3_ _ _ _ _ _ (pv 3)) (@q1_ _ _) (by exact z2_ rfl)) (by exact se1 rfl)) (@x9_ _ _ _ _ 6 _ (by exact(show 0≤6 by decide)) (by exact a1Y.nd) (by exact rfl) (by first|exact Or.inl rfl|exact Or.inr rfl) (by first|exact .inl rfl|exact .inr rfl|assumption)) (@v0_ _ _ _ _ _ _ (@x5_ _ _ _ _ _ 7 _ _ (by exact a1Y.nd) (by exact rfl) (by first|exact Or.inl rfl|exact Or.inr rfl) (@x8_ _ _ _ _ (@b1j _ _ _ _ _ _ _ _ _ _ _ (by exact d__law_lines) (by exact(hr.mono (show 1≤1 by decide))) (by exact rfl) (@q7_ _ _ _ _ _ _ (@z3_ _ _ _ _ _ (pv 4)) (@v7_ _ _) (by exact z2_ rfl)) (by decide) (by exact z2_ rfl) (by exact q3_ rfl))) (by rfl) (by first|exact .inl rfl|exact .inr rfl|assumption)) (@v0_ _ _ _ _ _ _ (@x5_ _ _ _ _ _ 8 _ _ (by exact a1Y.nd) (by exact rfl) (by first|exact Or.inl rfl|exact Or.inr rfl) (@a0f _ _ _ _ _ _ _ (@z3_ _ _ _ _ _ (pv 7)) (@y1_ _ _ _ _ _ _ _ _ _ _ _ (by exact d__law_take) (by exact(hr.mono (show 1≤1 by decide))) (by exact rfl) (@a0a _ _ _ _ _ _ _ (pv 0) (@q7_ _ _ _ _ _ _ (@k5_ _ _ _ _ _ _ _ _ _ _ _ (by exact j6_) (by exact j8_) (by exact rfl) (by exact T.g_len) (by exact Qi) (@z6_ _ _ _ _ _ _ (@z3_ _ _ _ _ _ (pv 7)) (@q1_ _ _) (by exact z2_ rfl)) (by decide) (by decide) (by exact z2_ rfl) (by exact q3_ rfl)) (@v7_ _ _) (by exact z2_ rfl)) (by exact z2_ rfl)) (by decide) (by exact z2_ rfl) (by exact q3_ rfl)) (fun _ _=>rfl)) (by rfl) (by first|exact .inl rfl|exact .inr rfl|assumption)) (@v0_ _ _ _ _ _ _ (@x5_ _ _ _ _ _ 4 _ _ (by exact a1Y.nd) (by exact rfl) (by first|exact Or.inl rfl|exact Or.inr rfl) (@a2g _ _ _ _ _ _ _ _ _ _ _ (by exact a2O) (by exact a2Z) (by exact rfl) (by exact T.g_tuple) (by exact a0o) (@z6_ _ _ _ _ _ _ (@x8_ _ _ _ _ (@a0G _ _ ["-0","-1","-2","-3","-4","-5","-6","-7","-8","_law_one","_law_number"] _ [false,false,false,false,false,false,false,false,false] 2 _ _ _ _ _ _ _ _ _ (by exact(a0c rfl rfl)) (by exact rfl) (@b1a _ _ _ _ _ _ _ _ _ _ (by exact rfl) (by exact T.g_zip) (@z6_ _ _ _ _ _ _ (@z3_ _ _ _ _ _ (pv 4)) (@z6_ _ _ _ _ _ _ (@z3_ _ _ _ _ _ (pv 8)) (@q1_ _ _) (by exact z2_ rfl)) (by exact z2_ rfl)) (by exact se2 rfl rfl) (by exact se1 rfl)) (fun s H fp=>(@a3T _ _ _ _ _ _ _ _ (by exact rfl) (@a0U _ _ _ _ _ _ _ (@x9_ _ _ _ _ 9 _ (by exact(show 9≤9 by decide)) (by exact nd9) (by exact rfl) (by first|exact Or.inl rfl|exact Or.inr rfl) (by first|exact .inl rfl|exact .inr rfl|assumption)) (@a0U _ _ _ _ _ _ _ (@x9_ _ _ _ _ 10 _ (by exact(show 9≤10 by decide)) (by exact nd9) (by exact rfl) (by first|exact Or.inl rfl|exact Or.inr rfl) (by first|exact .inl rfl|exact .inr rfl|assumption)) (@a3S _ _ _) (by rfl)) (by rfl)) (by rfl) (by rfl))) (fun s H fp=>(@a0W _ _)) (fun s H fp=>(@v3_ _ _ _ _ _ _ _ _ _ _ (by exact k7_) (by exact k8_) (@z3_ _ _ _ _ _ (pv 9)) (@z3_ _ _ _ _ _ (pv 10)))) (by intro _;rfl))) (@q1_ _ _) (by exact z2_ rfl)) (by decide) (by decide) (by exact z2_ rfl) (by exact q3_ rfl)) (by rfl) (by first|exact .inl rfl|exact .inr rfl|assumption)) (@v2_ _ _ _ _ (@x5_ _ _ _ _ _ 5 _ _ (by exact a1Y.nd) (by exact rfl) (by first|exact Or.inl rfl|exact Or.inr rfl) (@v3_ _ _ _ _ _ _ _ _ _ _ (by exact k7_) (by exact k8_) (@z3_ _ _ _ _ _ (pv 5)) (@x1_ _ _ _ _ _ _ (@z6_ _ _ _ _ _ _ (@z3_ _ _ _ _ _ (pv 8)) (@q1_ _ _) (by exact z2_ rfl)))) (by rfl) (by first|exact .inl rfl|exact .inr rfl|assumption)))))) (by intro _;rfl)) (@v2_ _ _ _ _ (@y4_ _ _ _ _ _ (@z3_ _ _ _ _ _ (pv 5))))))))
theorem c0g:FnScope ["_law_thing","_law_least","_law_most"] ["_law_thing","_law_least","_law_most"] (v9_ a8F):=x7_
def a9e:Mo Fl:=(v1_ (u4_ (mIs "int" (z0_ 0)) (u4_ (a5v (mIs "bool" (z0_ 0))) (a0C dLe dLe (z0_ 1) (z0_ 0) (z0_ 2)))))
def a1J:Fn:=fnM 3 a9e
theorem c0h{f:Addr}{fd:FuncData}(F:Fun K "_law_whole" "_law_whole" a8F f fd)(T:Txt K mg):FnOk P w K mg base CX0 1 f fd ["_law_thing","_law_least","_law_most"] (SpF K 3 a1J):=
 k0_ F c0g fun cdv A outer s H E hr=>(@v2_ _ _ _ _ (@y4_ _ _ _ _ _ (@a2Y _ _ _ _ _ _ _ _ (@a0h _ _ _ _ _ _ _ _ _ (by exact b0Q) (@z3_ _ _ _ _ _ (pv 0)) (by exact rfl) (by exact T.g_isinstance) (by exact rfl) (by exact T.g_int) (by exact a7w) (by decide) (by decide) (by exact se2 rfl rfl)) (@a2Y _ _ _ _ _ _ _ _ (@b0x _ _ _ _ _ (@a0h _ _ _ _ _ _ _ _ _ (by exact a5J) (@z3_ _ _ _ _ _ (pv 0)) (by exact rfl) (by exact T.g_isinstance) (by exact rfl) (by exact T.g_bool) (by exact a5P) (by decide) (by decide) (by exact se2 rfl rfl))) (@a3Q _ _ _ _ _ _ (@b5R _ _ _ _ _ _ _ _ _ _ _ _ _ _ _ (by exact a1u) (by exact a1u) (by exact a1x) (by exact a1x) (@z3_ _ _ _ _ _ (pv 1)) (@z3_ _ _ _ _ _ (pv 0)) (@z3_ _ _ _ _ _ (pv 2)) (by with_unfolding_all rfl)))))))
theorem b2k:FnScope ["_law_line","_law_some"] ["_law_line"] (v9_ a8G):=x7_
theorem c0i:(["-0","-1","_law_at"]:List Str).Nodup:=by decide+kernel
theorem c0j:(["-0","-1","_law_number"]:List Str).Nodup:=by decide+kernel
def a9f:Mo Fl:=(q2_ (u5_ 1 (y7_ (x2_ (z0_ 0)) [false,false] 1 (gN 2) (mT (z4_ (dEq true) (z0_ 2) (mC (.int 0)))) (z0_ 2))) (v1_ (u4_ (z4_ (dEq false) (z0_ 1) (mF (y7_ (j4_ (z1_ (mCB v8_ (z1_ (z0_ 1) z5_)) z5_)) [false,false] 1 (gN 2) x3_ (z4_ y0_ (mC (.int 1)) (z4_ g7_ (mC (.int 2)) (z4_ g4_ (z0_ 2) (mC (.int 2)))))))) (z4_ (dEq false) (z4_ g4_ (mCB v8_ (z1_ (z0_ 1) z5_)) (mC (.int 2))) (mC (.int 1))))))
def a1p:Fn:=fnM 2 a9f
theorem c0k{f:Addr}{fd:FuncData}(F:Fun K "_law_turns" "_law_turns" a8G f fd)(T:Txt K mg):FnOk P w K mg base CX0 1 f fd ["_law_line"] (SpF K 1 a1p):=
 k0_ F b2k fun cdv A outer s H E hr=>(@v0_ _ _ _ _ _ _ (@b6n _ _ ["-0","-1","_law_number"] _ [false,false] 1 _ _ _ _ _ _ _ _ _ 1 _ _ _ (by exact(a0c rfl rfl)) (by exact rfl) (by exact b2k.nd) (by exact rfl) (by exact rfl) (by exact rfl) (@a0b _ _ _ _ _ (@z3_ _ _ _ _ _ (pv 0))) (fun s H fp=>(@x9_ _ _ _ _ 2 _ (by exact(show 2≤2 by decide)) (by exact c0j) (by exact rfl) (by first|exact Or.inl rfl|exact Or.inr rfl) (by first|exact .inl rfl|exact .inr rfl|assumption))) (fun s H fp=>(@b0O _ _ _ _ (@a0e _ _ _ _ _ _ _ _ _ _ (by exact(op_neD hr.units)) (by exact opd_eq) (@z3_ _ _ _ _ _ (pv 2)) (@z8_ _ _ _ _ _) (by exact(nomark _))))) (fun s H fp=>(@z3_ _ _ _ _ _ (pv 2))) (by intro _;rfl)) (@v2_ _ _ _ _ (@y4_ _ _ _ _ _ (@a2Y _ _ _ _ _ _ _ _ (@a2U _ _ _ _ _ _ _ _ _ _ (by exact(op_eqD hr.units)) (by exact opd_eq) (@z3_ _ _ _ _ _ (pv 1)) (@x8_ _ _ _ _ (@a0G _ _ ["-0","-1","_law_at"] _ [false,false] 1 _ _ _ _ _ _ _ _ _ (by exact(a0c rfl rfl)) (by exact rfl) (@a2i _ _ _ _ _ _ _ (by exact rfl) (by exact T.g_range) (@z6_ _ _ _ _ _ _ (@k5_ _ _ _ _ _ _ _ _ _ _ _ (by exact j6_) (by exact j8_) (by exact rfl) (by exact T.g_len) (by exact Qi) (@z6_ _ _ _ _ _ _ (@z3_ _ _ _ _ _ (pv 1)) (@q1_ _ _) (by exact z2_ rfl)) (by decide) (by decide) (by exact z2_ rfl) (by exact q3_ rfl)) (@q1_ _ _) (by exact z2_ rfl)) (by exact se1 rfl)) (fun s H fp=>(@x9_ _ _ _ _ 2 _ (by exact(show 2≤2 by decide)) (by exact c0i) (by exact rfl) (by first|exact Or.inl rfl|exact Or.inr rfl) (by first|exact .inl rfl|exact .inr rfl|assumption))) (fun s H fp=>(@a0W _ _)) (fun s H fp=>(@v3_ _ _ _ _ _ _ _ _ _ _ (by exact u0_) (by exact u1_) (@z8_ _ _ _ _ _) (@v3_ _ _ _ _ _ _ _ _ _ _ (by exact a3g) (by exact a3h) (@z8_ _ _ _ _ _) (@v3_ _ _ _ _ _ _ _ _ _ _ (by exact a2b) (by exact a2e) (@z3_ _ _ _ _ _ (pv 2)) (@z8_ _ _ _ _ _))))) (by intro _;rfl))) (by exact(nomark _))) (@a3Q _ _ _ _ _ _ (@a2U _ _ _ _ _ _ _ _ _ _ (by exact(op_eqD hr.units)) (by exact opd_eq) (@v3_ _ _ _ _ _ _ _ _ _ _ (by exact a2b) (by exact a2e) (@k5_ _ _ _ _ _ _ _ _ _ _ _ (by exact j6_) (by exact j8_) (by exact rfl) (by exact T.g_len) (by exact Qi) (@z6_ _ _ _ _ _ _ (@z3_ _ _ _ _ _ (pv 1)) (@q1_ _ _) (by exact z2_ rfl)) (by decide) (by decide) (by exact z2_ rfl) (by exact q3_ rfl)) (@z8_ _ _ _ _ _)) (@z8_ _ _ _ _ _) (by exact(nomark _))))))))
theorem a9g:FnScope ["_law_thing","_law_row","_law_number"] ["_law_thing"] (v9_ a8H):=x7_
theorem c0l:(["_law_thing","_law_row","-2","_law_at"]:List Str).Nodup:=by decide+kernel
theorem c0m:(["-0","-1","-2","_law_at","_law_row"]:List Str).Nodup:=by decide+kernel
def a3B:Mo Fl:=(q2_ (y3_ (g5_ (y8_ (mT (mIs "tuple" (z0_ 0)))) (y8_ (mT (a0C dLe dLe (mC (.int 1)) (mCB v8_ (z1_ (z0_ 0) z5_)) (mC (.int 6)))))) (v1_ (mC (.bl false))) mNx) (q2_ (w8_ (x2_ (z0_ 0)) (gN 1) (q2_ (y3_ (g5_ (y8_ (mT (mIs "tuple" (z0_ 1)))) (mT (z4_ (dEq true) (mCB v8_ (z1_ (z0_ 1) z5_)) (mCB v8_ (z1_ (z0_ 0) z5_))))) (v1_ (mC (.bl false))) mNx) (q2_ (w8_ (x2_ (z0_ 1)) (gN 2) (y3_ (y8_ (mT (mCD 3 a1J (z7_ (z0_ 2) (z7_ (a0T (mC (.int 1))) (z7_ (mC (.int 1)) q0_)))))) (v1_ (mC (.bl false))) mNx)) (y3_ (y8_ (mT (mCD 1 a1p (z7_ (z0_ 1) q0_)))) (v1_ (mC (.bl false))) mNx)))) (v1_ (mCB a2o (z1_ (mF (y7_ (j4_ (z1_ (mCB v8_ (z1_ (z0_ 0) z5_)) z5_)) [true,true,false] 1 (gN 3) x3_ (mCD 1 a1p (z7_ (mF (y7_ (x2_ (z0_ 0)) [false,false,false,true] 1 (gN 4) x3_ (z4_ dIx (z0_ 4) (z0_ 3)))) q0_)))) z5_)))))
def a3C:Fn:=fnM 3 a3B
theorem c0n{f:Addr}{fd:FuncData}(F:Fun K "_law_is_table" "_law_is_table" a8H f fd)(T:Txt K mg)(d__law_turns:Def P w K mg base "_law_turns" 1 1 a1p)(d__law_whole:Def P w K mg base "_law_whole" 1 3 a1J):FnOk P w K mg base CX0 2 f fd ["_law_thing"] (SpF K 1 a3C):=
 k0_ F a9g fun cdv A outer s H E hr=>(@v0_ _ _ _ _ _ _ (@w6_ _ _ _ _ _ _ _ _ _ (@a2f _ _ _ _ (@a2X _ _ _ _ _ _ _ _ (@u9_ _ _ _ _ _ (@u8_ _ _ _ _ (@a0h _ _ _ _ _ _ _ _ _ (by exact a2n) (@z3_ _ _ _ _ _ (pv 0)) (by exact rfl) (by exact T.g_isinstance) (by exact rfl) (by exact T.g_tuple) (by exact a0o) (by decide) (by decide) (by exact se2 rfl rfl)) (by intro _;rfl))) (@a2W _ _ _ _ _ (@u9_ _ _ _ _ _ (@a5x _ _ _ _ _ _ _ _ _ _ _ _ _ _ _ (by exact a1u) (by exact a1u) (by exact a1x) (by exact a1x) (@z8_ _ _ _ _ _) (@k5_ _ _ _ _ _ _ _ _ _ _ _ (by exact j6_) (by exact j8_) (by exact rfl) (by exact T.g_len) (by exact Qi) (@z6_ _ _ _ _ _ _ (@z3_ _ _ _ _ _ (pv 0)) (@q1_ _ _) (by exact z2_ rfl)) (by decide) (by decide) (by exact z2_ rfl) (by exact q3_ rfl)) (@z8_ _ _ _ _ _) (by with_unfolding_all rfl)))))) (@v2_ _ _ _ _ (@y4_ _ _ _ _ _ (@g2_ _ _ _ _ _))) (@w5_ _ _)) (@v0_ _ _ _ _ _ _ (@a0E _ _ _ _ _ _ _ _ _ (by exact Zm) (by exact rfl) (@a0b _ _ _ _ _ (@z3_ _ _ _ _ _ (pv 0))) (@x9_ _ _ _ _ 1 _ (by exact(show 0≤1 by decide)) (by exact a9g.nd) (by exact rfl) (by first|exact Or.inl rfl|exact Or.inr rfl) (by first|exact .inl rfl|exact .inr rfl|assumption)) (@v0_ _ _ _ _ _ _ (@w6_ _ _ _ _ _ _ _ _ _ (@a2f _ _ _ _ (@a2X _ _ _ _ _ _ _ _ (@u9_ _ _ _ _ _ (@u8_ _ _ _ _ (@a0h _ _ _ _ _ _ _ _ _ (by exact a2n) (@z3_ _ _ _ _ _ (pv 1)) (by exact rfl) (by exact T.g_isinstance) (by exact rfl) (by exact T.g_tuple) (by exact a0o) (by decide) (by decide) (by exact se2 rfl rfl)) (by intro _;rfl))) (@a2W _ _ _ _ _ (@a0e _ _ _ _ _ _ _ _ _ _ (by exact(op_neD hr.units)) (by exact opd_eq) (@k5_ _ _ _ _ _ _ _ _ _ _ _ (by exact j6_) (by exact j8_) (by exact rfl) (by exact T.g_len) (by exact Qi) (@z6_ _ _ _ _ _ _ (@z3_ _ _ _ _ _ (pv 1)) (@q1_ _ _) (by exact z2_ rfl)) (by decide) (by decide) (by exact z2_ rfl) (by exact q3_ rfl)) (@k5_ _ _ _ _ _ _ _ _ _ _ _ (by exact j6_) (by exact j8_) (by exact rfl) (by exact T.g_len) (by exact Qi) (@z6_ _ _ _ _ _ _ (@z3_ _ _ _ _ _ (pv 0)) (@q1_ _ _) (by exact z2_ rfl)) (by decide) (by decide) (by exact z2_ rfl) (by exact q3_ rfl)) (by exact(nomark _)))))) (@v2_ _ _ _ _ (@y4_ _ _ _ _ _ (@g2_ _ _ _ _ _))) (@w5_ _ _)) (@v0_ _ _ _ _ _ _ (@a0E _ _ _ _ _ _ _ _ _ (by exact Zm) (by exact rfl) (@a0b _ _ _ _ _ (@z3_ _ _ _ _ _ (pv 1))) (@x9_ _ _ _ _ 2 _ (by exact(show 0≤2 by decide)) (by exact a9g.nd) (by exact rfl) (by first|exact Or.inl rfl|exact Or.inr rfl) (by first|exact .inl rfl|exact .inr rfl|assumption)) (@v2_ _ _ _ _ (@w6_ _ _ _ _ _ _ _ _ _ (@u9_ _ _ _ _ _ (@u8_ _ _ _ _ (@y1_ _ _ _ _ _ _ _ _ _ _ _ (by exact d__law_whole) (by exact(hr.mono (show 1≤1 by decide))) (by exact rfl) (@q7_ _ _ _ _ _ _ (@z3_ _ _ _ _ _ (pv 2)) (@q7_ _ _ _ _ _ _ (@a5w _ _ _ _ _ (@z8_ _ _ _ _ _)) (@q7_ _ _ _ _ _ _ (@z8_ _ _ _ _ _) (@v7_ _ _) (by exact z2_ rfl)) (by exact z2_ rfl)) (by exact z2_ rfl)) (by decide) (by exact z2_ rfl) (by exact q3_ rfl)) (by intro _;rfl))) (@v2_ _ _ _ _ (@y4_ _ _ _ _ _ (@g2_ _ _ _ _ _))) (@w5_ _ _))) (by intro _;rfl)) (@v2_ _ _ _ _ (@w6_ _ _ _ _ _ _ _ _ _ (@u9_ _ _ _ _ _ (@u8_ _ _ _ _ (@y1_ _ _ _ _ _ _ _ _ _ _ _ (by exact d__law_turns) (by exact(hr.mono (show 1≤1 by decide))) (by exact rfl) (@q7_ _ _ _ _ _ _ (@z3_ _ _ _ _ _ (pv 1)) (@v7_ _ _) (by exact z2_ rfl)) (by decide) (by exact z2_ rfl) (by exact q3_ rfl)) (by intro _;rfl))) (@v2_ _ _ _ _ (@y4_ _ _ _ _ _ (@g2_ _ _ _ _ _))) (@w5_ _ _))))) (by intro _;rfl)) (@v2_ _ _ _ _ (@y4_ _ _ _ _ _ (@k5_ _ _ _ _ _ _ _ _ _ _ _ (by exact(a4F rfl)) (by exact a4G) (by exact rfl) (by exact T.g_all) (by exact a4K) (@z6_ _ _ _ _ _ _ (@x8_ _ _ _ _ (@a0G _ _ ["_law_thing","_law_row","-2","_law_at"] _ [true,true,false] 1 _ _ _ _ _ _ _ _ _ (by exact(a0c rfl rfl)) (by exact rfl) (@a2i _ _ _ _ _ _ _ (by exact rfl) (by exact T.g_range) (@z6_ _ _ _ _ _ _ (@k5_ _ _ _ _ _ _ _ _ _ _ _ (by exact j6_) (by exact j8_) (by exact rfl) (by exact T.g_len) (by exact Qi) (@z6_ _ _ _ _ _ _ (@z3_ _ _ _ _ _ (pv 0)) (@q1_ _ _) (by exact z2_ rfl)) (by decide) (by decide) (by exact z2_ rfl) (by exact q3_ rfl)) (@q1_ _ _) (by exact z2_ rfl)) (by exact se1 rfl)) (fun s H fp=>(@x9_ _ _ _ _ 3 _ (by exact(show 3≤3 by decide)) (by exact c0l) (by exact rfl) (by first|exact Or.inl rfl|exact Or.inr rfl) (by first|exact .inl rfl|exact .inr rfl|assumption))) (fun s H fp=>(@a0W _ _)) (fun s H fp=>(@y1_ _ _ _ _ _ _ _ _ _ _ _ (by exact d__law_turns) (by exact(hr.mono (show 1≤1 by decide))) (by exact rfl) (@q7_ _ _ _ _ _ _ (@x8_ _ _ _ _ (@a0G _ _ ["-0","-1","-2","_law_at","_law_row"] _ [false,false,false,true] 1 _ _ _ _ _ _ _ _ _ (by exact(a0c rfl rfl)) (by exact rfl) (@a0b _ _ _ _ _ (@z3_ _ _ _ _ _ (pv 0))) (fun s H fp=>(@x9_ _ _ _ _ 4 _ (by exact(show 4≤4 by decide)) (by exact c0m) (by exact rfl) (by first|exact Or.inl rfl|exact Or.inr rfl) (by first|exact .inl rfl|exact .inr rfl|assumption))) (fun s H fp=>(@a0W _ _)) (fun s H fp=>(@a0f _ _ _ _ _ _ _ (@z3_ _ _ _ _ _ (pv 4)) (@z3_ _ _ _ _ _ (pv 3)) (fun _ _=>rfl))) (by intro _;rfl))) (@v7_ _ _) (by exact z2_ rfl)) (by decide) (by exact z2_ rfl) (by exact q3_ rfl))) (by intro _;rfl))) (@q1_ _ _) (by exact z2_ rfl)) (by decide) (by decide) (by exact z2_ rfl) (by exact q3_ rfl))))))
theorem a1q:FnScope ["_law_state_here","_law_table_here","_law_at","_law_row","_law_k","_law_odd","_law_to","_law_rows","_law_one","_law_some","_law_swapped"] ["_law_state_here","_law_table_here"] (v9_ a8I):=x7_
def a9h:Mo Fl:=(q2_ (q8_ 2 (mCD 2 k2_ (x0_ 0 (z7_ (mCB v8_ (z1_ (z0_ 1) z5_)) q0_)))) (q2_ (q8_ 3 (z4_ dIx (z0_ 1) (z0_ 2))) (q2_ (q8_ 4 (mCD 2 k2_ (x0_ 0 (z7_ (z4_ v5_ (mCB v8_ (z1_ (z0_ 3) z5_)) (mC (.int 1))) q0_)))) (q2_ (q8_ 5 (z4_ dIx (mF (x4_ (z1_ (mC (.int 0)) (z1_ (mC (.int 1)) (z1_ (a0T (mC (.int 1))) (z1_ (mC (.int 2)) (z1_ (mC (.bl true)) (z1_ (mC .non) (z1_ (mC (.str "1")) (z1_ (q9_ (z1_ (mC (.int 1)) z5_)) (z1_ (z4_ a1g (mC (.int 10)) (mC (.int 29))) (z1_ (mC (.bl false)) (z1_ (mC (.int 3)) z5_))))))))))))) (mCD 2 k2_ (x0_ 0 (z7_ (mC (.int 11)) q0_))))) (q2_ (q8_ 6 (mCD 2 k2_ (x0_ 0 (z7_ (mCB v8_ (z1_ (z0_ 1) z5_)) q0_)))) (q2_ (q8_ 7 (mF (x4_ (z1_ (z4_ v5_ (z4_ v5_ (mSl (z0_ 3) k3_ (k4_ (z0_ 4))) (q9_ (z1_ (z0_ 5) z5_))) (mSl (z0_ 3) (k4_ (z4_ v5_ (z0_ 4) (mC (.int 1)))) k3_)) (z1_ (z4_ v5_ (z4_ v5_ (mSl (z0_ 3) k3_ (k4_ (z0_ 4))) (q9_ (z1_ (z0_ 5) z5_))) (mSl (z0_ 3) (k4_ (z0_ 4)) k3_)) (z1_ (z4_ v5_ (mSl (z0_ 3) k3_ (k4_ (z0_ 4))) (mSl (z0_ 3) (k4_ (z4_ v5_ (z0_ 4) (mC (.int 1)))) k3_)) (z1_ (mF (mCL a3a (z1_ (z0_ 3) z5_))) (z1_ (a1j (z0_ 3)) z5_)))))))) (q2_ (q8_ 8 (z4_ dIx (z0_ 7) (z4_ dIx (mF (x4_ (z1_ (mC (.int 0)) (z1_ (mC (.int 0)) (z1_ (mC (.int 0)) (z1_ (mC (.int 0)) (z1_ (mC (.int 0)) (z1_ (mC (.int 1)) (z1_ (mC (.int 2)) (z1_ (mC (.int 3)) (z1_ (mC (.int 4)) z5_))))))))))) (mCD 2 k2_ (x0_ 0 (z7_ (mC (.int 9)) q0_)))))) (q2_ (q8_ 9 (mF (x4_ (z1_ (z4_ v5_ (z4_ v5_ (mSl (z0_ 1) k3_ (k4_ (z0_ 2))) (q9_ (z1_ (z0_ 8) z5_))) (mSl (z0_ 1) (k4_ (z4_ v5_ (z0_ 2) (mC (.int 1)))) k3_)) (z1_ (z4_ v5_ (z4_ v5_ (mSl (z0_ 1) k3_ (k4_ (z0_ 2))) (q9_ (z1_ (z0_ 3) z5_))) (mSl (z0_ 1) (k4_ (z0_ 2)) k3_)) (z1_ (z4_ v5_ (mSl (z0_ 1) k3_ (k4_ (z0_ 2))) (mSl (z0_ 1) (k4_ (z4_ v5_ (z0_ 2) (mC (.int 1)))) k3_)) z5_)))))) (q2_ (u5_ 10 (mCL a3a (z1_ (z0_ 1) z5_))) (q2_ (a0g (q9_ (z1_ (w7_ 10 (z0_ 6)) (z1_ (w7_ 10 (z0_ 2)) z5_))) (gT 2 (gCn (gS 10 (z0_ 2)) (gCn (gS 10 (z0_ 6)) gNl)))) (q2_ (q8_ 9 (mF (a2p (z0_ 9) (mF (x4_ (z1_ (mCB a0k (z1_ (z0_ 10) z5_)) (z1_ (mF (mCL a3a (z1_ (z0_ 1) z5_))) (z1_ (mC .non) (z1_ (mC .emp) (z1_ (q9_ (z1_ (z0_ 1) z5_)) (z1_ (z0_ 5) (z1_ (a1j (z0_ 1)) z5_)))))))))))) (v1_ (z4_ dIx (z0_ 9) (z4_ dIx (mF (x4_ (z1_ (mC (.int 0)) (z1_ (mC (.int 0)) (z1_ (mC (.int 0)) (z1_ (mC (.int 0)) (z1_ (mC (.int 0)) (z1_ (mC (.int 1)) (z1_ (mC (.int 2)) (z1_ (mC (.int 3)) (z1_ (mC (.int 3)) (z1_ (mC (.int 4)) (z1_ (mC (.int 5)) (z1_ (mC (.int 6)) (z1_ (mC (.int 7)) (z1_ (mC (.int 8)) (z1_ (mC (.int 9)) z5_))))))))))))))))) (mCD 2 k2_ (x0_ 0 (z7_ (mC (.int 15)) q0_)))))))))))))))))
def a2F:Fn:=fnM 11 a9h
theorem c0o{f:Addr}{fd:FuncData}(F:Fun K "_law_bent" "_law_bent" a8I f fd)(T:Txt K mg)(d__law_take:Def P w K mg base "_law_take" 1 2 k2_):FnOk P w K mg base CX0 2 f fd ["_law_state_here","_law_table_here"] (SpF K 2 a2F):=
 k0_ F a1q fun cdv A outer s H E hr=>(@v0_ _ _ _ _ _ _ (@x5_ _ _ _ _ _ 2 _ _ (by exact a1q.nd) (by exact rfl) (by first|exact Or.inl rfl|exact Or.inr rfl) (@y1_ _ _ _ _ _ _ _ _ _ _ _ (by exact d__law_take) (by exact(hr.mono (show 1≤1 by decide))) (by exact rfl) (@a0a _ _ _ _ _ _ _ (pv 0) (@q7_ _ _ _ _ _ _ (@k5_ _ _ _ _ _ _ _ _ _ _ _ (by exact j6_) (by exact j8_) (by exact rfl) (by exact T.g_len) (by exact Qi) (@z6_ _ _ _ _ _ _ (@z3_ _ _ _ _ _ (pv 1)) (@q1_ _ _) (by exact z2_ rfl)) (by decide) (by decide) (by exact z2_ rfl) (by exact q3_ rfl)) (@v7_ _ _) (by exact z2_ rfl)) (by exact z2_ rfl)) (by decide) (by exact z2_ rfl) (by exact q3_ rfl)) (by rfl) (by first|exact .inl rfl|exact .inr rfl|assumption)) (@v0_ _ _ _ _ _ _ (@x5_ _ _ _ _ _ 3 _ _ (by exact a1q.nd) (by exact rfl) (by first|exact Or.inl rfl|exact Or.inr rfl) (@a0f _ _ _ _ _ _ _ (@z3_ _ _ _ _ _ (pv 1)) (@z3_ _ _ _ _ _ (pv 2)) (fun _ _=>rfl)) (by rfl) (by first|exact .inl rfl|exact .inr rfl|assumption)) (@v0_ _ _ _ _ _ _ (@x5_ _ _ _ _ _ 4 _ _ (by exact a1q.nd) (by exact rfl) (by first|exact Or.inl rfl|exact Or.inr rfl) (@y1_ _ _ _ _ _ _ _ _ _ _ _ (by exact d__law_take) (by exact(hr.mono (show 1≤1 by decide))) (by exact rfl) (@a0a _ _ _ _ _ _ _ (pv 0) (@q7_ _ _ _ _ _ _ (@v3_ _ _ _ _ _ _ _ _ _ _ (by exact k7_) (by exact k8_) (@k5_ _ _ _ _ _ _ _ _ _ _ _ (by exact j6_) (by exact j8_) (by exact rfl) (by exact T.g_len) (by exact Qi) (@z6_ _ _ _ _ _ _ (@z3_ _ _ _ _ _ (pv 3)) (@q1_ _ _) (by exact z2_ rfl)) (by decide) (by decide) (by exact z2_ rfl) (by exact q3_ rfl)) (@z8_ _ _ _ _ _)) (@v7_ _ _) (by exact z2_ rfl)) (by exact z2_ rfl)) (by decide) (by exact z2_ rfl) (by exact q3_ rfl)) (by rfl) (by first|exact .inl rfl|exact .inr rfl|assumption)) (@v0_ _ _ _ _ _ _ (@x5_ _ _ _ _ _ 5 _ _ (by exact a1q.nd) (by exact rfl) (by first|exact Or.inl rfl|exact Or.inr rfl) (@a0f _ _ _ _ _ _ _ (@x8_ _ _ _ _ (@j7_ _ _ _ _ _ (@z6_ _ _ _ _ _ _ (@z8_ _ _ _ _ _) (@z6_ _ _ _ _ _ _ (@z8_ _ _ _ _ _) (@z6_ _ _ _ _ _ _ (@a5w _ _ _ _ _ (@z8_ _ _ _ _ _)) (@z6_ _ _ _ _ _ _ (@z8_ _ _ _ _ _) (@z6_ _ _ _ _ _ _ (@g2_ _ _ _ _ _) (@z6_ _ _ _ _ _ _ (@a3P _ _ _ _) (@z6_ _ _ _ _ _ _ (@g3_ _ _ _ _ _ (by decide)) (@z6_ _ _ _ _ _ _ (@x1_ _ _ _ _ _ _ (@z6_ _ _ _ _ _ _ (@z8_ _ _ _ _ _) (@q1_ _ _) (by exact z2_ rfl))) (@z6_ _ _ _ _ _ _ (@v3_ _ _ _ _ _ _ _ _ _ _ (by exact a6D) (by exact a6S) (@z8_ _ _ _ _ _) (@z8_ _ _ _ _ _)) (@z6_ _ _ _ _ _ _ (@g2_ _ _ _ _ _) (@z6_ _ _ _ _ _ _ (@z8_ _ _ _ _ _) (@q1_ _ _) (by exact z2_ rfl)) (by exact z2_ rfl)) (by exact z2_ rfl)) (by exact z2_ rfl)) (by exact z2_ rfl)) (by exact z2_ rfl)) (by exact z2_ rfl)) (by exact z2_ rfl)) (by exact z2_ rfl)) (by exact z2_ rfl)) (by exact z2_ rfl)))) (@y1_ _ _ _ _ _ _ _ _ _ _ _ (by exact d__law_take) (by exact(hr.mono (show 1≤1 by decide))) (by exact rfl) (@a0a _ _ _ _ _ _ _ (pv 0) (@q7_ _ _ _ _ _ _ (@z8_ _ _ _ _ _) (@v7_ _ _) (by exact z2_ rfl)) (by exact z2_ rfl)) (by decide) (by exact z2_ rfl) (by exact q3_ rfl)) (fun _ _=>rfl)) (by rfl) (by first|exact .inl rfl|exact .inr rfl|assumption)) (@v0_ _ _ _ _ _ _ (@x5_ _ _ _ _ _ 6 _ _ (by exact a1q.nd) (by exact rfl) (by first|exact Or.inl rfl|exact Or.inr rfl) (@y1_ _ _ _ _ _ _ _ _ _ _ _ (by exact d__law_take) (by exact(hr.mono (show 1≤1 by decide))) (by exact rfl) (@a0a _ _ _ _ _ _ _ (pv 0) (@q7_ _ _ _ _ _ _ (@k5_ _ _ _ _ _ _ _ _ _ _ _ (by exact j6_) (by exact j8_) (by exact rfl) (by exact T.g_len) (by exact Qi) (@z6_ _ _ _ _ _ _ (@z3_ _ _ _ _ _ (pv 1)) (@q1_ _ _) (by exact z2_ rfl)) (by decide) (by decide) (by exact z2_ rfl) (by exact q3_ rfl)) (@v7_ _ _) (by exact z2_ rfl)) (by exact z2_ rfl)) (by decide) (by exact z2_ rfl) (by exact q3_ rfl)) (by rfl) (by first|exact .inl rfl|exact .inr rfl|assumption)) (@v0_ _ _ _ _ _ _ (@x5_ _ _ _ _ _ 7 _ _ (by exact a1q.nd) (by exact rfl) (by first|exact Or.inl rfl|exact Or.inr rfl) (@x8_ _ _ _ _ (@j7_ _ _ _ _ _ (@z6_ _ _ _ _ _ _ (@v3_ _ _ _ _ _ _ _ _ _ _ (by exact k7_) (by exact k8_) (@v3_ _ _ _ _ _ _ _ _ _ _ (by exact k7_) (by exact k8_) (@a0X _ _ _ _ _ _ _ _ _ _ (@z3_ _ _ _ _ _ (pv 3)) (@a0u _ _) (@a0v _ _ _ _ (@z3_ _ _ _ _ _ (pv 4)))) (@x1_ _ _ _ _ _ _ (@z6_ _ _ _ _ _ _ (@z3_ _ _ _ _ _ (pv 5)) (@q1_ _ _) (by exact z2_ rfl)))) (@a0X _ _ _ _ _ _ _ _ _ _ (@z3_ _ _ _ _ _ (pv 3)) (@a0v _ _ _ _ (@v3_ _ _ _ _ _ _ _ _ _ _ (by exact k7_) (by exact k8_) (@z3_ _ _ _ _ _ (pv 4)) (@z8_ _ _ _ _ _))) (@a0u _ _))) (@z6_ _ _ _ _ _ _ (@v3_ _ _ _ _ _ _ _ _ _ _ (by exact k7_) (by exact k8_) (@v3_ _ _ _ _ _ _ _ _ _ _ (by exact k7_) (by exact k8_) (@a0X _ _ _ _ _ _ _ _ _ _ (@z3_ _ _ _ _ _ (pv 3)) (@a0u _ _) (@a0v _ _ _ _ (@z3_ _ _ _ _ _ (pv 4)))) (@x1_ _ _ _ _ _ _ (@z6_ _ _ _ _ _ _ (@z3_ _ _ _ _ _ (pv 5)) (@q1_ _ _) (by exact z2_ rfl)))) (@a0X _ _ _ _ _ _ _ _ _ _ (@z3_ _ _ _ _ _ (pv 3)) (@a0v _ _ _ _ (@z3_ _ _ _ _ _ (pv 4))) (@a0u _ _))) (@z6_ _ _ _ _ _ _ (@v3_ _ _ _ _ _ _ _ _ _ _ (by exact k7_) (by exact k8_) (@a0X _ _ _ _ _ _ _ _ _ _ (@z3_ _ _ _ _ _ (pv 3)) (@a0u _ _) (@a0v _ _ _ _ (@z3_ _ _ _ _ _ (pv 4)))) (@a0X _ _ _ _ _ _ _ _ _ _ (@z3_ _ _ _ _ _ (pv 3)) (@a0v _ _ _ _ (@v3_ _ _ _ _ _ _ _ _ _ _ (by exact k7_) (by exact k8_) (@z3_ _ _ _ _ _ (pv 4)) (@z8_ _ _ _ _ _))) (@a0u _ _))) (@z6_ _ _ _ _ _ _ (@x8_ _ _ _ _ (@a6W _ _ _ _ _ _ _ _ _ _ _ (by exact a6P) (by exact a6Z) (by exact rfl) (by exact T.g_list) (by exact a4a) (@z6_ _ _ _ _ _ _ (@z3_ _ _ _ _ _ (pv 3)) (@q1_ _ _) (by exact z2_ rfl)) (by decide) (by decide) (by exact z2_ rfl) (by exact q3_ rfl))) (@z6_ _ _ _ _ _ _ (@a4H _ _ _ _ _ _ _ (@z3_ _ _ _ _ _ (pv 3)) (by exact a4I)) (@q1_ _ _) (by exact z2_ rfl)) (by exact z2_ rfl)) (by exact z2_ rfl)) (by exact z2_ rfl)) (by exact z2_ rfl)))) (by rfl) (by first|exact .inl rfl|exact .inr rfl|assumption)) (@v0_ _ _ _ _ _ _ (@x5_ _ _ _ _ _ 8 _ _ (by exact a1q.nd) (by exact rfl) (by first|exact Or.inl rfl|exact Or.inr rfl) (@a0f _ _ _ _ _ _ _ (@z3_ _ _ _ _ _ (pv 7)) (@a0f _ _ _ _ _ _ _ (@x8_ _ _ _ _ (@j7_ _ _ _ _ _ (@z6_ _ _ _ _ _ _ (@z8_ _ _ _ _ _) (@z6_ _ _ _ _ _ _ (@z8_ _ _ _ _ _) (@z6_ _ _ _ _ _ _ (@z8_ _ _ _ _ _) (@z6_ _ _ _ _ _ _ (@z8_ _ _ _ _ _) (@z6_ _ _ _ _ _ _ (@z8_ _ _ _ _ _) (@z6_ _ _ _ _ _ _ (@z8_ _ _ _ _ _) (@z6_ _ _ _ _ _ _ (@z8_ _ _ _ _ _) (@z6_ _ _ _ _ _ _ (@z8_ _ _ _ _ _) (@z6_ _ _ _ _ _ _ (@z8_ _ _ _ _ _) (@q1_ _ _) (by exact z2_ rfl)) (by exact z2_ rfl)) (by exact z2_ rfl)) (by exact z2_ rfl)) (by exact z2_ rfl)) (by exact z2_ rfl)) (by exact z2_ rfl)) (by exact z2_ rfl)) (by exact z2_ rfl)))) (@y1_ _ _ _ _ _ _ _ _ _ _ _ (by exact d__law_take) (by exact(hr.mono (show 1≤1 by decide))) (by exact rfl) (@a0a _ _ _ _ _ _ _ (pv 0) (@q7_ _ _ _ _ _ _ (@z8_ _ _ _ _ _) (@v7_ _ _) (by exact z2_ rfl)) (by exact z2_ rfl)) (by decide) (by exact z2_ rfl) (by exact q3_ rfl)) (fun _ _=>rfl)) (fun _ _=>rfl)) (by rfl) (by first|exact .inl rfl|exact .inr rfl|assumption)) (@v0_ _ _ _ _ _ _ (@x5_ _ _ _ _ _ 9 _ _ (by exact a1q.nd) (by exact rfl) (by first|exact Or.inl rfl|exact Or.inr rfl) (@x8_ _ _ _ _ (@j7_ _ _ _ _ _ (@z6_ _ _ _ _ _ _ (@v3_ _ _ _ _ _ _ _ _ _ _ (by exact k7_) (by exact k8_) (@v3_ _ _ _ _ _ _ _ _ _ _ (by exact k7_) (by exact k8_) (@a0X _ _ _ _ _ _ _ _ _ _ (@z3_ _ _ _ _ _ (pv 1)) (@a0u _ _) (@a0v _ _ _ _ (@z3_ _ _ _ _ _ (pv 2)))) (@x1_ _ _ _ _ _ _ (@z6_ _ _ _ _ _ _ (@z3_ _ _ _ _ _ (pv 8)) (@q1_ _ _) (by exact z2_ rfl)))) (@a0X _ _ _ _ _ _ _ _ _ _ (@z3_ _ _ _ _ _ (pv 1)) (@a0v _ _ _ _ (@v3_ _ _ _ _ _ _ _ _ _ _ (by exact k7_) (by exact k8_) (@z3_ _ _ _ _ _ (pv 2)) (@z8_ _ _ _ _ _))) (@a0u _ _))) (@z6_ _ _ _ _ _ _ (@v3_ _ _ _ _ _ _ _ _ _ _ (by exact k7_) (by exact k8_) (@v3_ _ _ _ _ _ _ _ _ _ _ (by exact k7_) (by exact k8_) (@a0X _ _ _ _ _ _ _ _ _ _ (@z3_ _ _ _ _ _ (pv 1)) (@a0u _ _) (@a0v _ _ _ _ (@z3_ _ _ _ _ _ (pv 2)))) (@x1_ _ _ _ _ _ _ (@z6_ _ _ _ _ _ _ (@z3_ _ _ _ _ _ (pv 3)) (@q1_ _ _) (by exact z2_ rfl)))) (@a0X _ _ _ _ _ _ _ _ _ _ (@z3_ _ _ _ _ _ (pv 1)) (@a0v _ _ _ _ (@z3_ _ _ _ _ _ (pv 2))) (@a0u _ _))) (@z6_ _ _ _ _ _ _ (@v3_ _ _ _ _ _ _ _ _ _ _ (by exact k7_) (by exact k8_) (@a0X _ _ _ _ _ _ _ _ _ _ (@z3_ _ _ _ _ _ (pv 1)) (@a0u _ _) (@a0v _ _ _ _ (@z3_ _ _ _ _ _ (pv 2)))) (@a0X _ _ _ _ _ _ _ _ _ _ (@z3_ _ _ _ _ _ (pv 1)) (@a0v _ _ _ _ (@v3_ _ _ _ _ _ _ _ _ _ _ (by exact k7_) (by exact k8_) (@z3_ _ _ _ _ _ (pv 2)) (@z8_ _ _ _ _ _))) (@a0u _ _))) (@q1_ _ _) (by exact z2_ rfl)) (by exact z2_ rfl)) (by exact z2_ rfl)))) (by rfl) (by first|exact .inl rfl|exact .inr rfl|assumption)) (@v0_ _ _ _ _ _ _ (@a1P _ _ _ _ _ 10 _ _ (by exact a1q.nd) (by exact rfl) (by first|exact Or.inl rfl|exact Or.inr rfl) (@a6W _ _ _ _ _ _ _ _ _ _ _ (by exact a6P) (by exact a6Z) (by exact rfl) (by exact T.g_list) (by exact a4a) (@z6_ _ _ _ _ _ _ (@z3_ _ _ _ _ _ (pv 1)) (@q1_ _ _) (by exact z2_ rfl)) (by decide) (by decide) (by exact z2_ rfl) (by exact q3_ rfl)) (by rfl) (by first|exact .inl rfl|exact .inr rfl|assumption)) (@v0_ _ _ _ _ _ _ (@a5C _ _ _ _ _ _ _ (@x1_ _ _ _ _ _ _ (@z6_ _ _ _ _ _ _ (@a1O _ _ _ _ _ _ _ _ (pv 10) (@z3_ _ _ _ _ _ (pv 6)) (fun _ _=>rfl) (by exact(b1l (by decide)))) (@z6_ _ _ _ _ _ _ (@a1O _ _ _ _ _ _ _ _ (pv 10) (@z3_ _ _ _ _ _ (pv 2)) (fun _ _=>rfl) (by exact(b1l (by decide)))) (@q1_ _ _) (by exact z2_ rfl)) (by exact z2_ rfl))) (@a3T _ _ _ _ _ _ _ _ (by exact rfl) (@a0U _ _ _ _ _ _ _ (@a5B _ _ _ _ _ _ _ _ _ (pv 10) (@z3_ _ _ _ _ _ (pv 2)) (by intro _;rfl)) (@a0U _ _ _ _ _ _ _ (@a5B _ _ _ _ _ _ _ _ _ (pv 10) (@z3_ _ _ _ _ _ (pv 6)) (by intro _;rfl)) (@a3S _ _ _) (by rfl)) (by rfl)) (by rfl) (by rfl)) (by rfl) (by rfl) (by rfl)) (@v0_ _ _ _ _ _ _ (@x5_ _ _ _ _ _ 9 _ _ (by exact a1q.nd) (by exact rfl) (by first|exact Or.inl rfl|exact Or.inr rfl) (@x8_ _ _ _ _ (@a5M _ _ _ _ _ _ _ (@z3_ _ _ _ _ _ (pv 9)) (@x8_ _ _ _ _ (@j7_ _ _ _ _ _ (@z6_ _ _ _ _ _ _ (@a2g _ _ _ _ _ _ _ _ _ _ _ (by exact a2O) (by exact a2Z) (by exact rfl) (by exact T.g_tuple) (by exact a0o) (@z6_ _ _ _ _ _ _ (@z3_ _ _ _ _ _ (pv 10)) (@q1_ _ _) (by exact z2_ rfl)) (by decide) (by decide) (by exact z2_ rfl) (by exact q3_ rfl)) (@z6_ _ _ _ _ _ _ (@x8_ _ _ _ _ (@a6W _ _ _ _ _ _ _ _ _ _ _ (by exact a6P) (by exact a6Z) (by exact rfl) (by exact T.g_list) (by exact a4a) (@z6_ _ _ _ _ _ _ (@z3_ _ _ _ _ _ (pv 1)) (@q1_ _ _) (by exact z2_ rfl)) (by decide) (by decide) (by exact z2_ rfl) (by exact q3_ rfl))) (@z6_ _ _ _ _ _ _ (@a3P _ _ _ _) (@z6_ _ _ _ _ _ _ (@b7h _ _ _) (@z6_ _ _ _ _ _ _ (@x1_ _ _ _ _ _ _ (@z6_ _ _ _ _ _ _ (@z3_ _ _ _ _ _ (pv 1)) (@q1_ _ _) (by exact z2_ rfl))) (@z6_ _ _ _ _ _ _ (@z3_ _ _ _ _ _ (pv 5)) (@z6_ _ _ _ _ _ _ (@a4H _ _ _ _ _ _ _ (@z3_ _ _ _ _ _ (pv 1)) (by exact a4I)) (@q1_ _ _) (by exact z2_ rfl)) (by exact z2_ rfl)) (by exact z2_ rfl)) (by exact z2_ rfl)) (by exact z2_ rfl)) (by exact z2_ rfl)) (by exact z2_ rfl)))))) (by rfl) (by first|exact .inl rfl|exact .inr rfl|assumption)) (@v2_ _ _ _ _ (@y4_ _ _ _ _ _ (@a0f _ _ _ _ _ _ _ (@z3_ _ _ _ _ _ (pv 9)) (@a0f _ _ _ _ _ _ _ (@x8_ _ _ _ _ (@j7_ _ _ _ _ _ (@z6_ _ _ _ _ _ _ (@z8_ _ _ _ _ _) (@z6_ _ _ _ _ _ _ (@z8_ _ _ _ _ _) (@z6_ _ _ _ _ _ _ (@z8_ _ _ _ _ _) (@z6_ _ _ _ _ _ _ (@z8_ _ _ _ _ _) (@z6_ _ _ _ _ _ _ (@z8_ _ _ _ _ _) (@z6_ _ _ _ _ _ _ (@z8_ _ _ _ _ _) (@z6_ _ _ _ _ _ _ (@z8_ _ _ _ _ _) (@z6_ _ _ _ _ _ _ (@z8_ _ _ _ _ _) (@z6_ _ _ _ _ _ _ (@z8_ _ _ _ _ _) (@z6_ _ _ _ _ _ _ (@z8_ _ _ _ _ _) (@z6_ _ _ _ _ _ _ (@z8_ _ _ _ _ _) (@z6_ _ _ _ _ _ _ (@z8_ _ _ _ _ _) (@z6_ _ _ _ _ _ _ (@z8_ _ _ _ _ _) (@z6_ _ _ _ _ _ _ (@z8_ _ _ _ _ _) (@z6_ _ _ _ _ _ _ (@z8_ _ _ _ _ _) (@q1_ _ _) (by exact z2_ rfl)) (by exact z2_ rfl)) (by exact z2_ rfl)) (by exact z2_ rfl)) (by exact z2_ rfl)) (by exact z2_ rfl)) (by exact z2_ rfl)) (by exact z2_ rfl)) (by exact z2_ rfl)) (by exact z2_ rfl)) (by exact z2_ rfl)) (by exact z2_ rfl)) (by exact z2_ rfl)) (by exact z2_ rfl)) (by exact z2_ rfl)))) (@y1_ _ _ _ _ _ _ _ _ _ _ _ (by exact d__law_take) (by exact(hr.mono (show 1≤1 by decide))) (by exact rfl) (@a0a _ _ _ _ _ _ _ (pv 0) (@q7_ _ _ _ _ _ _ (@z8_ _ _ _ _ _) (@v7_ _ _) (by exact z2_ rfl)) (by exact z2_ rfl)) (by decide) (by exact z2_ rfl) (by exact q3_ rfl)) (fun _ _=>rfl)) (fun _ _=>rfl)))))))))))))))
theorem a9i:FnScope ["_law_state_here","_law_turn","_law_thing"] ["_law_state_here"] (v9_ a8J):=x7_
def a5b:Mo Fl:=(q2_ (w8_ (j4_ (z1_ (mC (.int 8)) z5_)) (gN 1) (q2_ (q8_ 2 (mCD 2 a2F (x0_ 0 (z7_ (mCD 3 a1o (x0_ 0 (z7_ (mC (.int 1)) (z7_ (mC (.int 6)) q0_)))) q0_)))) (y3_ (y8_ (mT (mCD 1 a3C (z7_ (z0_ 2) q0_)))) (v1_ (z0_ 2)) mNx))) (v1_ (z4_ dIx (mF (x4_ (z1_ (mC .non) (z1_ (q9_ z5_) (z1_ (q9_ (z1_ (q9_ (z1_ (mC (.int 0)) z5_)) z5_)) (z1_ (q9_ (z1_ (q9_ (z1_ (mC (.int 1)) (z1_ (mC (.int 0)) z5_))) (z1_ (q9_ (z1_ (mC (.int 1)) (z1_ (mC (.int 0)) z5_))) z5_))) z5_)))))) (mCD 2 k2_ (x0_ 0 (z7_ (mC (.int 4)) q0_))))))
def a4m:Fn:=fnM 3 a5b
theorem c0p{f:Addr}{fd:FuncData}(F:Fun K "_law_no_table" "_law_no_table" a8J f fd)(T:Txt K mg)(d__law_bent:Def P w K mg base "_law_bent" 2 2 a2F)(d__law_take:Def P w K mg base "_law_take" 1 2 k2_)(d__law_table:Def P w K mg base "_law_table" 2 3 a1o)(d__law_is_table:Def P w K mg base "_law_is_table" 2 1 a3C):FnOk P w K mg base CX0 3 f fd ["_law_state_here"] (SpF K 1 a4m):=
 k0_ F a9i fun cdv A outer s H E hr=>(@v0_ _ _ _ _ _ _ (@a0E _ _ _ _ _ _ _ _ _ (by exact Zm) (by exact rfl) (@a2i _ _ _ _ _ _ _ (by exact rfl) (by exact T.g_range) (@z6_ _ _ _ _ _ _ (@z8_ _ _ _ _ _) (@q1_ _ _) (by exact z2_ rfl)) (by exact se1 rfl)) (@x9_ _ _ _ _ 1 _ (by exact(show 0≤1 by decide)) (by exact a9i.nd) (by exact rfl) (by first|exact Or.inl rfl|exact Or.inr rfl) (by first|exact .inl rfl|exact .inr rfl|assumption)) (@v0_ _ _ _ _ _ _ (@x5_ _ _ _ _ _ 2 _ _ (by exact a9i.nd) (by exact rfl) (by first|exact Or.inl rfl|exact Or.inr rfl) (@y1_ _ _ _ _ _ _ _ _ _ _ _ (by exact d__law_bent) (by exact(hr.mono (show 2≤2 by decide))) (by exact rfl) (@a0a _ _ _ _ _ _ _ (pv 0) (@q7_ _ _ _ _ _ _ (@y1_ _ _ _ _ _ _ _ _ _ _ _ (by exact d__law_table) (by exact(hr.mono (show 2≤2 by decide))) (by exact rfl) (@a0a _ _ _ _ _ _ _ (pv 0) (@q7_ _ _ _ _ _ _ (@z8_ _ _ _ _ _) (@q7_ _ _ _ _ _ _ (@z8_ _ _ _ _ _) (@v7_ _ _) (by exact z2_ rfl)) (by exact z2_ rfl)) (by exact z2_ rfl)) (by decide) (by exact z2_ rfl) (by exact q3_ rfl)) (@v7_ _ _) (by exact z2_ rfl)) (by exact z2_ rfl)) (by decide) (by exact z2_ rfl) (by exact q3_ rfl)) (by rfl) (by first|exact .inl rfl|exact .inr rfl|assumption)) (@v2_ _ _ _ _ (@w6_ _ _ _ _ _ _ _ _ _ (@u9_ _ _ _ _ _ (@u8_ _ _ _ _ (@y1_ _ _ _ _ _ _ _ _ _ _ _ (by exact d__law_is_table) (by exact(hr.mono (show 2≤2 by decide))) (by exact rfl) (@q7_ _ _ _ _ _ _ (@z3_ _ _ _ _ _ (pv 2)) (@v7_ _ _) (by exact z2_ rfl)) (by decide) (by exact z2_ rfl) (by exact q3_ rfl)) (by intro _;rfl))) (@v2_ _ _ _ _ (@y4_ _ _ _ _ _ (@z3_ _ _ _ _ _ (pv 2)))) (@w5_ _ _)))) (by intro _;rfl)) (@v2_ _ _ _ _ (@y4_ _ _ _ _ _ (@a0f _ _ _ _ _ _ _ (@x8_ _ _ _ _ (@j7_ _ _ _ _ _ (@z6_ _ _ _ _ _ _ (@a3P _ _ _ _) (@z6_ _ _ _ _ _ _ (@x1_ _ _ _ _ _ _ (@q1_ _ _)) (@z6_ _ _ _ _ _ _ (@x1_ _ _ _ _ _ _ (@z6_ _ _ _ _ _ _ (@x1_ _ _ _ _ _ _ (@z6_ _ _ _ _ _ _ (@z8_ _ _ _ _ _) (@q1_ _ _) (by exact z2_ rfl))) (@q1_ _ _) (by exact z2_ rfl))) (@z6_ _ _ _ _ _ _ (@x1_ _ _ _ _ _ _ (@z6_ _ _ _ _ _ _ (@x1_ _ _ _ _ _ _ (@z6_ _ _ _ _ _ _ (@z8_ _ _ _ _ _) (@z6_ _ _ _ _ _ _ (@z8_ _ _ _ _ _) (@q1_ _ _) (by exact z2_ rfl)) (by exact z2_ rfl))) (@z6_ _ _ _ _ _ _ (@x1_ _ _ _ _ _ _ (@z6_ _ _ _ _ _ _ (@z8_ _ _ _ _ _) (@z6_ _ _ _ _ _ _ (@z8_ _ _ _ _ _) (@q1_ _ _) (by exact z2_ rfl)) (by exact z2_ rfl))) (@q1_ _ _) (by exact z2_ rfl)) (by exact z2_ rfl))) (@q1_ _ _) (by exact z2_ rfl)) (by exact z2_ rfl)) (by exact z2_ rfl)) (by exact z2_ rfl)))) (@y1_ _ _ _ _ _ _ _ _ _ _ _ (by exact d__law_take) (by exact(hr.mono (show 1≤2 by decide))) (by exact rfl) (@a0a _ _ _ _ _ _ _ (pv 0) (@q7_ _ _ _ _ _ _ (@z8_ _ _ _ _ _) (@v7_ _ _) (by exact z2_ rfl)) (by exact z2_ rfl)) (by decide) (by exact z2_ rfl) (by exact q3_ rfl)) (fun _ _=>rfl)))))
theorem a1K:FnScope ["_law_table_here","_law_turn","_law_n","_law_found","_law_r","_law_line","_law_c","_law_at","_law_more","_law_row","_law_column"] ["_law_table_here","_law_turn"] (v9_ a8K):=x7_
def a9j:Mo Fl:=(q2_ (q8_ 2 (mCB v8_ (z1_ (z0_ 0) z5_))) (q2_ (u5_ 3 (x4_ z5_)) (q2_ (w8_ (j4_ (z1_ (z0_ 2) z5_)) (gN 4) (q2_ (u5_ 5 (x4_ z5_)) (q2_ (w8_ (j4_ (z1_ (z0_ 2) z5_)) (gN 6) (q2_ (q8_ 7 (a3q ["stay","left","half","right"] (z1_ (q9_ (z1_ (z0_ 4) (z1_ (z0_ 6) z5_))) (z1_ (q9_ (z1_ (z0_ 6) (z1_ (z4_ y0_ (z4_ y0_ (z0_ 2) (mC (.int 1))) (z0_ 4)) z5_))) (z1_ (q9_ (z1_ (z4_ y0_ (z4_ y0_ (z0_ 2) (mC (.int 1))) (z0_ 4)) (z1_ (z4_ y0_ (z4_ y0_ (z0_ 2) (mC (.int 1))) (z0_ 6)) z5_))) (z1_ (q9_ (z1_ (z4_ y0_ (z4_ y0_ (z0_ 2) (mC (.int 1))) (z0_ 6)) (z1_ (z0_ 4) z5_))) z5_)))))) (q2_ (q8_ 8 (a3q ["upright","flat","slant","other"] (z1_ (q9_ (z1_ (z0_ 4) (z1_ (z4_ y0_ (z4_ y0_ (z0_ 2) (mC (.int 1))) (z0_ 6)) z5_))) (z1_ (q9_ (z1_ (z4_ y0_ (z4_ y0_ (z0_ 2) (mC (.int 1))) (z0_ 4)) (z1_ (z0_ 6) z5_))) (z1_ (q9_ (z1_ (z0_ 6) (z1_ (z0_ 4) z5_))) (z1_ (q9_ (z1_ (z4_ y0_ (z4_ y0_ (z0_ 2) (mC (.int 1))) (z0_ 6)) (z1_ (z4_ y0_ (z4_ y0_ (z0_ 2) (mC (.int 1))) (z0_ 4)) z5_))) z5_)))))) (q2_ (a0g (a0N (z0_ 7) (z0_ 1) (a0N (z0_ 8) (z0_ 1) (q9_ (z1_ (z0_ 4) (z1_ (z0_ 6) z5_))))) (gT 2 (gCn (gN 9) (gCn (gN 10) gNl)))) (a1y 5 (z4_ dIx (z4_ dIx (z0_ 0) (z0_ 9)) (z0_ 10))))))) (a1y 3 (mCB a0k (z1_ (z0_ 5) z5_)))))) (v1_ (mCB a0k (z1_ (z0_ 3) z5_))))))
def a3D:Fn:=fnM 11 a9j
theorem c0q{f:Addr}{fd:FuncData}(F:Fun K "_law_turned" "_law_turned" a8K f fd)(T:Txt K mg):FnOk P w K mg base CX0 1 f fd ["_law_table_here","_law_turn"] (SpF K 2 a3D):=
 k0_ F a1K fun cdv A outer s H E hr=>(@v0_ _ _ _ _ _ _ (@x5_ _ _ _ _ _ 2 _ _ (by exact a1K.nd) (by exact rfl) (by first|exact Or.inl rfl|exact Or.inr rfl) (@k5_ _ _ _ _ _ _ _ _ _ _ _ (by exact j6_) (by exact j8_) (by exact rfl) (by exact T.g_len) (by exact Qi) (@z6_ _ _ _ _ _ _ (@z3_ _ _ _ _ _ (pv 0)) (@q1_ _ _) (by exact z2_ rfl)) (by decide) (by decide) (by exact z2_ rfl) (by exact q3_ rfl)) (by rfl) (by first|exact .inl rfl|exact .inr rfl|assumption)) (@v0_ _ _ _ _ _ _ (@a1P _ _ _ _ _ 3 _ _ (by exact a1K.nd) (by exact rfl) (by first|exact Or.inl rfl|exact Or.inr rfl) (@j7_ _ _ _ _ _ (@q1_ _ _)) (by rfl) (by first|exact .inl rfl|exact .inr rfl|assumption)) (@v0_ _ _ _ _ _ _ (@a0E _ _ _ _ _ _ _ _ _ (by exact Zm) (by exact rfl) (@a2i _ _ _ _ _ _ _ (by exact rfl) (by exact T.g_range) (@z6_ _ _ _ _ _ _ (@z3_ _ _ _ _ _ (pv 2)) (@q1_ _ _) (by exact z2_ rfl)) (by exact se1 rfl)) (@x9_ _ _ _ _ 4 _ (by exact(show 0≤4 by decide)) (by exact a1K.nd) (by exact rfl) (by first|exact Or.inl rfl|exact Or.inr rfl) (by first|exact .inl rfl|exact .inr rfl|assumption)) (@v0_ _ _ _ _ _ _ (@a1P _ _ _ _ _ 5 _ _ (by exact a1K.nd) (by exact rfl) (by first|exact Or.inl rfl|exact Or.inr rfl) (@j7_ _ _ _ _ _ (@q1_ _ _)) (by rfl) (by first|exact .inl rfl|exact .inr rfl|assumption)) (@v0_ _ _ _ _ _ _ (@a0E _ _ _ _ _ _ _ _ _ (by exact Zm) (by exact rfl) (@a2i _ _ _ _ _ _ _ (by exact rfl) (by exact T.g_range) (@z6_ _ _ _ _ _ _ (@z3_ _ _ _ _ _ (pv 2)) (@q1_ _ _) (by exact z2_ rfl)) (by exact se1 rfl)) (@x9_ _ _ _ _ 6 _ (by exact(show 0≤6 by decide)) (by exact a1K.nd) (by exact rfl) (by first|exact Or.inl rfl|exact Or.inr rfl) (by first|exact .inl rfl|exact .inr rfl|assumption)) (@v0_ _ _ _ _ _ _ (@x5_ _ _ _ _ _ 7 _ _ (by exact a1K.nd) (by exact rfl) (by first|exact Or.inl rfl|exact Or.inr rfl) (@b1W _ _ _ _ _ _ _ _ _ _ _ _ _ _ _ _ _ _ _ (by exact a1M) (by exact a1M) (by exact a1M) (by exact a1M) (@x1_ _ _ _ _ _ _ (@z6_ _ _ _ _ _ _ (@z3_ _ _ _ _ _ (pv 4)) (@z6_ _ _ _ _ _ _ (@z3_ _ _ _ _ _ (pv 6)) (@q1_ _ _) (by exact z2_ rfl)) (by exact z2_ rfl))) (@x1_ _ _ _ _ _ _ (@z6_ _ _ _ _ _ _ (@z3_ _ _ _ _ _ (pv 6)) (@z6_ _ _ _ _ _ _ (@v3_ _ _ _ _ _ _ _ _ _ _ (by exact u0_) (by exact u1_) (@v3_ _ _ _ _ _ _ _ _ _ _ (by exact u0_) (by exact u1_) (@z3_ _ _ _ _ _ (pv 2)) (@z8_ _ _ _ _ _)) (@z3_ _ _ _ _ _ (pv 4))) (@q1_ _ _) (by exact z2_ rfl)) (by exact z2_ rfl))) (@x1_ _ _ _ _ _ _ (@z6_ _ _ _ _ _ _ (@v3_ _ _ _ _ _ _ _ _ _ _ (by exact u0_) (by exact u1_) (@v3_ _ _ _ _ _ _ _ _ _ _ (by exact u0_) (by exact u1_) (@z3_ _ _ _ _ _ (pv 2)) (@z8_ _ _ _ _ _)) (@z3_ _ _ _ _ _ (pv 4))) (@z6_ _ _ _ _ _ _ (@v3_ _ _ _ _ _ _ _ _ _ _ (by exact u0_) (by exact u1_) (@v3_ _ _ _ _ _ _ _ _ _ _ (by exact u0_) (by exact u1_) (@z3_ _ _ _ _ _ (pv 2)) (@z8_ _ _ _ _ _)) (@z3_ _ _ _ _ _ (pv 6))) (@q1_ _ _) (by exact z2_ rfl)) (by exact z2_ rfl))) (@x1_ _ _ _ _ _ _ (@z6_ _ _ _ _ _ _ (@v3_ _ _ _ _ _ _ _ _ _ _ (by exact u0_) (by exact u1_) (@v3_ _ _ _ _ _ _ _ _ _ _ (by exact u0_) (by exact u1_) (@z3_ _ _ _ _ _ (pv 2)) (@z8_ _ _ _ _ _)) (@z3_ _ _ _ _ _ (pv 6))) (@z6_ _ _ _ _ _ _ (@z3_ _ _ _ _ _ (pv 4)) (@q1_ _ _) (by exact z2_ rfl)) (by exact z2_ rfl))) (fun _ _ _ _=>rfl)) (by rfl) (by first|exact .inl rfl|exact .inr rfl|assumption)) (@v0_ _ _ _ _ _ _ (@x5_ _ _ _ _ _ 8 _ _ (by exact a1K.nd) (by exact rfl) (by first|exact Or.inl rfl|exact Or.inr rfl) (@b1W _ _ _ _ _ _ _ _ _ _ _ _ _ _ _ _ _ _ _ (by exact a1M) (by exact a1M) (by exact a1M) (by exact a1M) (@x1_ _ _ _ _ _ _ (@z6_ _ _ _ _ _ _ (@z3_ _ _ _ _ _ (pv 4)) (@z6_ _ _ _ _ _ _ (@v3_ _ _ _ _ _ _ _ _ _ _ (by exact u0_) (by exact u1_) (@v3_ _ _ _ _ _ _ _ _ _ _ (by exact u0_) (by exact u1_) (@z3_ _ _ _ _ _ (pv 2)) (@z8_ _ _ _ _ _)) (@z3_ _ _ _ _ _ (pv 6))) (@q1_ _ _) (by exact z2_ rfl)) (by exact z2_ rfl))) (@x1_ _ _ _ _ _ _ (@z6_ _ _ _ _ _ _ (@v3_ _ _ _ _ _ _ _ _ _ _ (by exact u0_) (by exact u1_) (@v3_ _ _ _ _ _ _ _ _ _ _ (by exact u0_) (by exact u1_) (@z3_ _ _ _ _ _ (pv 2)) (@z8_ _ _ _ _ _)) (@z3_ _ _ _ _ _ (pv 4))) (@z6_ _ _ _ _ _ _ (@z3_ _ _ _ _ _ (pv 6)) (@q1_ _ _) (by exact z2_ rfl)) (by exact z2_ rfl))) (@x1_ _ _ _ _ _ _ (@z6_ _ _ _ _ _ _ (@z3_ _ _ _ _ _ (pv 6)) (@z6_ _ _ _ _ _ _ (@z3_ _ _ _ _ _ (pv 4)) (@q1_ _ _) (by exact z2_ rfl)) (by exact z2_ rfl))) (@x1_ _ _ _ _ _ _ (@z6_ _ _ _ _ _ _ (@v3_ _ _ _ _ _ _ _ _ _ _ (by exact u0_) (by exact u1_) (@v3_ _ _ _ _ _ _ _ _ _ _ (by exact u0_) (by exact u1_) (@z3_ _ _ _ _ _ (pv 2)) (@z8_ _ _ _ _ _)) (@z3_ _ _ _ _ _ (pv 6))) (@z6_ _ _ _ _ _ _ (@v3_ _ _ _ _ _ _ _ _ _ _ (by exact u0_) (by exact u1_) (@v3_ _ _ _ _ _ _ _ _ _ _ (by exact u0_) (by exact u1_) (@z3_ _ _ _ _ _ (pv 2)) (@z8_ _ _ _ _ _)) (@z3_ _ _ _ _ _ (pv 4))) (@q1_ _ _) (by exact z2_ rfl)) (by exact z2_ rfl))) (fun _ _ _ _=>rfl)) (by rfl) (by first|exact .inl rfl|exact .inr rfl|assumption)) (@v0_ _ _ _ _ _ _ (@a5C _ _ _ _ _ _ _ (@b1Z _ _ _ _ _ _ _ _ _ _ (@z3_ _ _ _ _ _ (pv 7)) (@z6_ _ _ _ _ _ _ (@z3_ _ _ _ _ _ (pv 1)) (@z6_ _ _ _ _ _ _ (@b1Z _ _ _ _ _ _ _ _ _ _ (@z3_ _ _ _ _ _ (pv 8)) (@z6_ _ _ _ _ _ _ (@z3_ _ _ _ _ _ (pv 1)) (@z6_ _ _ _ _ _ _ (@x1_ _ _ _ _ _ _ (@z6_ _ _ _ _ _ _ (@z3_ _ _ _ _ _ (pv 4)) (@z6_ _ _ _ _ _ _ (@z3_ _ _ _ _ _ (pv 6)) (@q1_ _ _) (by exact z2_ rfl)) (by exact z2_ rfl))) (@q1_ _ _) (by exact z2_ rfl)) (by exact z2_ rfl)) (by rfl) (by rfl) (by rfl) (by exact z2_ rfl) (by exact q3_ rfl)) (@q1_ _ _) (by exact z2_ rfl)) (by exact z2_ rfl)) (by rfl) (by rfl) (by rfl) (by exact z2_ rfl) (by exact q3_ rfl)) (@a3T _ _ _ _ _ _ _ _ (by exact rfl) (@a0U _ _ _ _ _ _ _ (@x9_ _ _ _ _ 9 _ (by exact(show 0≤9 by decide)) (by exact a1K.nd) (by exact rfl) (by first|exact Or.inl rfl|exact Or.inr rfl) (by first|exact .inl rfl|exact .inr rfl|assumption)) (@a0U _ _ _ _ _ _ _ (@x9_ _ _ _ _ 10 _ (by exact(show 0≤10 by decide)) (by exact a1K.nd) (by exact rfl) (by first|exact Or.inl rfl|exact Or.inr rfl) (by first|exact .inl rfl|exact .inr rfl|assumption)) (@a3S _ _ _) (by rfl)) (by rfl)) (by rfl) (by rfl)) (by rfl) (by rfl) (by rfl)) (@v2_ _ _ _ _ (@a5A _ _ _ _ _ _ _ _ _ _ (pv 5) (@z6_ _ _ _ _ _ _ (@a0f _ _ _ _ _ _ _ (@a0f _ _ _ _ _ _ _ (@z3_ _ _ _ _ _ (pv 0)) (@z3_ _ _ _ _ _ (pv 9)) (fun _ _=>rfl)) (@z3_ _ _ _ _ _ (pv 10)) (fun _ _=>rfl)) (@q1_ _ _) (by exact z2_ rfl)) (by rfl) (by rfl) (by rfl) (by exact z2_ rfl) (by exact q3_ rfl) (by rfl)))))) (by intro _;rfl)) (@v2_ _ _ _ _ (@a5A _ _ _ _ _ _ _ _ _ _ (pv 3) (@z6_ _ _ _ _ _ _ (@a2g _ _ _ _ _ _ _ _ _ _ _ (by exact a2O) (by exact a2Z) (by exact rfl) (by exact T.g_tuple) (by exact a0o) (@z6_ _ _ _ _ _ _ (@z3_ _ _ _ _ _ (pv 5)) (@q1_ _ _) (by exact z2_ rfl)) (by decide) (by decide) (by exact z2_ rfl) (by exact q3_ rfl)) (@q1_ _ _) (by exact z2_ rfl)) (by rfl) (by rfl) (by rfl) (by exact z2_ rfl) (by exact q3_ rfl) (by rfl))))) (by intro _;rfl)) (@v2_ _ _ _ _ (@y4_ _ _ _ _ _ (@a2g _ _ _ _ _ _ _ _ _ _ _ (by exact a2O) (by exact a2Z) (by exact rfl) (by exact T.g_tuple) (by exact a0o) (@z6_ _ _ _ _ _ _ (@z3_ _ _ _ _ _ (pv 3)) (@q1_ _ _) (by exact z2_ rfl)) (by decide) (by decide) (by exact z2_ rfl) (by exact q3_ rfl)))))))
theorem c0r:FnScope [] [] (v9_ a8L):=x7_
def c0s:Mo Fl:=(a2h (x4_ (z1_ (mC (.str "stay")) (z1_ (mC (.str "left")) (z1_ (mC (.str "half")) (z1_ (mC (.str "right")) (z1_ (mC (.str "upright")) (z1_ (mC (.str "flat")) (z1_ (mC (.str "slant")) (z1_ (mC (.str "other")) z5_))))))))))
def a0P:Fn:=fnM 0 c0s
theorem c0t{f:Addr}{fd:FuncData}(F:Fun K "_law_turn_words" "_law_turn_words" a8L f fd)(T:Txt K mg):FnOk P w K mg base CX0 1 f fd [] (SpF K 0 a0P):=
 k0_ F c0r fun cdv A outer s H E hr=>(@v2_ _ _ _ _ (@a5y _ _ _ _ _ (@j7_ _ _ _ _ _ (@z6_ _ _ _ _ _ _ (@g3_ _ _ _ _ _ (by decide)) (@z6_ _ _ _ _ _ _ (@g3_ _ _ _ _ _ (by decide)) (@z6_ _ _ _ _ _ _ (@g3_ _ _ _ _ _ (by decide)) (@z6_ _ _ _ _ _ _ (@g3_ _ _ _ _ _ (by decide)) (@z6_ _ _ _ _ _ _ (@g3_ _ _ _ _ _ (by decide)) (@z6_ _ _ _ _ _ _ (@g3_ _ _ _ _ _ (by decide)) (@z6_ _ _ _ _ _ _ (@g3_ _ _ _ _ _ (by decide)) (@z6_ _ _ _ _ _ _ (@g3_ _ _ _ _ _ (by decide)) (@q1_ _ _) (by exact z2_ rfl)) (by exact z2_ rfl)) (by exact z2_ rfl)) (by exact z2_ rfl)) (by exact z2_ rfl)) (by exact z2_ rfl)) (by exact z2_ rfl)) (by exact z2_ rfl)))))
theorem c0u:FnScope ["_law_found","_law_due"] ["_law_found","_law_due"] (v9_ a8M):=x7_
theorem b2l:(["-0","-1","_law_one","_law_other"]:List Str).Nodup:=by decide+kernel
def a5c(r_:Fn):Mo Fl:=(q2_ (y3_ (mT (b1v "list" "tuple" (z0_ 1))) (q2_ (y3_ (g5_ (mT (z4_ (dEq true) (mIs "list" (z0_ 0)) (mIs "list" (z0_ 1)))) (mT (z4_ (dEq true) (mIs "tuple" (z0_ 0)) (mIs "tuple" (z0_ 1))))) (v1_ (mC (.bl false))) mNx) (v1_ (u4_ (z4_ (dEq false) (mCB v8_ (z1_ (z0_ 0) z5_)) (mCB v8_ (z1_ (z0_ 1) z5_))) (mCB a2o (z1_ (mF (y7_ (a1B (z1_ (z0_ 0) (z1_ (z0_ 1) z5_))) [false,false] 2 (gT 2 (gCn (gN 2) (gCn (gN 3) gNl))) x3_ (mCD 2 r_ (z7_ (z0_ 2) (z7_ (z0_ 3) q0_))))) z5_))))) mNx) (v1_ (u4_ (z4_ (dEq false) (mIs "bool" (z0_ 0)) (mIs "bool" (z0_ 1))) (z4_ (dEq false) (z0_ 0) (z0_ 1)))))
def a0r:Nat->Fn
 |0=>fun _=>none
 |n_+1=>fnM 2 (a5c (a0r n_))
theorem b2m{f:Addr}{fd:FuncData}(F:Fun K "_law_same" "_law_same" a8M f fd)(T:Txt K mg)(hmg:mg "_law_same"=some (.ref f))(hkp:PySem.W.keepIn K (.ref f)=true)(hbd:a0j K fd ["_law_found","_law_due"] []):∀n_:Nat,FnOk P w K mg base CX0 (1+n_) f fd ["_law_found","_law_due"] (SpF K 2 (a0r n_))
 |0=>b7w
 |n_+1=>by
  have d__law_same:Def P w K mg base "_law_same" (1+n_) 2 (a0r n_):=⟨_,_,_,b2m F T hmg hkp hbd n_,rfl,hmg,hkp,hbd⟩
  exact k0_ F c0u fun cdv A outer s H E hr=>(@v0_ _ _ _ _ _ _ (@w6_ _ _ _ _ _ _ _ _ _ (@u8_ _ _ _ _ (@b7s _ _ _ _ _ _ _ _ _ _ _ _ _ _ (by exact a7q) (by exact a2n) (@z3_ _ _ _ _ _ (pv 1)) (by exact rfl) (by exact T.g_isinstance) (by exact rfl) (by exact T.g_list) (by exact a4a) (by exact rfl) (by exact T.g_tuple) (by exact a0o) (by decide) (by decide) (by decide) (by decide) (by exact se2 rfl rfl)) (by intro _;rfl)) (@v0_ _ _ _ _ _ _ (@w6_ _ _ _ _ _ _ _ _ _ (@a2f _ _ _ _ (@a2X _ _ _ _ _ _ _ _ (@a0e _ _ _ _ _ _ _ _ _ _ (by exact(op_neD hr.units)) (by exact opd_eq) (@a0h _ _ _ _ _ _ _ _ _ (by exact a7q) (@z3_ _ _ _ _ _ (pv 0)) (by exact rfl) (by exact T.g_isinstance) (by exact rfl) (by exact T.g_list) (by exact a4a) (by decide) (by decide) (by exact se2 rfl rfl)) (@a0h _ _ _ _ _ _ _ _ _ (by exact a7q) (@z3_ _ _ _ _ _ (pv 1)) (by exact rfl) (by exact T.g_isinstance) (by exact rfl) (by exact T.g_list) (by exact a4a) (by decide) (by decide) (by exact se2 rfl rfl)) (by exact(nomark _))) (@a2W _ _ _ _ _ (@a0e _ _ _ _ _ _ _ _ _ _ (by exact(op_neD hr.units)) (by exact opd_eq) (@a0h _ _ _ _ _ _ _ _ _ (by exact a2n) (@z3_ _ _ _ _ _ (pv 0)) (by exact rfl) (by exact T.g_isinstance) (by exact rfl) (by exact T.g_tuple) (by exact a0o) (by decide) (by decide) (by exact se2 rfl rfl)) (@a0h _ _ _ _ _ _ _ _ _ (by exact a2n) (@z3_ _ _ _ _ _ (pv 1)) (by exact rfl) (by exact T.g_isinstance) (by exact rfl) (by exact T.g_tuple) (by exact a0o) (by decide) (by decide) (by exact se2 rfl rfl)) (by exact(nomark _)))))) (@v2_ _ _ _ _ (@y4_ _ _ _ _ _ (@g2_ _ _ _ _ _))) (@w5_ _ _)) (@v2_ _ _ _ _ (@y4_ _ _ _ _ _ (@a2Y _ _ _ _ _ _ _ _ (@a2U _ _ _ _ _ _ _ _ _ _ (by exact(op_eqD hr.units)) (by exact opd_eq) (@k5_ _ _ _ _ _ _ _ _ _ _ _ (by exact j6_) (by exact j8_) (by exact rfl) (by exact T.g_len) (by exact Qi) (@z6_ _ _ _ _ _ _ (@z3_ _ _ _ _ _ (pv 0)) (@q1_ _ _) (by exact z2_ rfl)) (by decide) (by decide) (by exact z2_ rfl) (by exact q3_ rfl)) (@k5_ _ _ _ _ _ _ _ _ _ _ _ (by exact j6_) (by exact j8_) (by exact rfl) (by exact T.g_len) (by exact Qi) (@z6_ _ _ _ _ _ _ (@z3_ _ _ _ _ _ (pv 1)) (@q1_ _ _) (by exact z2_ rfl)) (by decide) (by decide) (by exact z2_ rfl) (by exact q3_ rfl)) (by exact(nomark _))) (@a3Q _ _ _ _ _ _ (@k5_ _ _ _ _ _ _ _ _ _ _ _ (by exact(a4F rfl)) (by exact a4G) (by exact rfl) (by exact T.g_all) (by exact a4K) (@z6_ _ _ _ _ _ _ (@x8_ _ _ _ _ (@a0G _ _ ["-0","-1","_law_one","_law_other"] _ [false,false] 2 _ _ _ _ _ _ _ _ _ (by exact(a0c rfl rfl)) (by exact rfl) (@b1a _ _ _ _ _ _ _ _ _ _ (by exact rfl) (by exact T.g_zip) (@z6_ _ _ _ _ _ _ (@z3_ _ _ _ _ _ (pv 0)) (@z6_ _ _ _ _ _ _ (@z3_ _ _ _ _ _ (pv 1)) (@q1_ _ _) (by exact z2_ rfl)) (by exact z2_ rfl)) (by exact se2 rfl rfl) (by exact se1 rfl)) (fun s H fp=>(@a3T _ _ _ _ _ _ _ _ (by exact rfl) (@a0U _ _ _ _ _ _ _ (@x9_ _ _ _ _ 2 _ (by exact(show 2≤2 by decide)) (by exact b2l) (by exact rfl) (by first|exact Or.inl rfl|exact Or.inr rfl) (by first|exact .inl rfl|exact .inr rfl|assumption)) (@a0U _ _ _ _ _ _ _ (@x9_ _ _ _ _ 3 _ (by exact(show 2≤3 by decide)) (by exact b2l) (by exact rfl) (by first|exact Or.inl rfl|exact Or.inr rfl) (by first|exact .inl rfl|exact .inr rfl|assumption)) (@a3S _ _ _) (by rfl)) (by rfl)) (by rfl) (by rfl))) (fun s H fp=>(@a0W _ _)) (fun s H fp=>(@y1_ _ _ _ _ _ _ _ _ _ _ _ (by exact d__law_same) (by exact(hr.mono (Qb _))) (by exact rfl) (@q7_ _ _ _ _ _ _ (@z3_ _ _ _ _ _ (pv 2)) (@q7_ _ _ _ _ _ _ (@z3_ _ _ _ _ _ (pv 3)) (@v7_ _ _) (by exact z2_ rfl)) (by exact z2_ rfl)) (by decide) (by exact z2_ rfl) (by exact q3_ rfl))) (by intro _;rfl))) (@q1_ _ _) (by exact z2_ rfl)) (by decide) (by decide) (by exact z2_ rfl) (by exact q3_ rfl))))))) (@w5_ _ _)) (@v2_ _ _ _ _ (@y4_ _ _ _ _ _ (@a2Y _ _ _ _ _ _ _ _ (@a2U _ _ _ _ _ _ _ _ _ _ (by exact(op_eqD hr.units)) (by exact opd_eq) (@a0h _ _ _ _ _ _ _ _ _ (by exact a5J) (@z3_ _ _ _ _ _ (pv 0)) (by exact rfl) (by exact T.g_isinstance) (by exact rfl) (by exact T.g_bool) (by exact a5P) (by decide) (by decide) (by exact se2 rfl rfl)) (@a0h _ _ _ _ _ _ _ _ _ (by exact a5J) (@z3_ _ _ _ _ _ (pv 1)) (by exact rfl) (by exact T.g_isinstance) (by exact rfl) (by exact T.g_bool) (by exact a5P) (by decide) (by decide) (by exact se2 rfl rfl)) (by exact(nomark _))) (@a3Q _ _ _ _ _ _ (@a2U _ _ _ _ _ _ _ _ _ _ (by exact(op_eqD hr.units)) (by exact opd_eq) (@z3_ _ _ _ _ _ (pv 0)) (@z3_ _ _ _ _ _ (pv 1)) (by exact(nomark _))))))))
theorem a1c:FnScope ["_law_script","_law_k","_law_state_here","_law_table_here","_law_turn","_law_none","_law_word","_law_at","_law_letter","_law_bent_here","_law_some","_law_bad"] ["_law_script"] (v9_ a4f):=x7_
def b2n:Mo Fl:=(q2_ (w8_ (j4_ (z1_ (mCB a3W (z1_ (mC (.int 1)) (z1_ (mCB a3X (z1_ (mCB v8_ (z1_ (z0_ 0) z5_)) (z1_ (mC (.int 8)) z5_))) z5_))) z5_)) (gN 1) (q2_ (u5_ 2 (u3_ 2 a4k (z7_ (z0_ 0) (z7_ (z0_ 1) q0_)))) (q2_ (q8_ 3 (mCD 3 a1o (x0_ 2 (z7_ (mC (.int 1)) (z7_ (mC (.int 6)) q0_))))) (q2_ (w8_ (x2_ (mF (u3_ 0 a0P q0_))) (gN 4) (y3_ (y8_ (mT (mCD 2 (a0r 6) (z7_ (mCD 2 a0d (z7_ (z0_ 3) (z7_ (z0_ 4) q0_))) (z7_ (mCD 2 a3D (z7_ (z0_ 3) (z7_ (z0_ 4) q0_))) q0_))))) (v1_ (mC (.bl false))) mNx)) (q2_ (q8_ 5 (mCD 1 a4m (x0_ 2 q0_))) (q2_ (q8_ 6 (z4_ dIx (mF (u3_ 0 a0P q0_)) (mCD 2 k2_ (x0_ 2 (z7_ (mC (.int 8)) q0_))))) (q2_ (q8_ 7 (mCD 2 k2_ (x0_ 2 (z7_ (mCB a6c (z1_ (z0_ 6) z5_)) q0_)))) (q2_ (q8_ 8 (z4_ a6b (mC (.str "abcdefghijklmnopqrstuvwxyzABC -")) (mCD 2 k2_ (x0_ 2 (z7_ (mC (.int 31)) q0_))))) (q2_ (q8_ 9 (z4_ a1F (z4_ a1F (a3p (z0_ 6) k3_ (k4_ (z0_ 7))) (z0_ 8)) (a3p (z0_ 6) (k4_ (z4_ v5_ (z0_ 7) (mC (.int 1)))) k3_))) (q2_ (q8_ 10 (mF (x4_ (z1_ (mC (.str "")) (z1_ (mC (.str "Left")) (z1_ (mC (.str "left ")) (z1_ (mC (.str " left")) (z1_ (mC (.str "turn")) (z1_ (mC .non) (z1_ (mC (.int 0)) (z1_ (q9_ (z1_ (mC (.str "left")) z5_)) (z1_ (mF (x4_ (z1_ (mC (.str "left")) z5_))) (z1_ (mC (.bl true)) (z1_ (z4_ a1F (z0_ 6) (z0_ 6)) z5_)))))))))))))) (q2_ (w8_ (x2_ (mF (x4_ (z1_ (z0_ 9) (z1_ (z4_ dIx (z0_ 10) (mCD 2 k2_ (x0_ 2 (z7_ (mC (.int 11)) q0_)))) z5_))))) (gN 11) (y3_ (mT (z4_ (a2x true) (z0_ 11) (mF (u3_ 0 a0P q0_)))) (q2_ (y3_ (mT (z4_ (dEq true) (a1k xN [false,false,false,true,false,false,false,false,false,false,false,true] (mCD 2 a0d (z7_ (z0_ 3) (z7_ (z0_ 11) q0_))) (a0L 2 a0O (z7_ (z0_ 3) (z7_ (z0_ 11) q0_))) a1b) (mC (.int 7)))) (v1_ (mC (.bl false))) mNx) (y3_ (mT (z4_ (dEq true) (a1k xN [false,false,false,false,false,true,false,false,false,false,false,true] (mCD 2 a0d (z7_ (z0_ 5) (z7_ (z0_ 11) q0_))) (a0L 2 a0O (z7_ (z0_ 5) (z7_ (z0_ 11) q0_))) a1b) (mC (.int 0)))) (v1_ (mC (.bl false))) mNx)) mNx)) (y3_ (mT (z4_ (dEq true) (a1k xN [false,false,false,false,false,true,true,false,false,false,false,false] (mCD 2 a0d (z7_ (z0_ 5) (z7_ (z0_ 6) q0_))) (a0L 2 a0O (z7_ (z0_ 5) (z7_ (z0_ 6) q0_))) a1b) (mC (.int 0)))) (v1_ (mC (.bl false))) mNx)))))))))))) (v1_ (z4_ (dEq false) (mCD 2 a0d (z7_ (q9_ (z1_ (q9_ (z1_ (mC (.int 0)) (z1_ (mC (.int 1)) (z1_ (mC (.int 0)) z5_)))) (z1_ (q9_ (z1_ (mC (.int 1)) (z1_ (mC (.int 0)) (z1_ (mC (.int 0)) z5_)))) (z1_ (q9_ (z1_ (mC (.int 0)) (z1_ (mC (.int 0)) (z1_ (mC (.int 1)) z5_)))) z5_)))) (z7_ (mC (.str "left")) q0_))) (q9_ (z1_ (q9_ (z1_ (mC (.int 0)) (z1_ (mC (.int 0)) (z1_ (mC (.int 1)) z5_)))) (z1_ (q9_ (z1_ (mC (.int 1)) (z1_ (mC (.int 0)) (z1_ (mC (.int 0)) z5_)))) (z1_ (q9_ (z1_ (mC (.int 0)) (z1_ (mC (.int 1)) (z1_ (mC (.int 0)) z5_)))) z5_)))))))
def a6k:Fn:=fnM 12 b2n
theorem c0v{f Pt:Addr}{fd:FuncData}{cd:Value}(F:Fun K "law" "law" a4f f fd)(hcd:fd.code=cd)(T:Txt K mg)(tb:TabF K mg base cd "law" Pt)(d__law_state:Def P w K mg base "_law_state" 2 2 a4k)(d__law_table:Def P w K mg base "_law_table" 2 3 a1o)(d__law_turn_words:Def P w K mg base "_law_turn_words" 1 0 a0P)(d__law_no_table:Def P w K mg base "_law_no_table" 3 1 a4m)(d__law_take:Def P w K mg base "_law_take" 1 2 k2_)(d_turned:Def P w K mg base "turned" 7 2 a0d)(d__law_refused:RefDef P w K mg base "_law_refused" 9 8 a1b)(d__law_same:Def P w K mg base "_law_same" 7 2 (a0r 6))(d__law_turned:Def P w K mg base "_law_turned" 1 2 a3D)(dx_turned:DefX P w K mg base "turned" 7 2 a0O):FnOk P w K mg base CX0 10 f fd ["_law_script"] (SpT K [Pt] 1 a6k):=
 b8n (N:=["_law_script","_law_k","_law_state_here","_law_table_here","_law_turn","_law_none","_law_word","_law_at","_law_letter","_law_bent_here","_law_some","_law_bad"]) (mb:=b2n) F hcd a1c fun A outer s H E tbi hr=>by
  obtain⟨ps0,hP⟩:=tbi Pt (by simp)
  exact(@v0_ _ _ _ _ _ _ (@a0E _ _ _ _ _ _ _ _ _ (by exact Zm) (by exact rfl) (@a2i _ _ _ _ _ _ _ (by exact rfl) (by exact T.g_range) (@z6_ _ _ _ _ _ _ (@k5_ _ _ _ _ _ _ _ _ _ _ _ (by exact(b5g rfl)) (by exact b6q) (by exact rfl) (by exact T.g_max) (by exact b7k) (@z6_ _ _ _ _ _ _ (@z8_ _ _ _ _ _) (@z6_ _ _ _ _ _ _ (@k5_ _ _ _ _ _ _ _ _ _ _ _ (by exact(b5h rfl)) (by exact b6r) (by exact rfl) (by exact T.g_min) (by exact b7l) (@z6_ _ _ _ _ _ _ (@k5_ _ _ _ _ _ _ _ _ _ _ _ (by exact j6_) (by exact j8_) (by exact rfl) (by exact T.g_len) (by exact Qi) (@z6_ _ _ _ _ _ _ (@z3_ _ _ _ _ _ (pv 0)) (@q1_ _ _) (by exact z2_ rfl)) (by decide) (by decide) (by exact z2_ rfl) (by exact q3_ rfl)) (@z6_ _ _ _ _ _ _ (@z8_ _ _ _ _ _) (@q1_ _ _) (by exact z2_ rfl)) (by exact z2_ rfl)) (by decide) (by decide) (by exact z2_ rfl) (by exact q3_ rfl)) (@q1_ _ _) (by exact z2_ rfl)) (by exact z2_ rfl)) (by decide) (by decide) (by exact z2_ rfl) (by exact q3_ rfl)) (@q1_ _ _) (by exact z2_ rfl)) (by exact se1 rfl)) (@x9_ _ _ _ _ 1 _ (by exact(show 0≤1 by decide)) (by exact a1c.nd) (by exact rfl) (by first|exact Or.inl rfl|exact Or.inr rfl) (by first|exact .inl rfl|exact .inr rfl|assumption)) (@v0_ _ _ _ _ _ _ (@a1P _ _ _ _ _ 2 _ _ (by exact a1c.nd) (by exact rfl) (by first|exact Or.inl rfl|exact Or.inr rfl) (@b1j _ _ _ _ _ _ _ _ _ _ _ (by exact d__law_state) (by exact(hr.mono (show 2≤9 by decide))) (by exact rfl) (@q7_ _ _ _ _ _ _ (@z3_ _ _ _ _ _ (pv 0)) (@q7_ _ _ _ _ _ _ (@z3_ _ _ _ _ _ (pv 1)) (@v7_ _ _) (by exact z2_ rfl)) (by exact z2_ rfl)) (by decide) (by exact z2_ rfl) (by exact q3_ rfl)) (by rfl) (by first|exact .inl rfl|exact .inr rfl|assumption)) (@v0_ _ _ _ _ _ _ (@x5_ _ _ _ _ _ 3 _ _ (by exact a1c.nd) (by exact rfl) (by first|exact Or.inl rfl|exact Or.inr rfl) (@y1_ _ _ _ _ _ _ _ _ _ _ _ (by exact d__law_table) (by exact(hr.mono (show 2≤9 by decide))) (by exact rfl) (@a0a _ _ _ _ _ _ _ (pv 2) (@q7_ _ _ _ _ _ _ (@z8_ _ _ _ _ _) (@q7_ _ _ _ _ _ _ (@z8_ _ _ _ _ _) (@v7_ _ _) (by exact z2_ rfl)) (by exact z2_ rfl)) (by exact z2_ rfl)) (by decide) (by exact z2_ rfl) (by exact q3_ rfl)) (by rfl) (by first|exact .inl rfl|exact .inr rfl|assumption)) (@v0_ _ _ _ _ _ _ (@a0E _ _ _ _ _ _ _ _ _ (by exact Zm) (by exact rfl) (@a0b _ _ _ _ _ (@x8_ _ _ _ _ (@a8c _ _ _ _ _ _ _ (by exact d__law_turn_words) (by exact(hr.mono (show 1≤9 by decide))) (by exact rfl) (by decide)))) (@x9_ _ _ _ _ 4 _ (by exact(show 0≤4 by decide)) (by exact a1c.nd) (by exact rfl) (by first|exact Or.inl rfl|exact Or.inr rfl) (by first|exact .inl rfl|exact .inr rfl|assumption)) (@v2_ _ _ _ _ (@w6_ _ _ _ _ _ _ _ _ _ (@u9_ _ _ _ _ _ (@u8_ _ _ _ _ (@y1_ _ _ _ _ _ _ _ _ _ _ _ (by exact d__law_same) (by exact(hr.mono (show 7≤9 by decide))) (by exact rfl) (@q7_ _ _ _ _ _ _ (@y1_ _ _ _ _ _ _ _ _ _ _ _ (by exact d_turned) (by exact(hr.mono (show 7≤9 by decide))) (by exact rfl) (@q7_ _ _ _ _ _ _ (@z3_ _ _ _ _ _ (pv 3)) (@q7_ _ _ _ _ _ _ (@z3_ _ _ _ _ _ (pv 4)) (@v7_ _ _) (by exact z2_ rfl)) (by exact z2_ rfl)) (by decide) (by exact z2_ rfl) (by exact q3_ rfl)) (@q7_ _ _ _ _ _ _ (@y1_ _ _ _ _ _ _ _ _ _ _ _ (by exact d__law_turned) (by exact(hr.mono (show 1≤9 by decide))) (by exact rfl) (@q7_ _ _ _ _ _ _ (@z3_ _ _ _ _ _ (pv 3)) (@q7_ _ _ _ _ _ _ (@z3_ _ _ _ _ _ (pv 4)) (@v7_ _ _) (by exact z2_ rfl)) (by exact z2_ rfl)) (by decide) (by exact z2_ rfl) (by exact q3_ rfl)) (@v7_ _ _) (by exact z2_ rfl)) (by exact z2_ rfl)) (by decide) (by exact z2_ rfl) (by exact q3_ rfl)) (by intro _;rfl))) (@v2_ _ _ _ _ (@y4_ _ _ _ _ _ (@g2_ _ _ _ _ _))) (@w5_ _ _))) (by intro _;rfl)) (@v0_ _ _ _ _ _ _ (@x5_ _ _ _ _ _ 5 _ _ (by exact a1c.nd) (by exact rfl) (by first|exact Or.inl rfl|exact Or.inr rfl) (@y1_ _ _ _ _ _ _ _ _ _ _ _ (by exact d__law_no_table) (by exact(hr.mono (show 3≤9 by decide))) (by exact rfl) (@a0a _ _ _ _ _ _ _ (pv 2) (@v7_ _ _) (by exact z2_ rfl)) (by decide) (by exact z2_ rfl) (by exact q3_ rfl)) (by rfl) (by first|exact .inl rfl|exact .inr rfl|assumption)) (@v0_ _ _ _ _ _ _ (@x5_ _ _ _ _ _ 6 _ _ (by exact a1c.nd) (by exact rfl) (by first|exact Or.inl rfl|exact Or.inr rfl) (@a0f _ _ _ _ _ _ _ (@x8_ _ _ _ _ (@a8c _ _ _ _ _ _ _ (by exact d__law_turn_words) (by exact(hr.mono (show 1≤9 by decide))) (by exact rfl) (by decide))) (@y1_ _ _ _ _ _ _ _ _ _ _ _ (by exact d__law_take) (by exact(hr.mono (show 1≤9 by decide))) (by exact rfl) (@a0a _ _ _ _ _ _ _ (pv 2) (@q7_ _ _ _ _ _ _ (@z8_ _ _ _ _ _) (@v7_ _ _) (by exact z2_ rfl)) (by exact z2_ rfl)) (by decide) (by exact z2_ rfl) (by exact q3_ rfl)) (fun _ _=>rfl)) (by rfl) (by first|exact .inl rfl|exact .inr rfl|assumption)) (@v0_ _ _ _ _ _ _ (@x5_ _ _ _ _ _ 7 _ _ (by exact a1c.nd) (by exact rfl) (by first|exact Or.inl rfl|exact Or.inr rfl) (@y1_ _ _ _ _ _ _ _ _ _ _ _ (by exact d__law_take) (by exact(hr.mono (show 1≤9 by decide))) (by exact rfl) (@a0a _ _ _ _ _ _ _ (pv 2) (@q7_ _ _ _ _ _ _ (@k5_ _ _ _ _ _ _ _ _ _ _ _ (by exact b5C) (by exact b8M) (by exact rfl) (by exact T.g_len) (by exact Qi) (@z6_ _ _ _ _ _ _ (@z3_ _ _ _ _ _ (pv 6)) (@q1_ _ _) (by exact z2_ rfl)) (by decide) (by decide) (by exact z2_ rfl) (by exact q3_ rfl)) (@v7_ _ _) (by exact z2_ rfl)) (by exact z2_ rfl)) (by decide) (by exact z2_ rfl) (by exact q3_ rfl)) (by rfl) (by first|exact .inl rfl|exact .inr rfl|assumption)) (@v0_ _ _ _ _ _ _ (@x5_ _ _ _ _ _ 8 _ _ (by exact a1c.nd) (by exact rfl) (by first|exact Or.inl rfl|exact Or.inr rfl) (@b8K _ _ _ _ _ _ _ (@g3_ _ _ _ _ _ (by decide)) (@y1_ _ _ _ _ _ _ _ _ _ _ _ (by exact d__law_take) (by exact(hr.mono (show 1≤9 by decide))) (by exact rfl) (@a0a _ _ _ _ _ _ _ (pv 2) (@q7_ _ _ _ _ _ _ (@z8_ _ _ _ _ _) (@v7_ _ _) (by exact z2_ rfl)) (by exact z2_ rfl)) (by decide) (by exact z2_ rfl) (by exact q3_ rfl)) (fun _ _=>rfl)) (by rfl) (by first|exact .inl rfl|exact .inr rfl|assumption)) (@v0_ _ _ _ _ _ _ (@x5_ _ _ _ _ _ 9 _ _ (by exact a1c.nd) (by exact rfl) (by first|exact Or.inl rfl|exact Or.inr rfl) (@v3_ _ _ _ _ _ _ _ _ _ _ (by exact a7Y) (by exact a7Z) (@v3_ _ _ _ _ _ _ _ _ _ _ (by exact a7Y) (by exact a7Z) (@b1R _ _ _ _ _ _ _ _ _ _ (@z3_ _ _ _ _ _ (pv 6)) (@a0u _ _) (@a0v _ _ _ _ (@z3_ _ _ _ _ _ (pv 7)))) (@z3_ _ _ _ _ _ (pv 8))) (@b1R _ _ _ _ _ _ _ _ _ _ (@z3_ _ _ _ _ _ (pv 6)) (@a0v _ _ _ _ (@v3_ _ _ _ _ _ _ _ _ _ _ (by exact k7_) (by exact k8_) (@z3_ _ _ _ _ _ (pv 7)) (@z8_ _ _ _ _ _))) (@a0u _ _))) (by rfl) (by first|exact .inl rfl|exact .inr rfl|assumption)) (@v0_ _ _ _ _ _ _ (@x5_ _ _ _ _ _ 10 _ _ (by exact a1c.nd) (by exact rfl) (by first|exact Or.inl rfl|exact Or.inr rfl) (@x8_ _ _ _ _ (@j7_ _ _ _ _ _ (@z6_ _ _ _ _ _ _ (@g3_ _ _ _ _ _ (by decide)) (@z6_ _ _ _ _ _ _ (@g3_ _ _ _ _ _ (by decide)) (@z6_ _ _ _ _ _ _ (@g3_ _ _ _ _ _ (by decide)) (@z6_ _ _ _ _ _ _ (@g3_ _ _ _ _ _ (by decide)) (@z6_ _ _ _ _ _ _ (@g3_ _ _ _ _ _ (by decide)) (@z6_ _ _ _ _ _ _ (@a3P _ _ _ _) (@z6_ _ _ _ _ _ _ (@z8_ _ _ _ _ _) (@z6_ _ _ _ _ _ _ (@x1_ _ _ _ _ _ _ (@z6_ _ _ _ _ _ _ (@g3_ _ _ _ _ _ (by decide)) (@q1_ _ _) (by exact z2_ rfl))) (@z6_ _ _ _ _ _ _ (@x8_ _ _ _ _ (@j7_ _ _ _ _ _ (@z6_ _ _ _ _ _ _ (@g3_ _ _ _ _ _ (by decide)) (@q1_ _ _) (by exact z2_ rfl)))) (@z6_ _ _ _ _ _ _ (@g2_ _ _ _ _ _) (@z6_ _ _ _ _ _ _ (@v3_ _ _ _ _ _ _ _ _ _ _ (by exact a7Y) (by exact a7Z) (@z3_ _ _ _ _ _ (pv 6)) (@z3_ _ _ _ _ _ (pv 6))) (@q1_ _ _) (by exact z2_ rfl)) (by exact z2_ rfl)) (by exact z2_ rfl)) (by exact z2_ rfl)) (by exact z2_ rfl)) (by exact z2_ rfl)) (by exact z2_ rfl)) (by exact z2_ rfl)) (by exact z2_ rfl)) (by exact z2_ rfl)) (by exact z2_ rfl)))) (by rfl) (by first|exact .inl rfl|exact .inr rfl|assumption)) (@v0_ _ _ _ _ _ _ (@a0E _ _ _ _ _ _ _ _ _ (by exact Zm) (by exact rfl) (@a0b _ _ _ _ _ (@x8_ _ _ _ _ (@j7_ _ _ _ _ _ (@z6_ _ _ _ _ _ _ (@z3_ _ _ _ _ _ (pv 9)) (@z6_ _ _ _ _ _ _ (@a0f _ _ _ _ _ _ _ (@z3_ _ _ _ _ _ (pv 10)) (@y1_ _ _ _ _ _ _ _ _ _ _ _ (by exact d__law_take) (by exact(hr.mono (show 1≤9 by decide))) (by exact rfl) (@a0a _ _ _ _ _ _ _ (pv 2) (@q7_ _ _ _ _ _ _ (@z8_ _ _ _ _ _) (@v7_ _ _) (by exact z2_ rfl)) (by exact z2_ rfl)) (by decide) (by exact z2_ rfl) (by exact q3_ rfl)) (fun _ _=>rfl)) (@q1_ _ _) (by exact z2_ rfl)) (by exact z2_ rfl))))) (@x9_ _ _ _ _ 11 _ (by exact(show 0≤11 by decide)) (by exact a1c.nd) (by exact rfl) (by first|exact Or.inl rfl|exact Or.inr rfl) (by first|exact .inl rfl|exact .inr rfl|assumption)) (@v2_ _ _ _ _ (@w6_ _ _ _ _ _ _ _ _ _ (@a0e _ _ _ _ _ _ _ _ _ _ (by exact(b8v hr.units)) (by exact b8w) (@z3_ _ _ _ _ _ (pv 11)) (@x8_ _ _ _ _ (@a8c _ _ _ _ _ _ _ (by exact d__law_turn_words) (by exact(hr.mono (show 1≤9 by decide))) (by exact rfl) (by decide))) (by with_unfolding_all rfl)) (@v0_ _ _ _ _ _ _ (@w6_ _ _ _ _ _ _ _ _ _ (@a0e _ _ _ _ _ _ _ _ _ _ (by exact(op_neD hr.units)) (by exact opd_eq) (@a7R _ _ _ _ _ _ _ 7 _ _ ["-0","-1","-2","_law_table_here","-4","-5","-6","-7","-8","-9","-10","_law_bad"] _ [false,false,false,true,false,false,false,false,false,false,false,true] _ _ _ _ _ _ _ _ (by exact d__law_refused) (by exact(hr.mono (show 9≤9 by decide))) (by exact rfl) (by exact tb) (by exact rfl) (by exact hP) (fun _=>rfl) (by exact T.ex) (by exact(a0c rfl rfl)) (by exact rfl) (by exact rfl) (by decide+kernel) (by exact rfl) (fun _ _ _ _=>rfl) (fun fl c' cl H₁ A outer s E hr=>(@y1_ _ _ _ _ _ _ _ _ _ _ _ (by exact d_turned) (by exact(hr.mono (show 7≤7 by decide))) (by exact rfl) (@q7_ _ _ _ _ _ _ (@z3_ _ _ _ _ _ (pv 3)) (@q7_ _ _ _ _ _ _ (@z3_ _ _ _ _ _ (pv 11)) (@v7_ _ _) (by exact z2_ rfl)) (by exact z2_ rfl)) (by decide) (by exact z2_ rfl) (by exact q3_ rfl))) (fun fl c' cl H₁ A outer s E hr=>(@a4P _ _ _ _ _ _ _ _ _ _ _ _ (by exact a7N) (by exact dx_turned) (by exact(hr.mono (show 7≤7 by decide))) (by exact rfl) (by exact(PA.nox (@q7_ _ _ _ _ _ _ (@z3_ _ _ _ _ _ (pv 3)) (@q7_ _ _ _ _ _ _ (@z3_ _ _ _ _ _ (pv 11)) (@v7_ _ _) (by exact z2_ rfl)) (by exact z2_ rfl)))) (by decide) (by exact z2_ rfl) (by exact q3_ rfl))) (by decide) (by exact z2_ rfl) (by exact q3_ rfl)) (@z8_ _ _ _ _ _) (by exact(nomark _))) (@v2_ _ _ _ _ (@y4_ _ _ _ _ _ (@g2_ _ _ _ _ _))) (@w5_ _ _)) (@v2_ _ _ _ _ (@w6_ _ _ _ _ _ _ _ _ _ (@a0e _ _ _ _ _ _ _ _ _ _ (by exact(op_neD hr.units)) (by exact opd_eq) (@a7R _ _ _ _ _ _ _ 7 _ _ ["-0","-1","-2","-3","-4","_law_none","-6","-7","-8","-9","-10","_law_bad"] _ [false,false,false,false,false,true,false,false,false,false,false,true] _ _ _ _ _ _ _ _ (by exact d__law_refused) (by exact(hr.mono (show 9≤9 by decide))) (by exact rfl) (by exact tb) (by exact rfl) (by exact hP) (fun _=>rfl) (by exact T.ex) (by exact(a0c rfl rfl)) (by exact rfl) (by exact rfl) (by decide+kernel) (by exact rfl) (fun _ _ _ _=>rfl) (fun fl c' cl H₁ A outer s E hr=>(@y1_ _ _ _ _ _ _ _ _ _ _ _ (by exact d_turned) (by exact(hr.mono (show 7≤7 by decide))) (by exact rfl) (@q7_ _ _ _ _ _ _ (@z3_ _ _ _ _ _ (pv 5)) (@q7_ _ _ _ _ _ _ (@z3_ _ _ _ _ _ (pv 11)) (@v7_ _ _) (by exact z2_ rfl)) (by exact z2_ rfl)) (by decide) (by exact z2_ rfl) (by exact q3_ rfl))) (fun fl c' cl H₁ A outer s E hr=>(@a4P _ _ _ _ _ _ _ _ _ _ _ _ (by exact a7N) (by exact dx_turned) (by exact(hr.mono (show 7≤7 by decide))) (by exact rfl) (by exact(PA.nox (@q7_ _ _ _ _ _ _ (@z3_ _ _ _ _ _ (pv 5)) (@q7_ _ _ _ _ _ _ (@z3_ _ _ _ _ _ (pv 11)) (@v7_ _ _) (by exact z2_ rfl)) (by exact z2_ rfl)))) (by decide) (by exact z2_ rfl) (by exact q3_ rfl))) (by decide) (by exact z2_ rfl) (by exact q3_ rfl)) (@z8_ _ _ _ _ _) (by exact(nomark _))) (@v2_ _ _ _ _ (@y4_ _ _ _ _ _ (@g2_ _ _ _ _ _))) (@w5_ _ _)))) (@w5_ _ _))) (by intro _;rfl)) (@v2_ _ _ _ _ (@w6_ _ _ _ _ _ _ _ _ _ (@a0e _ _ _ _ _ _ _ _ _ _ (by exact(op_neD hr.units)) (by exact opd_eq) (@a7R _ _ _ _ _ _ _ 7 _ _ ["-0","-1","-2","-3","-4","_law_none","_law_word","-7","-8","-9","-10","-11"] _ [false,false,false,false,false,true,true,false,false,false,false,false] _ _ _ _ _ _ _ _ (by exact d__law_refused) (by exact(hr.mono (show 9≤9 by decide))) (by exact rfl) (by exact tb) (by exact rfl) (by exact hP) (fun _=>rfl) (by exact T.ex) (by exact(a0c rfl rfl)) (by exact rfl) (by exact rfl) (by decide+kernel) (by exact rfl) (fun _ _ _ _=>rfl) (fun fl c' cl H₁ A outer s E hr=>(@y1_ _ _ _ _ _ _ _ _ _ _ _ (by exact d_turned) (by exact(hr.mono (show 7≤7 by decide))) (by exact rfl) (@q7_ _ _ _ _ _ _ (@z3_ _ _ _ _ _ (pv 5)) (@q7_ _ _ _ _ _ _ (@z3_ _ _ _ _ _ (pv 6)) (@v7_ _ _) (by exact z2_ rfl)) (by exact z2_ rfl)) (by decide) (by exact z2_ rfl) (by exact q3_ rfl))) (fun fl c' cl H₁ A outer s E hr=>(@a4P _ _ _ _ _ _ _ _ _ _ _ _ (by exact a7N) (by exact dx_turned) (by exact(hr.mono (show 7≤7 by decide))) (by exact rfl) (by exact(PA.nox (@q7_ _ _ _ _ _ _ (@z3_ _ _ _ _ _ (pv 5)) (@q7_ _ _ _ _ _ _ (@z3_ _ _ _ _ _ (pv 6)) (@v7_ _ _) (by exact z2_ rfl)) (by exact z2_ rfl)))) (by decide) (by exact z2_ rfl) (by exact q3_ rfl))) (by decide) (by exact z2_ rfl) (by exact q3_ rfl)) (@z8_ _ _ _ _ _) (by exact(nomark _))) (@v2_ _ _ _ _ (@y4_ _ _ _ _ _ (@g2_ _ _ _ _ _))) (@w5_ _ _))))))))))))) (by intro _;rfl)) (@v2_ _ _ _ _ (@y4_ _ _ _ _ _ (@a2U _ _ _ _ _ _ _ _ _ _ (by exact(op_eqD hr.units)) (by exact opd_eq) (@y1_ _ _ _ _ _ _ _ _ _ _ _ (by exact d_turned) (by exact(hr.mono (show 7≤9 by decide))) (by exact rfl) (@q7_ _ _ _ _ _ _ (@x1_ _ _ _ _ _ _ (@z6_ _ _ _ _ _ _ (@x1_ _ _ _ _ _ _ (@z6_ _ _ _ _ _ _ (@z8_ _ _ _ _ _) (@z6_ _ _ _ _ _ _ (@z8_ _ _ _ _ _) (@z6_ _ _ _ _ _ _ (@z8_ _ _ _ _ _) (@q1_ _ _) (by exact z2_ rfl)) (by exact z2_ rfl)) (by exact z2_ rfl))) (@z6_ _ _ _ _ _ _ (@x1_ _ _ _ _ _ _ (@z6_ _ _ _ _ _ _ (@z8_ _ _ _ _ _) (@z6_ _ _ _ _ _ _ (@z8_ _ _ _ _ _) (@z6_ _ _ _ _ _ _ (@z8_ _ _ _ _ _) (@q1_ _ _) (by exact z2_ rfl)) (by exact z2_ rfl)) (by exact z2_ rfl))) (@z6_ _ _ _ _ _ _ (@x1_ _ _ _ _ _ _ (@z6_ _ _ _ _ _ _ (@z8_ _ _ _ _ _) (@z6_ _ _ _ _ _ _ (@z8_ _ _ _ _ _) (@z6_ _ _ _ _ _ _ (@z8_ _ _ _ _ _) (@q1_ _ _) (by exact z2_ rfl)) (by exact z2_ rfl)) (by exact z2_ rfl))) (@q1_ _ _) (by exact z2_ rfl)) (by exact z2_ rfl)) (by exact z2_ rfl))) (@q7_ _ _ _ _ _ _ (@g3_ _ _ _ _ _ (by decide)) (@v7_ _ _) (by exact z2_ rfl)) (by exact z2_ rfl)) (by decide) (by exact z2_ rfl) (by exact q3_ rfl)) (@x1_ _ _ _ _ _ _ (@z6_ _ _ _ _ _ _ (@x1_ _ _ _ _ _ _ (@z6_ _ _ _ _ _ _ (@z8_ _ _ _ _ _) (@z6_ _ _ _ _ _ _ (@z8_ _ _ _ _ _) (@z6_ _ _ _ _ _ _ (@z8_ _ _ _ _ _) (@q1_ _ _) (by exact z2_ rfl)) (by exact z2_ rfl)) (by exact z2_ rfl))) (@z6_ _ _ _ _ _ _ (@x1_ _ _ _ _ _ _ (@z6_ _ _ _ _ _ _ (@z8_ _ _ _ _ _) (@z6_ _ _ _ _ _ _ (@z8_ _ _ _ _ _) (@z6_ _ _ _ _ _ _ (@z8_ _ _ _ _ _) (@q1_ _ _) (by exact z2_ rfl)) (by exact z2_ rfl)) (by exact z2_ rfl))) (@z6_ _ _ _ _ _ _ (@x1_ _ _ _ _ _ _ (@z6_ _ _ _ _ _ _ (@z8_ _ _ _ _ _) (@z6_ _ _ _ _ _ _ (@z8_ _ _ _ _ _) (@z6_ _ _ _ _ _ _ (@z8_ _ _ _ _ _) (@q1_ _ _) (by exact z2_ rfl)) (by exact z2_ rfl)) (by exact z2_ rfl))) (@q1_ _ _) (by exact z2_ rfl)) (by exact z2_ rfl)) (by exact z2_ rfl))) (by exact(nomark _))))))
end
def isW:D->Bool
 |.int _=>true
 |_=>false
theorem c0w(d:D):a1W [.dat d]=some (.d (.bl (isW d)),[.dat d]):=by cases d<;>rfl
def isR(d:D)(n:Int):Bool:=match d with
 |.tup es=>(es.length:Int)==n&&es.all isW
 |_=>false
theorem c0x(d:D)(n:Int)(hn:n≤1000):a1I [.dat d,.dat (.int n)]=some (.d (.bl (isR d n)),[.dat d,.dat (.int n)]):=by
 cases d with
 |tup es=>
  by_cases h:(es.length:Int)=n
  ·have t:(g5_ (y8_ (mT (mIs "tuple" (z0_ 0)))) (mT (z4_ (dEq true) (mCB v8_ (z1_ (z0_ 0) z5_)) (z0_ 1)))) [.dat (.tup es),.dat (.int n)]=some (false,[.dat (.tup es),.dat (.int n)]):=by
    show some (!((es.length:Int)==n),_)=_;rw[h];simp
   obtain⟨e',h1,w,rfl⟩:=a7x (g:=gN 2) (m:=mCD 1 a1W (z7_ (z0_ 2) q0_)) (P:=fun e=>∃w,e=[.nil,.nil,w]) (f:=fun d=>.bl (isW d)) (ds:=es) (env:=[.nil,.nil,.nil])
    (fun d _ e ⟨w,he⟩=>by
     subst he;refine⟨[.nil,.nil,.dat d],[.nil,.nil,.dat d],rfl,?_,_,rfl⟩;show((a1W [.dat d]).map fun q=>(q.1,_)).bind asD=_
     rw[c0w];rfl) ⟨.nil,rfl⟩
   have hl:es.length≤100000:=by omega
   have c:(y7_ (x2_ (z0_ 0)) [false,false] 1 (gN 2) x3_ (mCD 1 a1W (z7_ (z0_ 2) q0_))) [.dat (.tup es),.dat (.int n)]=some (es.map fun d=>.bl (isW d),[.dat (.tup es),.dat (.int n)]):=by
    show(if es.length≤100000 then(j1_ _ _ _ es [.nil,.nil,.nil]).bind _ else none)=_
    rw[Qc hl,h1];rfl
   unfold a1I fnM a8N;show(match q2_ _ _ [.dat (.tup es),.dat (.int n)]with|some (.ret d,env)=>_|some (.retL ds,env)=>_|some (.nx,env)=>_|_=>none)=_
   rw[y9_ (by rw[a0w t];rfl)]
   have r:(v1_ (mCB a2o (z1_ (mF (y7_ (x2_ (z0_ 0)) [false,false] 1 (gN 2) x3_ (mCD 1 a1W (z7_ (z0_ 2) q0_)))) z5_))) [.dat (.tup es),.dat (.int n)]=some (.ret (.bl (es.all isW)),[.dat (.tup es),.dat (.int n)]):=by
    unfold v1_ mCB z1_ mF;rw[c];show(((a0H (es.map fun d=>.bl (isW d))).map fun k=>D.bl k).map _).map _=_
    rw[a4b];rfl
   rw[r];show some (Rr.d (.bl (es.all isW)),_)=_
   simp[isR,h];rfl
  ·have t:(g5_ (y8_ (mT (mIs "tuple" (z0_ 0)))) (mT (z4_ (dEq true) (mCB v8_ (z1_ (z0_ 0) z5_)) (z0_ 1)))) [.dat (.tup es),.dat (.int n)]=some (true,[.dat (.tup es),.dat (.int n)]):=by
    show some (!((es.length:Int)==n),_)=_
    simp[h]
   unfold a1I fnM a8N;show(match q2_ _ _ [.dat (.tup es),.dat (.int n)]with|some (.ret d,env)=>_|some (.retL ds,env)=>_|some (.nx,env)=>_|_=>none)=_
   rw[a0I (d:=.bl false) (by rw[a0Y t];rfl)]
   simp[isR,h];rfl
 |_=>rfl
def isG(d:D)(m n:Int):Bool:=match d with
 |.tup es=>(es.length:Int)==m&&es.all fun r=>isR r n
 |_=>false
theorem c0y(d:D)(k n:Int)(hk:k≤1000)(hn:n≤1000):a4g [.dat d,.dat (.int k),.dat (.int n)]=some (.d (.bl (isG d k n)),[.dat d,.dat (.int k),.dat (.int n)]):=by
 cases d with
 |tup es=>
  by_cases h:(es.length:Int)=k
  ·have t:(g5_ (y8_ (mT (mIs "tuple" (z0_ 0)))) (mT (z4_ (dEq true) (mCB v8_ (z1_ (z0_ 0) z5_)) (z0_ 1)))) [.dat (.tup es),.dat (.int k),.dat (.int n)]=some (false,[.dat (.tup es),.dat (.int k),.dat (.int n)]):=by
    show some (!((es.length:Int)==k),_)=_;rw[h];simp
   obtain⟨e',h1,w,rfl⟩:=a7x (g:=gN 3) (m:=mCD 2 a1I (z7_ (z0_ 3) (z7_ (z0_ 2) q0_))) (P:=fun e=>∃w,e=[.nil,.nil,.dat (.int n),w]) (f:=fun d=>.bl (isR d n)) (ds:=es) (env:=[.nil,.nil,.dat (.int n),.nil])
    (fun d _ e ⟨w,he⟩=>by
     subst he;refine⟨[.nil,.nil,.dat (.int n),.dat d],[.nil,.nil,.dat (.int n),.dat d],rfl,?_,_,rfl⟩;show((a1I [.dat d,.dat (.int n)]).map fun q=>(q.1,_)).bind asD=_
     rw[c0x d n hn];rfl) ⟨.nil,rfl⟩
   have hl:es.length≤100000:=by omega
   have c:(y7_ (x2_ (z0_ 0)) [false,false,true] 1 (gN 3) x3_ (mCD 2 a1I (z7_ (z0_ 3) (z7_ (z0_ 2) q0_)))) [.dat (.tup es),.dat (.int k),.dat (.int n)]=some (es.map fun d=>.bl (isR d n),[.dat (.tup es),.dat (.int k),.dat (.int n)]):=by
    show(if es.length≤100000 then(j1_ _ _ _ es [.nil,.nil,.dat (.int n),.nil]).bind _ else none)=_
    rw[Qc hl,h1];rfl
   refine(w3_ (d:=.bl (isG (.tup es) k n)) (env:=[.dat (.tup es),.dat (.int k),.dat (.int n)]) ?_).trans rfl;show a4S [.dat (.tup es),.dat (.int k),.dat (.int n)]=_;unfold a4S;rw[y9_ (by rw[a0w t];rfl)]
   unfold v1_ mCB z1_ mF;rw[c];show(((a0H (es.map fun d=>.bl (isR d n))).map fun k=>D.bl k).map _).map _=_
   rw[a4b]
   simp[isG,h]
  ·have t:(g5_ (y8_ (mT (mIs "tuple" (z0_ 0)))) (mT (z4_ (dEq true) (mCB v8_ (z1_ (z0_ 0) z5_)) (z0_ 1)))) [.dat (.tup es),.dat (.int k),.dat (.int n)]=some (true,[.dat (.tup es),.dat (.int k),.dat (.int n)]):=by
    show some (!((es.length:Int)==k),_)=_
    simp[h]
   refine(w3_ (d:=.bl (isG (.tup es) k n)) (env:=[.dat (.tup es),.dat (.int k),.dat (.int n)]) ?_).trans rfl;show a4S [.dat (.tup es),.dat (.int k),.dat (.int n)]=_;unfold a4S;rw[a0I (d:=.bl false) (by rw[a0Y t];rfl)]
   simp[isG,h]
 |_=>rfl
def isS(d:D)(a b:Int):Bool:=match d with
 |.tup es=>(decide (a≤(es.length:Int))&&decide ((es.length:Int)≤b))&&es.all fun r=>isR r es.length
 |_=>false
theorem c0z(d:D)(a b:Int)(hb:b≤1000):a3r [.dat d,.dat (.int a),.dat (.int b)]=some (.d (.bl (isS d a b)),[.dat d,.dat (.int a),.dat (.int b)]):=by
 cases d with
 |tup es=>
  have t:(g5_ (y8_ (mT (mIs "tuple" (z0_ 0)))) (y8_ (mT (a0C dLe dLe (z0_ 1) (mCB v8_ (z1_ (z0_ 0) z5_)) (z0_ 2))))) [.dat (.tup es),.dat (.int a),.dat (.int b)]=some (!(decide (a≤(es.length:Int))&&decide ((es.length:Int)≤b)),[.dat (.tup es),.dat (.int a),.dat (.int b)]):=by
   by_cases h1:a≤(es.length:Int)
   ·have e1:dLe (.int a) (.int es.length)=some (.bl true):=by show some (D.bl (decide _))=_;simp[h1]
    show(((match dLe (.int a) (.int es.length)with|some (.bl true)=>_|some (.bl false)=>_|_=>none:Option (D×Env')).bind asB).map _)=_
    rw[e1,Uk h1];rfl
   ·have e1:dLe (.int a) (.int es.length)=some (.bl false):=by show some (D.bl (decide _))=_;simp[h1]
    show(((match dLe (.int a) (.int es.length)with|some (.bl true)=>_|some (.bl false)=>_|_=>none:Option (D×Env')).bind asB).map _)=_
    rw[e1,Zx h1];rfl
  by_cases h:(decide (a≤(es.length:Int))&&decide ((es.length:Int)≤b))=true
  ·rw[h]at t
   refine(w3_ (d:=.bl (isS (.tup es) a b)) (env:=[.dat (.tup es),.dat (.int a),.dat (.int b)]) ?_).trans rfl;show a4T [.dat (.tup es),.dat (.int a),.dat (.int b)]=_;unfold a4T;rw[y9_ (by rw[a0w t];rfl)]
   have hl:(es.length:Int)≤1000:=by
    rw[Qy,Zd,Zd]at h
    omega
   show(((a4g [.dat (.tup es),.dat (.int es.length),.dat (.int es.length)]).map fun q=>(q.1,_)).bind asD).map _=_
   rw[c0y _ _ _ hl hl]
   simp[isS,isG,h,asD]
  ·have h':(decide (a≤(es.length:Int))&&decide ((es.length:Int)≤b))=false:=by simpa using h
   rw[h']at t;refine(w3_ (d:=.bl (isS (.tup es) a b)) (env:=[.dat (.tup es),.dat (.int a),.dat (.int b)]) ?_).trans rfl;show a4T [.dat (.tup es),.dat (.int a),.dat (.int b)]=_;unfold a4T;rw[a0I (d:=.bl false) (by rw[a0Y t];rfl)]
   simp[isS,h']
 |_=>rfl
def dR(l:List Int):D:=.tup (l.map .int)
def dT(R:OI):D:=.tup (R.map dR)
def unI:D->Int
 |.int i=>i
 |_=>0
def unR:D->List Int
 |.tup es=>es.map unI
 |.lst es=>es.map unI
 |_=>[]
def unT:D->OI
 |.tup es=>es.map unR
 |_=>[]
theorem c0A{d:D}(h:isW d=true):d=.int (unI d):=by cases d<;>first|rfl|cases h
theorem b2o{es:List D}(h:es.all isW=true):es=(es.map unI).map .int:=by
 induction es with
 |nil=>rfl
 |cons d es ih=>
  rw[Up,Qy]at h;rw[Qs,Qs,←c0A h.1,←ih h.2]
theorem a6l{d:D}{n:Int}(h:isR d n=true):d=dR (unR d)/\((unR d).length:Int)=n:=by
 cases d<;>first|cases h|skip
 rename_i es;simp only[isR,Qy,Yn]at h;refine⟨?_,by simp[unR,h.1]⟩
 show D.tup es=.tup ((es.map unI).map .int);rw[←b2o h.2]
theorem b2p{d:D}{a b:Int}(h:isS d a b=true):d=dT (unT d)/\a≤((unT d).length:Int)/\((unT d).length:Int)≤b/\∀r∈unT d,r.length=(unT d).length:=by
 cases d<;>first|cases h|skip
 rename_i es;simp only[isS,Qy,Zd,Qw]at h;refine⟨?_,by simpa [unT]using h.1.1,by simpa [unT]using h.1.2,fun r hr=>?_⟩
 ·show D.tup es=.tup ((es.map unR).map dR)
  congr 1
  rw[Zn]
  conv=>lhs;rw[←Vm es]
  exact Za fun x hx=>(a6l (h.2 x hx)).1
 ·obtain⟨x,hx,rfl⟩:=Zk.mp hr
  have:=(a6l (h.2 x hx)).2;simp only[unT,Qk]
  omega
theorem c0B(l:List Int):(l.map D.int).map unI=l:=by rw[Zn];exact Vm l
theorem b2q(l:List Int):unR (dR l)=l:=c0B l
theorem a6m(R:OI):unT (dT R)=R:=by
 show(R.map dR).map unR=R;rw[Zn]
 conv=>rhs;rw[←Vm R]
 exact Za fun r _=>b2q r
theorem c0C(l:List Int):isR (dR l) l.length=true:=by
 simp[isR,dR,isW]
theorem b2r{R:OI}{a b:Int}(h1:a≤R.length)(h2:(R.length:Int)≤b)(h:∀r∈R,r.length=R.length):isS (dT R) a b=true:=by
 simp only[isS,dT,Qk,Qy,Zd,Qw];refine⟨⟨h1,h2⟩,fun x hx=>?_⟩
 obtain⟨r,hr,rfl⟩:=Zk.mp hx;have:=c0C r;rw[h r hr]at this;exact this
theorem a1f{α:Type}{xs:List α}{j:Nat}{x:α}(h:xs[j]? =some x):atI xs (j:Int)=some x:=by
 have hj:j<xs.length:=(Qg.mp h).1
 unfold atI ixN;rw[Qc (by omega),Qc (by omega)]
 simpa using h
theorem a2G(n:Nat):a0l 0 n=(List.range n).map fun(i:Nat)=>D.int i:=by
 unfold a0l;exact Za fun i _=>by simp
theorem a3E{α:Type}{g:OZ}{m:Mo D}{P:Env'->Prop}{q:α->D}{f:α->D}{l:List α}{env:Env'}(h:∀a∈l,∀e,P e->∃e1 e2,g (q a) e=some e1/\m e1=some (f a,e2)/\P e2)(p:P env):
  ∃env',j1_ g x3_ m (l.map q) env=some (l.map f,env')/\P env':=by
 induction l generalizing env with
 |nil=>exact⟨env,rfl,p⟩
 |cons a l ih=>
  obtain⟨e1,e2,h1,h2,h3⟩:=h a (by simp) env p
  obtain⟨e3,h4,h5⟩:=ih (fun x hx=>h x (by simp[hx])) h3
  refine⟨e3,?_,h5⟩;rw[Qs,Qs];unfold j1_;rw[h1];simp only[Qx,x3_,Zs];rw[h2];simp only[Qx];rw[h4];rfl
def flip(n:Nat)(R:OI):OI:=(List.range n).map fun j=>R.map fun r=>r.getD j 0
theorem c0D{R:OI}{n:Nat}(h:∀r∈R,r.length=n){j:Nat}(hj:j<n){r:List Int}(hr:r∈R):dIx (dR r) (.int (j:Int))=some (.int (r.getD j 0)):=by
 show atI (r.map D.int) (j:Int)=_
 apply a1f
 have:=h r hr
 simp[Zw (show j<r.length by omega)]
theorem b2s{R:OI}{n:Nat}(hR:R≠[])(h:∀r∈R,r.length=n)(hn:n≤1000)(hl:R.length≤1000):a0y [.dat (dT R)]=some (.d (dT (flip n R)),[.dat (dT R)]):=by
 obtain⟨r0,R',rfl⟩:∃r0 R',R=r0::R':=by
  cases R with
  |nil=>exact absurd rfl hR
  |cons a b=>exact⟨a,b,rfl⟩
 have h0:r0.length=n:=h r0 (by simp)
 have inner:∀j,j<n->(mCB a0k (z1_ (mF (y7_ (x2_ (z0_ 0)) [false,true] 1 (gN 2) x3_ (z4_ dIx (z0_ 2) (z0_ 1)))) z5_)) [.dat (dT (r0::R')),.dat (.int (j:Int))]=some (dR ((r0::R').map fun r=>r.getD j 0),[.dat (dT (r0::R')),.dat (.int (j:Int))]):=fun j hj=>by
  obtain⟨e',h1,w',rfl⟩:=a3E (g:=gN 2) (m:=z4_ dIx (z0_ 2) (z0_ 1)) (P:=fun e=>∃w,e=[.nil,.dat (.int (j:Int)),w]) (q:=dR) (f:=fun r=>.int (r.getD j 0)) (l:=r0::R') (env:=[.nil,.dat (.int (j:Int)),.nil])
   (fun r hr e ⟨w,he⟩=>by
    subst he;refine⟨[.nil,.dat (.int (j:Int)),.dat (dR r)],[.nil,.dat (.int (j:Int)),.dat (dR r)],rfl,?_,_,rfl⟩;show(dIx (dR r) (.int (j:Int))).map _=_;rw[c0D h hj hr];rfl) ⟨.nil,rfl⟩
  have hl':((r0::R').map dR).length≤100000:=by rw[Qk];omega
  have c:(y7_ (x2_ (z0_ 0)) [false,true] 1 (gN 2) x3_ (z4_ dIx (z0_ 2) (z0_ 1))) [.dat (dT (r0::R')),.dat (.int (j:Int))]=some ((r0::R').map fun r=>.int (r.getD j 0),[.dat (dT (r0::R')),.dat (.int (j:Int))]):=by
   show(if((r0::R').map dR).length≤100000 then(j1_ _ _ _ ((r0::R').map dR) [.nil,.dat (.int (j:Int)),.nil]).bind _ else none)=_
   rw[Qc hl',h1];rfl
  unfold mCB z1_ mF;rw[c];show some (D.tup _,_)=_;unfold dR;rw[Zn];rfl
 obtain⟨e',h1,w,rfl⟩:=a3E (g:=gN 1) (m:=mCB a0k (z1_ (mF (y7_ (x2_ (z0_ 0)) [false,true] 1 (gN 2) x3_ (z4_ dIx (z0_ 2) (z0_ 1)))) z5_)) (P:=fun e=>∃w,e=[.dat (dT (r0::R')),w]) (q:=fun(j:Nat)=>D.int j) (f:=fun j=>dR ((r0::R').map fun r=>r.getD j 0)) (l:=List.range n) (env:=[.dat (dT (r0::R')),.nil])
  (fun j hj e ⟨w,he⟩=>by
   subst he;exact⟨_,_,rfl,inner j (Yq.mp hj),_,rfl⟩) ⟨.nil,rfl⟩
 refine(w3_ (d:=dT (flip n (r0::R'))) (env:=[.dat (dT (r0::R'))]) ?_).trans rfl;show a8O [.dat (dT (r0::R'))]=_;unfold a8O;have hrg:(j4_ (z1_ (mCB v8_ (z1_ (z4_ dIx (z0_ 0) (mC (.int 0))) z5_)) z5_)) [.dat (dT (r0::R'))]=some (a0l 0 n,[.dat (dT (r0::R'))]):=by
  have e:(z1_ (mCB v8_ (z1_ (z4_ dIx (z0_ 0) (mC (.int 0))) z5_)) z5_) [.dat (dT (r0::R'))]=some ([.int (n:Int)],[.dat (dT (r0::R'))]):=by
   refine y2_ (a0J (y2_ (v6_ rfl rfl (show dIx (dT (r0::R')) (.int 0)=some (dR r0)from a1f (xs:=(r0::R').map dR) (j:=0) rfl)) rfl) ?_) rfl
   show some (D.int ((r0.map D.int).length:Nat))=_;rw[Qk,h0]
  have:=a4M e (by omega) (by omega)
  rwa [Yl]at this
 have c:(y7_ (j4_ (z1_ (mCB v8_ (z1_ (z4_ dIx (z0_ 0) (mC (.int 0))) z5_)) z5_)) [true] 1 (gN 1) x3_ (mCB a0k (z1_ (mF (y7_ (x2_ (z0_ 0)) [false,true] 1 (gN 2) x3_ (z4_ dIx (z0_ 2) (z0_ 1)))) z5_))) [.dat (dT (r0::R'))]=some ((List.range n).map fun j=>dR ((r0::R').map fun r=>r.getD j 0),[.dat (dT (r0::R'))]):=by
  refine a2s (e2:=[.dat (dT (r0::R')),w]) hrg (by rw[a2G];simp;omega) ?_ rfl
  rw[a2G];exact h1
 refine j2_ (a0J (y2_ (a0i c) rfl) ?_);show some (D.tup _)=_;unfold dT flip;rw[Zn];rfl
def tt:Int->List Int->Bool
 |s,[]=>s==1
 |s,x::l=>(s+x==0||s+x==1)&&tt (s+x) l
abbrev a1d:Mo Fl:=(q2_ (a5z 1 a5t (z0_ 2)) (y3_ (mT (z4_ (dIn true) (z0_ 1) (q9_ (z1_ (mC (.int 0)) (z1_ (mC (.int 1)) z5_))))) (v1_ (mC (.bl false))) mNx))
theorem c0E(L:D)(s x:Int):a1d [.dat L,.dat (.int s),.dat (.int x)]=some (stop (s+x==0||s+x==1) (.bl false),[.dat L,.dat (.int (s+x)),.dat (.int x)]):=by
 have t:(mT (z4_ (dIn true) (z0_ 1) (q9_ (z1_ (mC (.int 0)) (z1_ (mC (.int 1)) z5_))))) [.dat L,.dat (.int (s+x)),.dat (.int x)]=some (!(s+x==0||s+x==1),[.dat L,.dat (.int (s+x)),.dat (.int x)]):=by
  show some (!(List.contains [(0:Int),1] (s+x)),_)=_;rw[Vr,Vr,List.contains_nil,Bool.or_false]
 unfold a1d;rw[y9_ (e1:=[.dat L,.dat (.int (s+x)),.dat (.int x)]) rfl];cases hb:(s+x==0||s+x==1)with
 |true=>rw[hb]at t;rw[a0w t];rfl
 |false=>rw[hb]at t;rw[a0Y t];rfl
theorem b2u(L:D):∀(l:List Int) (s:Int) (w:W),(∃s' w',loop (gN 2) a1d (l.map .int) [.dat L,.dat (.int s),w]=some (.nx,[.dat L,.dat (.int s'),w'])/\tt s l=(s'==1))∨(tt s l=false/\∃e,loop (gN 2) a1d (l.map .int) [.dat L,.dat (.int s),w]=some (.ret (.bl false),e)/\e.length=3/\e[0]? =some (.dat L))
 |[],s,w=>.inl ⟨s,w,rfl,rfl⟩
 |x::l,s,w=>by
  have h:=c0E L s x
  cases hb:(s+x==0||s+x==1)with
  |true=>
   rw[hb]at h;have e:∀r,loop (gN 2) a1d ((x::l).map .int) [.dat L,.dat (.int s),w]=r↔loop (gN 2) a1d (l.map .int) [.dat L,.dat (.int (s+x)),.dat (.int x)]=r:=fun r=>by
    rw[Qs];have:loop (gN 2) a1d (D.int x::l.map .int) [.dat L,.dat (.int s),w]=loop (gN 2) a1d (l.map .int) [.dat L,.dat (.int (s+x)),.dat (.int x)]:=by
     show(a1d [.dat L,.dat (.int s),.dat (.int x)]).bind _=_;rw[h];rfl
    rw[this]
   have et:tt s (x::l)=tt (s+x) l:=by simp[tt,hb]
   rw[et]
   rcases b2u L l (s+x) (.dat (.int x))with⟨s',w',h1,h2⟩|⟨h1,e',h2,h3⟩
   ·exact .inl ⟨s',w',(e _).mpr h1,h2⟩
   ·exact .inr ⟨h1,e',(e _).mpr h2,h3⟩
  |false=>
   rw[hb]at h;refine .inr ⟨by simp[tt,hb],[.dat L,.dat (.int (s+x)),.dat (.int x)],?_,rfl,rfl⟩
   rw[Qs];show(a1d [.dat L,.dat (.int s),.dat (.int x)]).bind _=_;rw[h];rfl
theorem c0F(l:List Int):a2C [.dat (dR l)]=some (.d (.bl (tt 0 l)),[.dat (dR l)]):=by
 have hi:(w8_ (x2_ (z0_ 0)) (gN 2) a1d) [.dat (dR l),.dat (.int 0),.nil]=loop (gN 2) a1d (l.map .int) [.dat (dR l),.dat (.int 0),.nil]:=rfl
 rcases b2u (dR l) l 0 .nil with⟨s',w',h1,h2⟩|⟨h1,e',h2,h3,h4⟩
 ·refine(w3_ (d:=.bl (tt 0 l)) (env:=[.dat (dR l),.dat (.int s'),w']) ?_).trans rfl
  show a4U [.dat (dR l),.nil,.nil]=_;unfold a4U;rw[y9_ (e1:=[.dat (dR l),.dat (.int 0),.nil]) rfl,y9_ (hi.trans h1)];show some (Fl.ret (.bl (s'==1)),_)=_;rw[h2]
 ·refine(w3_ (d:=.bl (tt 0 l)) (env:=e') ?_).trans ?_
  ·show a4U [.dat (dR l),.nil,.nil]=_
   unfold a4U;rw[y9_ (e1:=[.dat (dR l),.dat (.int 0),.nil]) rfl,a0I (hi.trans h2),h1]
  ·match e',h3,h4 with
   |[a,b,c],_,h4=>cases h4;rfl
def isT(d:D):Bool:=isS d 1 6&&(unT d++flip (unT d).length (unT d)).all (tt 0)
theorem b2v{n:Nat}{R:OI}:(flip n R).length=n:=by simp[flip]
theorem a9k(d:D):a3s [.dat d]=some (.d (.bl (isT d)),[.dat d]):=by
 have t:(y8_ (mT (mCD 3 a3r (z7_ (z0_ 0) (z7_ (mC (.int 1)) (z7_ (mC (.int 6)) q0_)))))) [.dat d]=some (!isS d 1 6,[.dat d]):=by
  show((((a3r [.dat d,.dat (.int 1),.dat (.int 6)]).map fun q=>(q.1,_)).bind asD).bind asB).map _=_
  rw[c0z d 1 6 (by decide)];rfl
 refine(w3_ (d:=.bl (isT d)) (env:=[.dat d]) ?_).trans rfl;show a8P [.dat d]=_;unfold a8P;cases hs:isS d 1 6 with
 |false=>
  rw[hs]at t;rw[a0I (d:=.bl false) (by rw[a0Y t];rfl)]
  simp[isT,hs]
 |true=>
  rw[hs]at t;rw[y9_ (by rw[a0w t];rfl)]
  obtain⟨h1,h2,h3,h4⟩:=b2p hs;generalize unT d=R at h1 h2 h3 h4;subst h1;have fl:a0y [.dat (dT R)]=some (.d (dT (flip R.length R)),[.dat (dT R)]):=b2s (by intro z;subst z;simp at h2) h4 (by omega) (by omega)
  have it:(x2_ (z4_ v5_ (z0_ 0) (mCD 1 a0y (z7_ (z0_ 0) q0_)))) [.dat (dT R)]=some ((R++flip R.length R).map dR,[.dat (dT R)]):=by
   show(((((a0y [.dat (dT R)]).map fun q=>(q.1,_)).bind asD).bind fun q=>(v5_ (dT R) q.1).map fun d=>(d,q.2)).bind _)=_
   rw[fl];show((v5_ (dT R) (dT (flip R.length R))).map fun d=>(d,([.dat (dT R)]:Env'))).bind _=_
   have:v5_ (dT R) (dT (flip R.length R))=some (.tup ((R++flip R.length R).map dR)):=by
    show(if(R.map dR).length+((flip R.length R).map dR).length≤10000 then _ else none)=_
    rw[Qc (by rw[Qk,Qk,b2v];omega),Uc]
   rw[this];rfl
  obtain⟨e',h5,w,rfl⟩:=a3E (g:=gN 1) (m:=mCD 1 a2C (z7_ (z0_ 1) q0_)) (P:=fun e=>∃w,e=[.nil,w]) (q:=dR) (f:=fun r=>.bl (tt 0 r)) (l:=R++flip R.length R) (env:=[.nil,.nil])
   (fun r _ e ⟨w,he⟩=>by
    subst he;refine⟨[.nil,.dat (dR r)],[.nil,.dat (dR r)],rfl,?_,_,rfl⟩;show((a2C [.dat (dR r)]).map fun q=>(q.1,_)).bind asD=_
    rw[c0F];rfl) ⟨.nil,rfl⟩
  have c:(y7_ (x2_ (z4_ v5_ (z0_ 0) (mCD 1 a0y (z7_ (z0_ 0) q0_)))) [false] 1 (gN 1) x3_ (mCD 1 a2C (z7_ (z0_ 1) q0_))) [.dat (dT R)]=some ((R++flip R.length R).map fun r=>.bl (tt 0 r),[.dat (dT R)]):=by
   unfold y7_;rw[it];show(if((R++flip R.length R).map dR).length≤100000 then(j1_ _ _ _ ((R++flip R.length R).map dR) [.nil,.nil]).bind _ else none)=_
   rw[Qc (by rw[Qk,Zq,b2v];omega),h5];rfl
  unfold v1_ mCB z1_ mF;rw[c];show(((a0H ((R++flip R.length R).map fun r=>.bl (tt 0 r))).map fun k=>D.bl k).map _).map _=_
  rw[a4b];simp only[isT,hs,a6m,Ze];rfl
theorem a4n{i j:Int}(h:a2V i j=true):g7_ (.int i) (.int j)=some (.int (i * j)):=by
 unfold g7_ fOr a6R fI;simp only[h,Zs]
theorem a5d{i j:Int}(h1: -18446744073709551616<i)(h2:i<18446744073709551616):a2V i j=true:=by
 unfold a2V;rw[show((2:Int)^64)=18446744073709551616 from rfl]
 simp[h1,h2]
theorem c0G{i j:Int}(h1: -18446744073709551616<j)(h2:j<18446744073709551616):a2V i j=true:=by
 unfold a2V;rw[show((2:Int)^64)=18446744073709551616 from rfl]
 simp[h1,h2]
theorem a6n:∀l:List Int,x6_ (l.map D.int)=l.map PyData.int
 |[]=>rfl
 |x::l=>by show PyData.int x::x6_ (l.map D.int)=_;rw[a6n l];rfl
theorem a5W:∀l:List Int,PyData.canLayAll0 (l.map PyData.int)=true
 |[]=>rfl
 |x::l=>by show(true&&PyData.canLayAll0 (l.map PyData.int))=true;rw[a5W l];rfl
theorem b2w:∀l:List Int,PyData.depthAll (l.map PyData.int)=0
 |[]=>rfl
 |x::l=>by show max 0 (PyData.depthAll (l.map PyData.int))=0;rw[b2w l];rfl
theorem b2x:∀l k:List Int,PyData.eqvAll (l.map PyData.int) (k.map PyData.int)=decide (l=k)
 |[],[]=>rfl
 |[],_::_=>rfl
 |_::_,[]=>rfl
 |x::l,y::k=>by
  show((x==y)&&PyData.eqvAll (l.map PyData.int) (k.map PyData.int))=_;rw[b2x l k]
  by_cases h:x=y
  ·subst h;simp
  ·simp[h]
theorem b2y(l:List Int):shp (.lst (l.map D.int))=true:=by
 unfold shp SeqAt.shaped;show(PyData.canLayAll0 (x6_ (l.map D.int))&&decide (PyData.depthAll (x6_ (l.map D.int))+1≤64))=true;rw[a6n,a5W,b2w];rfl
theorem c0H(l k:List Int):dEq false (.lst (l.map D.int)) (.lst (k.map D.int))=some (.bl (decide (l=k))):=by
 unfold dEq;rw[b2y,b2y];show some (D.bl (PyData.eqvAll (x6_ (l.map D.int)) (x6_ (k.map D.int))))=_;rw[a6n,a6n,b2x]
theorem a9l{α:Type}{g:OZ}{t:Mo Bool}{m:Mo D}{P:Env'->Prop}{q:α->D}{f:α->D}{p:α->Bool}:∀{l:List α}{env:Env'},(∀a∈l,∀e,P e->∃e1 e2,g (q a) e=some e1/\t e1=some (p a,e2)/\(p a=true->∃e3,m e2=some (f a,e3)/\P e3)/\(p a=false->P e2))->P env->
  ∃env',j1_ g t m (l.map q) env=some ((l.filter p).map f,env')/\P env'
 |[],env,_,h=>⟨env,rfl,h⟩
 |a::l,env,h,hp=>by
  obtain⟨e1,e2,h1,h2,h3,h4⟩:=h a (by simp) env hp
  cases hb:p a with
  |true=>
   obtain⟨e3,h5,h6⟩:=h3 hb;obtain⟨e4,h7,h8⟩:=a9l (l:=l) (fun x hx=>h x (by simp[hx])) h6
   refine⟨e4,?_,h8⟩;rw[Qs,Ja hb,Qs];unfold j1_;rw[h1];simp only[Qx];rw[h2,hb];simp only[Qx,Zs];rw[h5];simp only[Qx];rw[h7];rfl
  |false=>
   obtain⟨e4,h7,h8⟩:=a9l (l:=l) (fun x hx=>h x (by simp[hx])) (h4 hb)
   refine⟨e4,?_,h8⟩;rw[Qs,Jt (by simp[hb])]
   unfold j1_;rw[h1];simp only[Qx];rw[h2,hb];simp only[Qx,Zh,Jx];exact h7
def inB(d:D)(a b:Int):Bool:=match d with
 |.int i=>decide (a≤i)&&decide (i≤b)
 |_=>false
theorem b2z{a i b:Int}{e:Env'}{ma mb mc:Mo D}(h1:ma e=some (.int a,e))(h2:mb e=some (.int i,e))(h3:mc e=some (.int b,e)):a0C dLe dLe ma mb mc e=some (.bl (decide (a≤i)&&decide (i≤b)),e):=by
 unfold a0C;rw[h1];show(mb e).bind _=_;rw[h2]
 by_cases h:a≤i
 ·have e1:dLe (.int a) (.int i)=some (.bl true):=by show some (D.bl (decide _))=_;simp[h]
  simp only[Qx,e1];rw[h3];show some (D.bl (decide (i≤b)),e)=_
  simp[h]
 ·have e1:dLe (.int a) (.int i)=some (.bl false):=by show some (D.bl (decide _))=_;simp[h]
  simp only[Qx,e1]
  simp[h]
theorem c0I(d:D)(a b:Int):a1J [.dat d,.dat (.int a),.dat (.int b)]=some (.d (.bl (inB d a b)),[.dat d,.dat (.int a),.dat (.int b)]):=by
 cases d with
 |int i=>
  refine(w3_ (d:=.bl (inB (.int i) a b)) (env:=[.dat (.int i),.dat (.int a),.dat (.int b)]) ?_).trans rfl;show a9e [.dat (.int i),.dat (.int a),.dat (.int b)]=_;unfold a9e;have c:=b2z (e:=[.dat (.int i),.dat (.int a),.dat (.int b)]) (ma:=z0_ 1) (mb:=z0_ 0) (mc:=z0_ 2) rfl rfl rfl;exact j2_ c
 |_=>rfl
def tt2(l:List Int):Bool:=decide (l.filter (fun x=>!(x==0))=(List.range (l.filter fun x=>!(x==0)).length).map fun(i:Nat)=>1-2 * ((i:Int)%2))&&(((l.filter fun x=>!(x==0)).length:Int)%2==1)
theorem b2A(d:D)(l:List Int)(hd:d.items=some (l.map .int))(hl:l.length≤1000):a1p [.dat d]=some (.d (.bl (tt2 l)),[.dat d]):=by
 obtain⟨e',h1,w,rfl⟩:=a9l (g:=gN 2) (t:=mT (z4_ (dEq true) (z0_ 2) (mC (.int 0)))) (m:=z0_ 2) (P:=fun e=>∃w,e=[.nil,.nil,w]) (q:=D.int) (f:=D.int) (p:=fun x=>!(x==0)) (l:=l) (env:=[.nil,.nil,.nil])
  (fun x _ e ⟨w,he⟩=>by
   subst he;exact⟨[.nil,.nil,.dat (.int x)],[.nil,.nil,.dat (.int x)],rfl,rfl,fun _=>⟨_,rfl,_,rfl⟩,fun _=>⟨_,rfl⟩⟩) ⟨.nil,rfl⟩
 generalize hs:l.filter (fun x=>!(x==0))=s at h1
 have hsl:s.length≤1000:=by rw[←hs];exact Qo (List.length_filter_le _ _) hl
 have c1:(y7_ (x2_ (z0_ 0)) [false,false] 1 (gN 2) (mT (z4_ (dEq true) (z0_ 2) (mC (.int 0)))) (z0_ 2)) [.dat d,.nil]=some (s.map .int,[.dat d,.nil]):=
  a2s (e2:=[.nil,.nil,w]) (a3k rfl hd) (by rw[Qk];omega) h1 rfl
 obtain⟨e',h2,w2,rfl⟩:=a3E (g:=gN 2) (m:=z4_ y0_ (mC (.int 1)) (z4_ g7_ (mC (.int 2)) (z4_ g4_ (z0_ 2) (mC (.int 2))))) (P:=fun e=>∃w,e=[.nil,.nil,w]) (q:=fun(i:Nat)=>D.int i) (f:=fun i=>.int (1-2 * ((i:Int)%2))) (l:=List.range s.length) (env:=[.nil,.nil,.nil])
  (fun i _ e ⟨w,he⟩=>by
   subst he;refine⟨[.nil,.nil,.dat (.int i)],[.nil,.nil,.dat (.int i)],rfl,?_,_,rfl⟩;refine v6_ (b:=.int (2 * ((i:Int)%2))) rfl (v6_ rfl (v6_ rfl rfl (show g4_ (.int i) (.int 2)=some (.int ((i:Int)%2))from rfl)) ?_) rfl
   exact a4n (a5d (by decide) (by decide))) ⟨.nil,rfl⟩
 have c2:(y7_ (j4_ (z1_ (mCB v8_ (z1_ (z0_ 1) z5_)) z5_)) [false,false] 1 (gN 2) x3_ (z4_ y0_ (mC (.int 1)) (z4_ g7_ (mC (.int 2)) (z4_ g4_ (z0_ 2) (mC (.int 2)))))) [.dat d,.dat (.lst (s.map .int))]=some (((List.range s.length).map fun(i:Nat)=>1-2 * ((i:Int)%2)).map D.int,[.dat d,.dat (.lst (s.map .int))]):=by
  have r1:(j4_ (z1_ (mCB v8_ (z1_ (z0_ 1) z5_)) z5_)) [.dat d,.dat (.lst (s.map .int))]=some (a0l 0 s.length,[.dat d,.dat (.lst (s.map .int))]):=by
   have e:(z1_ (mCB v8_ (z1_ (z0_ 1) z5_)) z5_) [.dat d,.dat (.lst (s.map .int))]=some ([.int (s.length:Int)],[.dat d,.dat (.lst (s.map .int))]):=by
    refine y2_ (a0J (y2_ rfl rfl) ?_) rfl;show some (D.int ((s.map D.int).length:Nat))=_;rw[Qk]
   have:=a4M e (by omega) (by omega)
   rwa [Yl]at this
  refine a2s (e2:=[.nil,.nil,w2]) r1 (by rw[a2G];simp;omega) ?_ rfl
  rw[a2G,Zn];exact h2
 refine(w3_ (d:=.bl (tt2 l)) (env:=[.dat d,.dat (.lst (s.map .int))]) ?_).trans rfl;show a9f [.dat d,.nil]=_;unfold a9f;rw[y9_ (b1n c1)];show v1_ _ [.dat d,.own (s.map .int)]=_;refine j2_ ?_
 have a1:(z4_ (dEq false) (z0_ 1) (mF (y7_ (j4_ (z1_ (mCB v8_ (z1_ (z0_ 1) z5_)) z5_)) [false,false] 1 (gN 2) x3_ (z4_ y0_ (mC (.int 1)) (z4_ g7_ (mC (.int 2)) (z4_ g4_ (z0_ 2) (mC (.int 2)))))))) [.dat d,.own (s.map .int)]=some (.bl (decide (s=(List.range s.length).map fun(i:Nat)=>1-2 * ((i:Int)%2))),[.dat d,.dat (.lst (s.map .int))]):=
  v6_ (e1:=[.dat d,.dat (.lst (s.map .int))]) rfl (a0i c2) (c0H _ _)
 have a2:(z4_ (dEq false) (z4_ g4_ (mCB v8_ (z1_ (z0_ 1) z5_)) (mC (.int 2))) (mC (.int 1))) [.dat d,.dat (.lst (s.map .int))]=some (.bl ((s.length:Int)%2==1),[.dat d,.dat (.lst (s.map .int))]):=by
  refine v6_ (v6_ (a0J (y2_ rfl rfl) (show v8_ [.lst (s.map .int)]=some (.int (s.length:Int))from ?_)) rfl rfl) rfl rfl
  show some (D.int ((s.map D.int).length:Nat))=_;rw[Qk]
 unfold u4_;rw[a1];simp only[Qx];unfold tt2;rw[hs];cases hb:decide (s=(List.range s.length).map fun(i:Nat)=>1-2 * ((i:Int)%2))with
 |true=>simp only[Ze];exact a2
 |false=>simp only[Jr]
def alt:Int->Nat->List Int
 |_,0=>[]
 |s,k+1=>(1-2 * s)::alt (1-s) k
theorem b2B:∀(k j:Nat),(List.range' j k).map (fun(i:Nat)=>1-2 * ((i:Int)%2))=alt ((j:Int)%2) k
 |0,_=>rfl
 |k+1,j=>by
  rw[List.range'_succ,Qs,b2B k (j+1)];show _=(1-2 * ((j:Int)%2))::alt (1-(j:Int)%2) k
  congr 2
  omega
theorem c0J(k:Nat):(List.range k).map (fun(i:Nat)=>1-2 * ((i:Int)%2))=alt 0 k:=by
 rw[List.range_eq_range'];exact b2B k 0
def small(x:Int):Bool:=decide (-1≤x)&&decide (x≤1)
theorem c0K(l:List Int):∀s:Int,(s=0∨s=1)->tt s l=tt s (l.filter fun x=>!(x==0)):=by
 induction l with
 |nil=>intro s _;rfl
 |cons x l ih=>
  intro s hs
  by_cases hx:x=0
  ·subst hx
   rw[Jt (by simp),←ih s hs]
   rcases hs with rfl|rfl<;>simp[tt]
  ·rw[Ja (by simp[hx])]
   simp only[tt]
   by_cases h:(s+x==0||s+x==1)=true
   ·rw[h,Ze,Ze]
    exact ih (s+x) (by simpa using h)
   ·have h':(s+x==0||s+x==1)=false:=by simpa using h
    rw[h',Jr,Jr]
theorem c0L(l:List Int):∀s:Int,(s=0∨s=1)->(∀x∈l,x=1∨x= -1)->tt s l=(decide (l=alt s l.length)&&((l.length:Int)+s)%2==1):=by
 induction l with
 |nil=>intro s hs _;rcases hs with rfl|rfl<;>rfl
 |cons x l ih=>
  intro s hs hx;have hx1:=hx x (by simp)
  have ih':=fun s hs=>ih s hs fun y hy=>hx y (by simp[hy])
  simp only[tt,Ji,alt]
  rcases hs with rfl|rfl
  ·rcases hx1 with rfl|rfl
   ·have:=ih' 1 (.inr rfl)
    show(true&&tt 1 l)=(decide (1::l=(1:Int)::alt 1 l.length)&&((((l.length+1:Nat):Int)+0)%2==1));have e1:decide (1::l=(1:Int)::alt 1 l.length)=decide (l=alt 1 l.length):=by simp
    have e2:((l.length:Int)+1)=(((l.length+1:Nat):Int)+0):=by omega
    rw[Ze,this,e1,e2]
   ·simp[show((0:Int)+ -1==0||(0:Int)+ -1==1)=false from rfl]
  ·rcases hx1 with rfl|rfl
   ·simp[show((1:Int)+1==0||(1:Int)+1==1)=false from rfl]
   ·have:=ih' 0 (.inl rfl)
    show(true&&tt 0 l)=(decide (-1::l=(-1:Int)::alt 0 l.length)&&((((l.length+1:Nat):Int)+1)%2==1));have e1:decide (-1::l=(-1:Int)::alt 0 l.length)=decide (l=alt 0 l.length):=by simp
    have e2:((l.length:Int)+0)%2=(((l.length+1:Nat):Int)+1)%2:=by omega
    rw[Ze,this,e1,e2]
theorem b2C(l:List Int)(h:∀x∈l,small x=true):tt 0 l=tt2 l:=by
 rw[c0K l 0 (.inl rfl),c0L _ 0 (.inl rfl) (fun x hx=>?_)]
 ·unfold tt2
  rw[c0J,Int.add_zero]
 ·obtain⟨h1,h2⟩:=List.mem_filter.mp hx
  have:=h x h1
  simp[small]at this h2
  omega
theorem b2D(l:List Int):∀s:Int,(s=0∨s=1)->tt s l=true->∀x∈l,small x=true:=by
 induction l with
 |nil=>intro s _ _ x hx;cases hx
 |cons y l ih=>
  intro s hs h x hx;simp only[tt,Qy]at h;have h1:s+y=0∨s+y=1:=by simpa using h.1
  rcases Qh.mp hx with rfl|hx
  ·simp[small];omega
  ·exact ih (s+y) h1 h.2 x hx
theorem c0M(l:List Int):tt 0 l=(l.all small&&tt2 l):=by
 by_cases h:l.all small=true
 ·rw[h,Ze];exact b2C l (Qw.mp h)
 ·have h':l.all small=false:=by simpa using h
  rw[h',Jr];cases ht:tt 0 l with
  |false=>rfl
  |true=>exact absurd (Qw.mpr (b2D l 0 (.inl rfl) ht)) h
def Pl(w:W):Prop:=w=.nil∨ ∃d,w=.dat d
def a0z(n:Nat)(d:D):Bool:=match d with
 |.tup xs=>(xs.length==n)&&(xs.all (fun x=>inB x (-1) 1)&&tt2 (unR d))
 |_=>false
theorem a9m{x:D}(h:inB x (-1) 1=true):isW x=true/\small (unI x)=true:=by
 cases x<;>first|cases h|skip
 exact⟨rfl,h⟩
theorem a5e(n:Nat)(d:D):a0z n d=(isR d n&&tt 0 (unR d)):=by
 cases d with
 |tup xs=>
  simp only[a0z,isR]
  by_cases hl:xs.length=n
  ·subst hl
   rw[c0M];simp only[Uy,Ze,←Bool.and_assoc]
   congr 1
   by_cases h:xs.all (fun x=>inB x (-1) 1)=true
   ·rw[h]
    have h1:=Qw.mp h
    have a1:xs.all isW=true:=Qw.mpr fun x hx=>(a9m (h1 x hx)).1
    have a2:(unR (.tup xs)).all small=true:=Qw.mpr fun y hy=>by
     obtain⟨x,hx,rfl⟩:=Zk.mp hy;exact(a9m (h1 x hx)).2
    rw[a1,a2];rfl
   ·have h':xs.all (fun x=>inB x (-1) 1)=false:=by simpa using h
    rw[h'];cases hw:(xs.all isW&&(unR (.tup xs)).all small)with
    |false=>rfl
    |true=>
     rw[Qy]at hw
     exfalso
     apply h
     refine Qw.mpr fun x hx=>?_
     have b1:=Qw.mp hw.1 x hx
     have b2:=Qw.mp hw.2 (unI x) (Zk.mpr ⟨x,hx,rfl⟩)
     cases x<;>first|exact b2|cases b1
  ·have h1:(xs.length==n)=false:=by simpa using hl
   have h2:((xs.length:Int)==(n:Int))=false:=by
    rw[Jw];omega
   rw[h1,h2];rfl
 |_=>rfl
abbrev a5f:Mo Fl:=(q2_ (y3_ (g5_ (y8_ (mT (mIs "tuple" (z0_ 1)))) (mT (z4_ (dEq true) (mCB v8_ (z1_ (z0_ 1) z5_)) (mCB v8_ (z1_ (z0_ 0) z5_))))) (v1_ (mC (.bl false))) mNx) (q2_ (w8_ (x2_ (z0_ 1)) (gN 2) (y3_ (y8_ (mT (mCD 3 a1J (z7_ (z0_ 2) (z7_ (a0T (mC (.int 1))) (z7_ (mC (.int 1)) q0_)))))) (v1_ (mC (.bl false))) mNx)) (y3_ (y8_ (mT (mCD 1 a1p (z7_ (z0_ 1) q0_)))) (v1_ (mC (.bl false))) mNx)))
theorem c0N{es:List D}(hn:es.length≤6)(d:D)(w2:W):∃w2',a5f [.dat (.tup es),.dat d,w2]=some (stop (a0z es.length d) (.bl false),[.dat (.tup es),.dat d,w2']):=by
 cases d with
 |tup xs=>
  by_cases hl:xs.length=es.length
  ·have t:(g5_ (y8_ (mT (mIs "tuple" (z0_ 1)))) (mT (z4_ (dEq true) (mCB v8_ (z1_ (z0_ 1) z5_)) (mCB v8_ (z1_ (z0_ 0) z5_))))) [.dat (.tup es),.dat (.tup xs),w2]=some (false,[.dat (.tup es),.dat (.tup xs),w2]):=by
    show some (!((xs.length:Int)==(es.length:Int)),_)=_;rw[hl];simp
   have lp:∃w2',loop (gN 2) (y3_ (y8_ (mT (mCD 3 a1J (z7_ (z0_ 2) (z7_ (a0T (mC (.int 1))) (z7_ (mC (.int 1)) q0_)))))) (v1_ (mC (.bl false))) mNx) xs [.dat (.tup es),.dat (.tup xs),w2]=some (stop (xs.all fun x=>inB x (-1) 1) (.bl false),[.dat (.tup es),.dat (.tup xs),w2']):=by
    obtain⟨e',h1,w',rfl⟩:=a7z (g:=gN 2) (b:=y3_ (y8_ (mT (mCD 3 a1J (z7_ (z0_ 2) (z7_ (a0T (mC (.int 1))) (z7_ (mC (.int 1)) q0_)))))) (v1_ (mC (.bl false))) mNx) (P:=fun e=>∃w,e=[.dat (.tup es),.dat (.tup xs),w]) (ok:=fun x=>inB x (-1) 1) (r:=.bl false) (ds:=xs) (env:=[.dat (.tup es),.dat (.tup xs),w2])
     (fun x _ e ⟨w,he⟩=>by
      subst he;refine⟨[.dat (.tup es),.dat (.tup xs),.dat x],[.dat (.tup es),.dat (.tup xs),.dat x],rfl,?_,_,rfl⟩;have c:(y8_ (mT (mCD 3 a1J (z7_ (z0_ 2) (z7_ (a0T (mC (.int 1))) (z7_ (mC (.int 1)) q0_)))))) [.dat (.tup es),.dat (.tup xs),.dat x]=some (!inB x (-1) 1,[.dat (.tup es),.dat (.tup xs),.dat x]):=
       a1C (a0p (a0K (a1S (av:=[.d x,.d (.int (-1)),.d (.int 1)]) rfl rfl rfl (c0I x (-1) 1))))
      cases hb:inB x (-1) 1 with
      |true=>rw[hb]at c;rw[a0w c];rfl
      |false=>rw[hb]at c;rw[a0Y c];rfl) ⟨_,rfl⟩
    exact⟨w',h1⟩
   obtain⟨w2',h1⟩:=lp;have fr:(w8_ (x2_ (z0_ 1)) (gN 2) (y3_ (y8_ (mT (mCD 3 a1J (z7_ (z0_ 2) (z7_ (a0T (mC (.int 1))) (z7_ (mC (.int 1)) q0_)))))) (v1_ (mC (.bl false))) mNx)) [.dat (.tup es),.dat (.tup xs),w2]=some (stop (xs.all fun x=>inB x (-1) 1) (.bl false),[.dat (.tup es),.dat (.tup xs),w2']):=(a1D (a3k rfl rfl)).trans h1
   refine⟨w2',?_⟩;unfold a5f;rw[y9_ (by rw[a0w t];rfl)]
   cases ha:xs.all (fun x=>inB x (-1) 1)with
   |false=>
    rw[ha]at fr;rw[a0I (d:=.bl false) fr]
    simp[a0z,hl,ha,stop]
   |true=>
    rw[ha]at fr;rw[y9_ fr];have h2:xs=(xs.map unI).map .int:=b2o (Qw.mpr fun x hx=>(a9m (Qw.mp ha x hx)).1)
    have c:(y8_ (mT (mCD 1 a1p (z7_ (z0_ 1) q0_)))) [.dat (.tup es),.dat (.tup xs),w2']=some (!tt2 (unR (.tup xs)),[.dat (.tup es),.dat (.tup xs),w2']):=
     a1C (a0p (a0K (a1S (av:=[.d (.tup xs)]) rfl rfl rfl (b2A (.tup xs) (xs.map unI) (by show some xs=_;rw[←h2]) (by rw[Qk];omega)))))
    cases hb:tt2 (unR (.tup xs))with
    |true=>rw[hb]at c;rw[a0w c];simp[a0z,hl,ha,hb,stop,mNx]
    |false=>rw[hb]at c;rw[a0Y c];simp[a0z,hl,ha,hb,stop,v1_,mC]
  ·have t:(g5_ (y8_ (mT (mIs "tuple" (z0_ 1)))) (mT (z4_ (dEq true) (mCB v8_ (z1_ (z0_ 1) z5_)) (mCB v8_ (z1_ (z0_ 0) z5_))))) [.dat (.tup es),.dat (.tup xs),w2]=some (true,[.dat (.tup es),.dat (.tup xs),w2]):=by
    show some (!((xs.length:Int)==(es.length:Int)),_)=_;have:((xs.length:Int)==(es.length:Int))=false:=by rw[Jw];omega
    rw[this];rfl
   refine⟨w2,?_⟩;unfold a5f;rw[a0I (d:=.bl false) (by rw[a0Y t];rfl)]
   have:(xs.length==es.length)=false:=by simpa using hl
   simp[a0z,this,stop]
 |_=>exact⟨w2,rfl⟩
theorem c0O{es:List D}(hok:es.all (a0z es.length)=true):(flip es.length (es.map unR)).all (tt 0)=(List.range es.length).all fun j=>tt2 ((es.map unR).map fun r=>r.getD j 0):=by
 unfold flip;rw[List.all_map];have e:∀j∈List.range es.length,((tt 0)∘fun j=>(es.map unR).map fun r=>r.getD j 0) j=tt2 ((es.map unR).map fun r=>r.getD j 0):=fun j hj=>by
  apply b2C
  intro x hx;obtain⟨r,hr,rfl⟩:=Zk.mp hx;obtain⟨d,hd,rfl⟩:=Zk.mp hr;have h1:=Qw.mp hok d hd;rw[a5e,Qy]at h1;have h2:=b2D _ 0 (.inl rfl) h1.2
  by_cases hj':j<(unR d).length
  ·have:(unR d).getD j 0=(unR d)[j]:=by simp[hj']
   rw[this];exact h2 _ (Yt hj')
  ·have:(unR d).getD j 0=0:=by simp[Nat.le_of_not_lt hj']
   rw[this];rfl
 rw[Bool.eq_iff_iff,Qw,Qw];exact⟨fun h j hj=>(e j hj) ▸ h j hj,fun h j hj=>(e j hj).symm ▸ h j hj⟩
theorem c0P(es:List D):isT (.tup es)=((decide (1≤(es.length:Int))&&decide ((es.length:Int)≤6))&&(es.all (a0z es.length)&&(List.range es.length).all fun j=>tt2 ((es.map unR).map fun r=>r.getD j 0))):=by
 unfold isT isS;simp only[Bool.and_assoc]
 congr 1
 congr 1
 have hu:unT (.tup es)=es.map unR:=rfl
 rw[hu,Xk,Qk];cases hk:es.all (a0z es.length)with
 |true=>
  have h1:es.all (fun r=>isR r es.length)=true:=Qw.mpr fun d hd=>by
   have:=Qw.mp hk d hd;rw[a5e,Qy]at this;exact this.1
  have h2:(es.map unR).all (tt 0)=true:=Qw.mpr fun r hr=>by
   obtain⟨d,hd,rfl⟩:=Zk.mp hr;have:=Qw.mp hk d hd;rw[a5e,Qy]at this;exact this.2
  rw[h1,h2,c0O hk];rfl
 |false=>
  rw[Jr];cases h1:es.all (fun r=>isR r es.length)with
  |false=>rfl
  |true=>
   have h2:(es.map unR).all (tt 0)=false:=by
    cases h3:(es.map unR).all (tt 0)with
    |false=>rfl
    |true=>
     have:es.all (a0z es.length)=true:=Qw.mpr fun d hd=>by
      rw[a5e,Qy];exact⟨Qw.mp h1 d hd,Qw.mp h3 (unR d) (Zk.mpr ⟨d,hd,rfl⟩)⟩
     rw[hk]at this;cases this
   rw[h2];rfl
theorem c0Q(d:D):a3C [.dat d]=some (.d (.bl (isT d)),[.dat d]):=by
 cases d with
 |tup es=>
  have t:(g5_ (y8_ (mT (mIs "tuple" (z0_ 0)))) (y8_ (mT (a0C dLe dLe (mC (.int 1)) (mCB v8_ (z1_ (z0_ 0) z5_)) (mC (.int 6)))))) [.dat (.tup es),.nil,.nil]=some (!(decide (1≤(es.length:Int))&&decide ((es.length:Int)≤6)),[.dat (.tup es),.nil,.nil]):=by
   have c:=b2z (e:=[.dat (.tup es),.nil,.nil]) (ma:=mC (.int 1)) (mb:=mCB v8_ (z1_ (z0_ 0) z5_)) (mc:=mC (.int 6)) (a:=1) (i:=es.length) (b:=6) rfl rfl rfl
   have u:=a1C (a0p c)
   unfold g5_;show(some (false,([.dat (.tup es),.nil,.nil]:Env'))).bind _=_;exact u
  rw[c0P];cases hb:(decide (1≤(es.length:Int))&&decide ((es.length:Int)≤6))with
  |false=>
   rw[hb]at t;refine(w3_ (d:=.bl false) (env:=[.dat (.tup es),.nil,.nil]) ?_).trans rfl;show a3B [.dat (.tup es),.nil,.nil]=_;unfold a3B;rw[a0I (d:=.bl false) (by rw[a0Y t];rfl)]
  |true=>
   rw[hb]at t;have hn:1≤es.length/\es.length≤6:=by
    rw[Qy,Zd,Zd]at hb
    omega
   obtain⟨e',h1,w1,w2,hw,rfl⟩:=a7z (g:=gN 1) (b:=a5f) (P:=fun e=>∃w1 w2,Pl w1/\e=[.dat (.tup es),w1,w2]) (ok:=a0z es.length) (r:=.bl false) (ds:=es) (env:=[.dat (.tup es),.nil,.nil])
    (fun x _ e ⟨w1,w2,_,he⟩=>by
     subst he;obtain⟨w2',h⟩:=c0N hn.2 x w2;exact⟨_,_,rfl,h,_,_,.inr ⟨_,rfl⟩,rfl⟩) ⟨_,_,.inl rfl,rfl⟩
   have fr:(w8_ (x2_ (z0_ 0)) (gN 1) a5f) [.dat (.tup es),.nil,.nil]=some (stop (es.all (a0z es.length)) (.bl false),[.dat (.tup es),w1,w2]):=(a1D (a3k rfl rfl)).trans h1
   cases hk:es.all (a0z es.length)with
   |false=>
    rw[hk]at fr;refine(w3_ (d:=.bl false) (env:=[.dat (.tup es),w1,w2]) ?_).trans rfl;show a3B [.dat (.tup es),.nil,.nil]=_;unfold a3B;rw[y9_ (by rw[a0w t];rfl),a0I (d:=.bl false) fr]
   |true=>
    rw[hk]at fr;have hlen:∀d∈es,∃xs,d=.tup ((unR d).map .int)/\(unR d).length=es.length/\xs=unR d:=fun d hd=>by
     have:=Qw.mp hk d hd;rw[a5e,Qy]at this;obtain⟨a1,a2⟩:=a6l this.1;exact⟨_,a1,by omega,rfl⟩
    have inner:∀j,j<es.length->(mCD 1 a1p (z7_ (mF (y7_ (x2_ (z0_ 0)) [false,false,false,true] 1 (gN 4) x3_ (z4_ dIx (z0_ 4) (z0_ 3)))) q0_)) [.dat (.tup es),w1,.nil,.dat (.int (j:Int))]=some (.bl (tt2 ((es.map unR).map fun r=>r.getD j 0)),[.dat (.tup es),w1,.nil,.dat (.int (j:Int))]):=fun j hj=>by
     obtain⟨e',g1,w',rfl⟩:=a3E (g:=gN 4) (m:=z4_ dIx (z0_ 4) (z0_ 3)) (P:=fun e=>∃w,e=[.nil,.nil,.nil,.dat (.int (j:Int)),w]) (q:=id) (f:=fun d=>.int ((unR d).getD j 0)) (l:=es) (env:=[.nil,.nil,.nil,.dat (.int (j:Int)),.nil])
      (fun d hd e ⟨w,he⟩=>by
       subst he;obtain⟨_,a1,a2,_⟩:=hlen d hd;refine⟨[.nil,.nil,.nil,.dat (.int (j:Int)),.dat d],[.nil,.nil,.nil,.dat (.int (j:Int)),.dat d],rfl,v6_ rfl rfl ?_,_,rfl⟩;rw[a1,b2q (unR d)|>fun h=>(show unR (.tup ((unR d).map .int))=unR d from h)]
       exact a1f (by simp[Zw (show j<(unR d).length by omega)])) ⟨.nil,rfl⟩
     rw[Vm]at g1;have c:(y7_ (x2_ (z0_ 0)) [false,false,false,true] 1 (gN 4) x3_ (z4_ dIx (z0_ 4) (z0_ 3))) [.dat (.tup es),w1,.nil,.dat (.int (j:Int))]=some (((es.map unR).map fun r=>r.getD j 0).map .int,[.dat (.tup es),w1,.nil,.dat (.int (j:Int))]):=by
      rw[Zn,Zn];exact a2s (e2:=[.nil,.nil,.nil,.dat (.int (j:Int)),w']) (a3k rfl rfl) (by omega) g1 rfl
     exact a0K (a1S (av:=[.d (.lst (((es.map unR).map fun r=>r.getD j 0).map .int))]) (a3j (a0i c) rfl) rfl rfl (b2A _ _ rfl (by simp;omega)))
    obtain⟨e',g1,w',rfl⟩:=a3E (g:=gN 3) (m:=(mCD 1 a1p (z7_ (mF (y7_ (x2_ (z0_ 0)) [false,false,false,true] 1 (gN 4) x3_ (z4_ dIx (z0_ 4) (z0_ 3)))) q0_))) (P:=fun e=>∃w,e=[.dat (.tup es),w1,.nil,w]) (q:=fun(j:Nat)=>D.int j) (f:=fun j=>.bl (tt2 ((es.map unR).map fun r=>r.getD j 0))) (l:=List.range es.length) (env:=[.dat (.tup es),w1,.nil,.nil])
     (fun j hj e ⟨w,he⟩=>by
      subst he;exact⟨_,_,rfl,inner j (Yq.mp hj),_,rfl⟩) ⟨.nil,rfl⟩
    have r1:(j4_ (z1_ (mCB v8_ (z1_ (z0_ 0) z5_)) z5_)) [.dat (.tup es),w1,w2]=some (a0l 0 es.length,[.dat (.tup es),w1,w2]):=by
     have:=a4M (ms:=z1_ (mCB v8_ (z1_ (z0_ 0) z5_)) z5_) (env:=[.dat (.tup es),w1,w2]) (e1:=[.dat (.tup es),w1,w2]) (j:=es.length) rfl (by omega) (by omega)
     rwa [Yl]at this
    have c:(y7_ (j4_ (z1_ (mCB v8_ (z1_ (z0_ 0) z5_)) z5_)) [true,true,false] 1 (gN 3) x3_ (mCD 1 a1p (z7_ (mF (y7_ (x2_ (z0_ 0)) [false,false,false,true] 1 (gN 4) x3_ (z4_ dIx (z0_ 4) (z0_ 3)))) q0_))) [.dat (.tup es),w1,w2]=some ((List.range es.length).map fun j=>.bl (tt2 ((es.map unR).map fun r=>r.getD j 0)),[.dat (.tup es),w1,w2]):=by
     refine a2s (e2:=[.dat (.tup es),w1,.nil,w']) r1 (by rw[a2G];simp;omega) ?_ ?_
     ·rw[a2G];exact g1
     ·rcases hw with rfl|⟨dd,rfl⟩<;>rfl
    refine(w3_ (d:=.bl ((List.range es.length).all fun j=>tt2 ((es.map unR).map fun r=>r.getD j 0))) (env:=[.dat (.tup es),w1,w2]) ?_).trans (by simp;rfl)
    show a3B [.dat (.tup es),.nil,.nil]=_;unfold a3B;rw[y9_ (by rw[a0w t];rfl),y9_ fr]
    refine j2_ (a0J (y2_ (a0i c) rfl) ?_);show(a0H _).map _=_;rw[a4b];rfl
 |_=>rfl
theorem b2E{i j k:Int}(h:a5s i j=true)(e:i^j.toNat=k):a1g (.int i) (.int j)=some (.int k):=by
 show(if a5s i j=true then some (D.int (i^j.toNat))else none)=_
 rw[Qc h,e]
theorem b2F:a1g (.int 10) (.int 18)=some (.int 1000000000000000000):=b2E (by decide+kernel) (by decide+kernel)
theorem a9n{a m:Int}{b:Bool}(ha:0≤a)(h1:1≤m)(h2:m<1073741824):∃v a',k2_ [.par [.int a,.bl b],.dat (.int m)]=some (.d (.int v),[.par [.int a',.bl b],.dat (.int m)])/\0≤v/\v<m/\0≤a':=by
 have dm:∀x:Int,g4_ (.int x) (.int m)=some (.int (x%m)):=fun x=>by
  show(if decide (0<m)=true then _ else none)=_
  rw[Qc (by simp;omega)]
 have dd:∀x:Int,a4z (.int x) (.int m)=some (.int (x/m)):=fun x=>by
  show(if a5r x m=true then _ else none)=_
  rw[Qc (by unfold a5r;simp;omega)]
 cases b with
 |true=>
  refine⟨a%m,a/m,?_,Uz _ (by omega),Ud _ (by omega),Int.ediv_nonneg ha (by omega)⟩
  refine(w3_ (d:=.int (a%m)) (env:=[.par [.int (a/m),.bl true],.dat (.int m),.nil,.dat (.int (a%m))]) ?_).trans rfl;show a5a [.par [.int a,.bl true],.dat (.int m),.nil,.nil]=_;unfold a5a;have t:(mT (w7_ 0 (mC (.int 1)))) [.par [.int a,.bl true],.dat (.int m),.nil,.nil]=some (true,[.par [.int a,.bl true],.dat (.int m),.nil,.nil]):=rfl;have s1:(q8_ 3 (z4_ g4_ (w7_ 0 (mC (.int 0))) (z0_ 1))) [.par [.int a,.bl true],.dat (.int m),.nil,.nil]=some (.nx,[.par [.int a,.bl true],.dat (.int m),.nil,.dat (.int (a%m))]):=g1_ (e1:=[.par [.int a,.bl true],.dat (.int m),.nil,.nil]) (v6_ rfl rfl (dm a));have s2:(a0g (z4_ a4z (w7_ 0 (mC (.int 0))) (z0_ 1)) (gS 0 (mC (.int 0)))) [.par [.int a,.bl true],.dat (.int m),.nil,.dat (.int (a%m))]=some (.nx,[.par [.int (a/m),.bl true],.dat (.int m),.nil,.dat (.int (a%m))]):=by
   unfold a0g;rw[v6_ (c:=.int (a/m)) rfl rfl (dd a)];rfl
  rw[a0I (d:=.int (a%m)) (by rw[a0Y t,y9_ s1,y9_ s2];rfl)]
 |false=>
  have e1:∀x:Int,g7_ (.int x) (.int 48271)=some (.int (x * 48271)):=fun x=>a4n (c0G (by decide) (by decide))
  have md:∀(x k:Int),0<k->g4_ (.int x) (.int k)=some (.int (x%k)):=fun x k hk=>by
   show(if decide (0<k)=true then _ else none)=_
   rw[Qc (by simp;omega)]
  let p:Int:=(a * 48271+29)%2147483647
  have hp:0≤p/\p<2147483647:=⟨Uz _ (by decide),Ud _ (by decide)⟩
  let q:Int:=(p * p+39373 * p+7)%2147483629
  have hq:0≤q/\q<2147483629:=⟨Uz _ (by decide),Ud _ (by decide)⟩
  let r:Int:=(q * q+16807 * q)%2147483587
  have hr:0≤r:=Uz _ (by decide)
  refine⟨r/8%m,p,?_,Uz _ (by omega),Ud _ (by omega),hp.1⟩
  refine(w3_ (d:=.int (r/8%m)) (env:=[.par [.int p,.bl false],.dat (.int m),.dat (.int r),.nil]) ?_).trans rfl;show a5a [.par [.int a,.bl false],.dat (.int m),.nil,.nil]=_;unfold a5a;have t:(mT (w7_ 0 (mC (.int 1)))) [.par [.int a,.bl false],.dat (.int m),.nil,.nil]=some (false,[.par [.int a,.bl false],.dat (.int m),.nil,.nil]):=rfl;have s1:(a0g (z4_ g4_ (z4_ v5_ (z4_ g7_ (w7_ 0 (mC (.int 0))) (mC (.int 48271))) (mC (.int 29))) (mC (.int 2147483647))) (gS 0 (mC (.int 0)))) [.par [.int a,.bl false],.dat (.int m),.nil,.nil]=some (.nx,[.par [.int p,.bl false],.dat (.int m),.nil,.nil]):=by
   unfold a0g;rw[v6_ (c:=.int p) (v6_ (c:=.int (a * 48271+29)) (v6_ rfl rfl (e1 a)) rfl rfl) rfl (md _ _ (by decide))];rfl
  have s2:(q8_ 2 (z4_ g4_ (z4_ v5_ (z4_ v5_ (z4_ g7_ (w7_ 0 (mC (.int 0))) (w7_ 0 (mC (.int 0)))) (z4_ g7_ (mC (.int 39373)) (w7_ 0 (mC (.int 0))))) (mC (.int 7))) (mC (.int 2147483629)))) [.par [.int p,.bl false],.dat (.int m),.nil,.nil]=some (.nx,[.par [.int p,.bl false],.dat (.int m),.dat (.int q),.nil]):=
   g1_ (e1:=[.par [.int p,.bl false],.dat (.int m),.nil,.nil]) (v6_ (c:=.int q) (v6_ (c:=.int (p * p+39373 * p+7)) (v6_ (c:=.int (p * p+39373 * p)) (v6_ rfl rfl (a4n (i:=p) (j:=p) (a5d (by omega) (by omega)))) (v6_ rfl rfl (a4n (i:=39373) (j:=p) (a5d (by decide) (by decide)))) rfl) rfl rfl) rfl (md _ _ (by decide)))
  have s3:(q8_ 2 (z4_ g4_ (z4_ v5_ (z4_ g7_ (z0_ 2) (z0_ 2)) (z4_ g7_ (mC (.int 16807)) (z0_ 2))) (mC (.int 2147483587)))) [.par [.int p,.bl false],.dat (.int m),.dat (.int q),.nil]=some (.nx,[.par [.int p,.bl false],.dat (.int m),.dat (.int r),.nil]):=
   g1_ (e1:=[.par [.int p,.bl false],.dat (.int m),.dat (.int q),.nil]) (v6_ (c:=.int r) (v6_ (c:=.int (q * q+16807 * q)) (v6_ rfl rfl (a4n (i:=q) (j:=q) (a5d (by omega) (by omega)))) (v6_ rfl rfl (a4n (i:=16807) (j:=q) (a5d (by decide) (by decide)))) rfl) rfl (md _ _ (by decide)))
  rw[y9_ (by rw[a0w t];rfl),y9_ s1,y9_ s2,y9_ s3]
  exact j2_ (v6_ (c:=.int (r/8%m)) (v6_ (c:=.int (r/8)) rfl rfl rfl) rfl (dm _))
theorem c0R(ns:List Int)(k:Nat)(hk:k<1000):∃c,a4j [.dat (.lst (ns.map .int)),.dat (.int k)]=some (.d (.int c),[.dat (.lst (ns.map .int)),.dat (.int k)]):=by
 have t:(mT (z4_ dLt (z0_ 1) (mCB v8_ (z1_ (z0_ 0) z5_)))) [.dat (.lst (ns.map .int)),.dat (.int k)]=some (decide ((k:Int)<(ns.length:Int)),[.dat (.lst (ns.map .int)),.dat (.int k)]):=by
  show some (decide ((k:Int)<((ns.map D.int).length:Nat)),_)=_;rw[Qk]
 by_cases h:k<ns.length
 ·have hd:decide ((k:Int)<(ns.length:Int))=true:=by simp;omega
  rw[hd]at t;refine⟨ns[k],(w3_ (d:=.int ns[k]) (env:=[.dat (.lst (ns.map .int)),.dat (.int k)]) ?_).trans rfl⟩;show a4Y [.dat (.lst (ns.map .int)),.dat (.int k)]=_;unfold a4Y;rw[a0I (d:=.int ns[k]) (by
   rw[a0Y t];exact j2_ (v6_ rfl rfl (show atI (ns.map D.int) (k:Int)=_ from a1f (by simp[h]))))]
 ·have hd:decide ((k:Int)<(ns.length:Int))=false:=by simp;omega
  rw[hd]at t;refine⟨0,(w3_ (d:=.int 0) (env:=[.dat (.lst (ns.map .int)),.dat (.int k)]) ?_).trans rfl⟩;show a4Y [.dat (.lst (ns.map .int)),.dat (.int k)]=_;unfold a4Y;rw[y9_ (by rw[a0w t];rfl)];rfl
theorem c0S(ns:List Int)(k:Nat)(hk:k<1000):∃a b,0≤a/\a4k [.dat (.lst (ns.map .int)),.dat (.int k)]=some (.l [.int a,.bl b],[.dat (.lst (ns.map .int)),.dat (.int k)]):=by
 obtain⟨c,hc⟩:=c0R ns k hk;have s1:(q8_ 2 (mCD 2 a4j (z7_ (z0_ 0) (z7_ (z0_ 1) q0_)))) [.dat (.lst (ns.map .int)),.dat (.int k),.nil]=some (.nx,[.dat (.lst (ns.map .int)),.dat (.int k),.dat (.int c)]):=
  g1_ (e1:=[.dat (.lst (ns.map .int)),.dat (.int k),.nil]) (a0K (a1S (av:=[.d (.lst (ns.map .int)),.d (.int k)]) rfl rfl rfl hc))
 have t:(mT (z4_ dGe (z0_ 2) (z4_ a1g (mC (.int 10)) (mC (.int 18))))) [.dat (.lst (ns.map .int)),.dat (.int k),.dat (.int c)]=some (decide (1000000000000000000≤c),[.dat (.lst (ns.map .int)),.dat (.int k),.dat (.int c)]):=by
  refine a0p (v6_ (b:=.int 1000000000000000000) rfl ?_ rfl);exact v6_ rfl rfl b2F
 by_cases h:1000000000000000000≤c
 ·rw[Uk h]at t
  refine⟨c-1000000000000000000,true,by omega,(b1m (d:=[.int (c-1000000000000000000),.bl true]) (env:=[.dat (.lst (ns.map .int)),.dat (.int k),.dat (.int c)]) ?_).trans rfl⟩
  show a4Z [.dat (.lst (ns.map .int)),.dat (.int k),.nil]=_;unfold a4Z;rw[y9_ s1];have r:(a2h (x4_ (z1_ (z4_ y0_ (z0_ 2) (z4_ a1g (mC (.int 10)) (mC (.int 18)))) (z1_ (mC (.bl true)) z5_)))) [.dat (.lst (ns.map .int)),.dat (.int k),.dat (.int c)]=some (.retL [.int (c-1000000000000000000),.bl true],[.dat (.lst (ns.map .int)),.dat (.int k),.dat (.int c)]):=by
   have b:=v6_ (f:=y0_) (ma:=z0_ 2) (mb:=z4_ a1g (mC (.int 10)) (mC (.int 18))) (env:=[.dat (.lst (ns.map .int)),.dat (.int k),.dat (.int c)]) (b:=.int 1000000000000000000) (c:=.int (c-1000000000000000000)) rfl (v6_ rfl rfl b2F) rfl
   refine b7n ?_
   unfold x4_;rw[y2_ b (y2_ rfl rfl)];rfl
  unfold q2_;rw[a0Y t,r];rfl
 ·rw[Zx h]at t
  refine⟨c%2147483647,false,Uz _ (by decide),(b1m (d:=[.int (c%2147483647),.bl false]) (env:=[.dat (.lst (ns.map .int)),.dat (.int k),.dat (.int c)]) ?_).trans rfl⟩
  show a4Z [.dat (.lst (ns.map .int)),.dat (.int k),.nil]=_;unfold a4Z;rw[y9_ s1,y9_ (by rw[a0w t];rfl)];rfl
def bits:Nat->OI
 |0=>[[]]
 |n+1=>(bits n).map (fun l=>0::l)++(bits n).map (fun l=>1::l)
def g8_(h r:List Int):List Int:=List.zipWith (· + ·) h r
def b2G(h:List Int)(d:D):Bool:=isR d h.length&&(tt 0 (unR d)&&(g8_ h (unR d)).all fun x=>x==0||x==1)
def chk(h:List Int):Bool:=match a2E [.dat (dR h)]with
 |some (.l ds,_)=>ds.all (b2G h)&&((h.all fun x=>x==1)||(decide (1≤ds.length)&&decide (ds.length≤1000)))
 |_=>false
theorem c0T:(bits 1).all chk=true:=by decide+kernel
theorem c0U:(bits 2).all chk=true:=by decide+kernel
theorem c0V:(bits 3).all chk=true:=by decide+kernel
theorem c0W:(bits 4).all chk=true:=by decide+kernel
theorem c0X:(bits 5).all chk=true:=by decide+kernel
theorem c0Y:(bits 6).all chk=true:=by decide+kernel
structure HB(h:List Int)(n:Nat):Prop where
 len:h.length=n
 bit:∀x∈h,x=0∨x=1
theorem HB.mem:∀{n:Nat}{h:List Int},HB h n->h∈bits n
 |0,h,H=>by
  have:=H.len;cases h with
  |nil=>simp[bits]
  |cons _ _=>simp at this
 |n+1,h,H=>by
  cases h with
  |nil=>have:=H.len;simp at this
  |cons x l=>
   have hl:HB l n:=⟨by have:=H.len;simpa using this,fun y hy=>H.bit y (by simp[hy])⟩
   have:=hl.mem;unfold bits;rw[List.mem_append,Zk,Zk]
   rcases H.bit x (by simp)with rfl|rfl
   ·exact .inl ⟨l,this,rfl⟩
   ·exact .inr ⟨l,this,rfl⟩
theorem c0Z{n:Nat}{h:List Int}(h1:1≤n)(h6:n≤6)(H:HB h n):chk h=true:=by
 have hm:=H.mem
 match n,h1,h6 with
 |1,_,_=>exact Qw.mp c0T h hm
 |2,_,_=>exact Qw.mp c0U h hm
 |3,_,_=>exact Qw.mp c0V h hm
 |4,_,_=>exact Qw.mp c0W h hm
 |5,_,_=>exact Qw.mp c0X h hm
 |6,_,_=>exact Qw.mp c0Y h hm
structure LineOk(h r:List Int):Prop where
 len:r.length=h.length
 tt:tt 0 r=true
 bit:∀x∈g8_ h r,x=0∨x=1
theorem c1a{n:Nat}{h:List Int}(h1:1≤n)(h6:n≤6)(H:HB h n)(hs:∃x∈h,x≠1):∃(rows:OI) (ws':List W),a2E [.dat (dR h)]=some (.l (rows.map dR),ws')/\1≤rows.length/\rows.length≤1000/\∀r∈rows,LineOk h r:=by
 have hc:=c0Z h1 h6 H
 unfold chk at hc;split at hc
 ·rename_i ds ws' e
  rw[Qy]at hc;have hl:1≤ds.length/\ds.length≤1000:=by
   have h2:=hc.2
   rw[Xx]at h2
   rcases h2 with h2|h2
   ·obtain⟨x,hx,hne⟩:=hs
    have:=Qw.mp h2 x hx
    simp at this
    exact absurd this hne
   ·rw[Qy,Zd,Zd]at h2
    exact h2
  have ok:∀d∈ds,d=dR (unR d)/\LineOk h (unR d):=fun d hd=>by
   have:=Qw.mp hc.1 d hd;unfold b2G at this;rw[Qy,Qy]at this;obtain⟨a1,a2⟩:=a6l this.1;exact⟨a1,by omega,this.2.1,fun x hx=>by simpa using Qw.mp this.2.2 x hx⟩
  refine⟨ds.map unR,ws',?_,by rw[Qk];exact hl.1,by rw[Qk];exact hl.2,fun r hr=>?_⟩
  ·rw[e,Zn]
   have:ds.map (dR∘unR)=ds:=by
    conv=>rhs;rw[←Vm ds]
    exact Za fun d hd=>(ok d hd).1.symm
   rw[this]
  ·obtain⟨d,hd,rfl⟩:=Zk.mp hr
   exact(ok d hd).2
 ·cases hc
theorem c1b(l:List Int):∀s,tt s l=true->s+l.sum=1:=by
 induction l with
 |nil=>intro s h;simpa [tt]using h
 |cons x l ih=>
  intro s h;simp only[tt,Qy]at h;have:=ih (s+x) h.2;simp only[Vs]
  omega
theorem b2H{h r:List Int}(e:r.length=h.length):(g8_ h r).length=h.length:=by simp[g8_,e]
theorem b2I:∀{h r:List Int},r.length=h.length->(g8_ h r).sum=h.sum+r.sum
 |[],[],_=>rfl
 |x::h,y::r,e=>by
  have:=b2I (h:=h) (r:=r) (by simpa using e)
  simp only[g8_,List.zipWith_cons_cons,Vs]at this ⊢
  omega
 |[],_::_,e=>by simp at e
 |_::_,[],e=>by simp at e
def run:Int->List Int->Option Int
 |s,[]=>some s
 |s,x::l=>if s+x=0∨s+x=1 then run (s+x) l else none
theorem c1c(l:List Int):∀s,tt s l=(run s l==some 1):=by
 induction l with
 |nil=>intro s;rfl
 |cons x l ih=>
  intro s;simp only[tt,run]
  by_cases h:s+x=0∨s+x=1
  ·rw[Qc h,←ih]
   have:(s+x==0||s+x==1)=true:=by simpa using h
   rw[this,Ze]
  ·rw[Ql h]
   have:(s+x==0||s+x==1)=false:=by simpa using h
   rw[this];rfl
theorem c1d(l:List Int)(x:Int):∀s t,run s l=some t->(t+x=0∨t+x=1)->run s (l++[x])=some (t+x):=by
 induction l with
 |nil=>intro s t h hx;cases h;simp[run,hx]
 |cons y l ih=>
  intro s t h hx;simp only[run,List.cons_append]at h ⊢;split at h
  ·rename_i hy
   rw[Qc hy];exact ih (s+y) t h hx
  ·cases h
theorem b2J:∀{h:List Int},(∀x∈h,x=0∨x=1)->h.sum≤h.length/\(h.sum=h.length->∀x∈h,x=1)
 |[],_=>⟨by simp,fun _ x hx=>by cases hx⟩
 |y::h,H=>by
  obtain⟨h1,h2⟩:=b2J (h:=h) fun x hx=>H x (by simp[hx])
  have hy:=H y (by simp)
  simp only[Vs,Ji];refine⟨by omega,fun e x hx=>?_⟩
  rcases Qh.mp hx with rfl|hx
  ·omega
  ·exact h2 (by omega) x hx
theorem b2K{g:OZ}{b:Mo Fl}:∀{ds:List D}{P:Nat->Env'->Prop}{env:Env'},(∀i d e,ds[i]? =some d->P i e->∃e1 e2,g d e=some e1/\b e1=some (.nx,e2)/\P (i+1) e2)->P 0 env->∃env',loop g b ds env=some (.nx,env')/\P ds.length env'
 |[],P,env,_,p=>⟨env,rfl,p⟩
 |d::ds,P,env,h,p=>by
  obtain⟨e1,e2,h1,h2,h3⟩:=h 0 d env rfl p;obtain⟨e3,h4,h5⟩:=b2K (ds:=ds) (P:=fun i e=>P (i+1) e) (fun i x e hi q=>h (i+1) x e (by simpa using hi) q) h3
  refine⟨e3,?_,h5⟩;unfold loop;rw[h1];simp only[Qx];rw[h2];exact h4
abbrev a9o:Mo Fl:=(q2_ (q8_ 7 (mF (u3_ 1 a2E (z7_ (z0_ 4) q0_)))) (q2_ (q8_ 8 (z4_ dIx (z0_ 7) (mCD 2 k2_ (x0_ 0 (z7_ (mCB v8_ (z1_ (z0_ 7) z5_)) q0_))))) (q2_ (q8_ 4 (mCB a0k (z1_ (mF (y7_ (a1B (z1_ (z0_ 4) (z1_ (z0_ 8) z5_))) [false,false,false,false,false,false,false,false,false] 2 (gT 2 (gCn (gN 9) (gCn (gN 10) gNl))) x3_ (z4_ v5_ (z0_ 9) (z0_ 10)))) z5_))) (q8_ 5 (z4_ v5_ (z0_ 5) (q9_ (z1_ (z0_ 8) z5_)))))))
structure TbI(b:Bool)(l m:Int)(n i:Nat)(e:Env')(a:Int)(h:List Int)(rows:OI)(w6 w7 w8:W):Prop where
 eq:e=[.par [.int a,.bl b],.dat (.int l),.dat (.int m),.dat (.int n),.dat (dR h),.dat (dT rows),w6,w7,w8]
 a0:0≤a
 hb:HB h n
 len:rows.length=i
 row:∀r∈rows,r.length=n/\tt 0 r=true
 sum:h.sum=i
 col:∀j,j<n->run 0 (rows.map fun r=>r.getD j 0)=some (h.getD j 0)
theorem b2L{h r:List Int}{j:Nat}(e:r.length=h.length)(hj:j<h.length):(g8_ h r).getD j 0=h.getD j 0+r.getD j 0:=by
 have hj2:j<r.length:=by omega
 simp[g8_,Jq,Zw hj,Zw hj2]
theorem c1e{h r:List Int}:a1A (h.map D.int) (r.map D.int)=(h.zip r).map fun p=>.tup [.int p.1,.int p.2]:=by
 unfold a1A;rw[List.zip_map,Zn];rfl
theorem c1f{b:Bool}{l m:Int}{n i:Nat}{e:Env'}{a:Int}{h:List Int}{rows:OI}{w6 w7 w8:W}(h1:1≤n)(h6:n≤6)(hi:i<n)(I:TbI b l m n i e a h rows w6 w7 w8):
  ∃e2 a' h' rows' x6 x7 x8,a9o e=some (.nx,e2)/\TbI b l m n (i+1) e2 a' h' rows' x6 x7 x8:=by
 obtain⟨rfl,a0,hb,hlen,hrow,hsum,hcol⟩:=I;have hs:∃x∈h,x≠1:=by
  refine Jl fun hn=>?_
  have hall:∀x∈h,x=1:=fun x hx=>Jl fun z=>hn ⟨x,hx,z⟩
  have:h.sum=h.length:=by
   clear hcol hsum hn hb
   induction h with
   |nil=>rfl
   |cons y h ih=>
    have h1:=hall y (by simp)
    have:=ih fun x hx=>hall x (by simp[hx])
    simp only[Vs,Ji]
    omega
  have:=hb.len
  omega
 obtain⟨lines,ws',el,l1,l2,lok⟩:=c1a h1 h6 hb hs;obtain⟨v,a',et,v0,v1,a0'⟩:=a9n (a:=a) (m:=(lines.length:Int)) (b:=b) a0 (by omega) (by omega)
 have hv:v.toNat<lines.length:=by omega
 have hvv:((v.toNat:Nat):Int)=v:=by omega
 generalize hr:lines[v.toNat]=r;have rok:LineOk h r:=lok r (by rw[←hr];exact Yt hv)
 have rl:r.length=n:=by rw[rok.len,hb.len]
 have hnl:h.length=n:=hb.len
 refine⟨[.par [.int a',.bl b],.dat (.int l),.dat (.int m),.dat (.int n),.dat (dR (g8_ h r)),.dat (dT (rows++[r])),w6,.dat (.lst (lines.map dR)),.dat (dR r)],a',g8_ h r,rows++[r],w6,.dat (.lst (lines.map dR)),.dat (dR r),?_,rfl,a0',⟨by rw[b2H rok.len];exact hnl,rok.bit⟩,by simp[hlen],?_,?_,?_⟩
 ·have s1:(q8_ 7 (mF (u3_ 1 a2E (z7_ (z0_ 4) q0_)))) [.par [.int a,.bl b],.dat (.int l),.dat (.int m),.dat (.int n),.dat (dR h),.dat (dT rows),w6,w7,w8]=some (.nx,[.par [.int a,.bl b],.dat (.int l),.dat (.int m),.dat (.int n),.dat (dR h),.dat (dT rows),w6,.dat (.lst (lines.map dR)),w8]):=
   g1_ (e1:=[.par [.int a,.bl b],.dat (.int l),.dat (.int m),.dat (.int n),.dat (dR h),.dat (dT rows),w6,w7,w8]) (a0i (a7A (a1S (av:=[.d (dR h)]) rfl rfl rfl el)))
  have tk:(mCD 2 k2_ (x0_ 0 (z7_ (mCB v8_ (z1_ (z0_ 7) z5_)) q0_))) [.par [.int a,.bl b],.dat (.int l),.dat (.int m),.dat (.int n),.dat (dR h),.dat (dT rows),w6,.dat (.lst (lines.map dR)),w8]=some (.int v,[.par [.int a',.bl b],.dat (.int l),.dat (.int m),.dat (.int n),.dat (dR h),.dat (dT rows),w6,.dat (.lst (lines.map dR)),w8]):=by
   refine a0K ((a3l (e1:=[.par [.int a,.bl b],.dat (.int l),.dat (.int m),.dat (.int n),.dat (dR h),.dat (dT rows),w6,.dat (.lst (lines.map dR)),w8]) (w:=.par [.int a,.bl b]) (av:=[.sl 0,.d (.int (lines.length:Int))]) (i:=0) (c:=[.int a,.bl b]) (c':=[.int a',.bl b]) ?_ rfl rfl rfl rfl et rfl).trans rfl);show some ([Ar.sl 0,Ar.d (.int ((lines.map dR).length:Nat))],_)=_;rw[Qk]
  have s2:(q8_ 8 (z4_ dIx (z0_ 7) (mCD 2 k2_ (x0_ 0 (z7_ (mCB v8_ (z1_ (z0_ 7) z5_)) q0_))))) [.par [.int a,.bl b],.dat (.int l),.dat (.int m),.dat (.int n),.dat (dR h),.dat (dT rows),w6,.dat (.lst (lines.map dR)),w8]=some (.nx,[.par [.int a',.bl b],.dat (.int l),.dat (.int m),.dat (.int n),.dat (dR h),.dat (dT rows),w6,.dat (.lst (lines.map dR)),.dat (dR r)]):=by
   refine g1_ (e1:=[.par [.int a',.bl b],.dat (.int l),.dat (.int m),.dat (.int n),.dat (dR h),.dat (dT rows),w6,.dat (.lst (lines.map dR)),w8]) (v6_ rfl tk ?_);rw[←hvv];exact a1f (xs:=lines.map dR) (by rw[Yu,Zw hv,hr];rfl)
  obtain⟨e',g1,wx,wy,rfl⟩:=a3E (g:=gT 2 (gCn (gN 9) (gCn (gN 10) gNl))) (m:=z4_ v5_ (z0_ 9) (z0_ 10)) (P:=fun e=>∃x y,e=[.nil,.nil,.nil,.nil,.nil,.nil,.nil,.nil,.nil,x,y]) (q:=fun(p:Int×Int)=>D.tup [.int p.1,.int p.2]) (f:=fun p=>.int (p.1+p.2)) (l:=h.zip r) (env:=[.nil,.nil,.nil,.nil,.nil,.nil,.nil,.nil,.nil,.nil,.nil])
   (fun p _ e ⟨x,y,he⟩=>by
    subst he;exact⟨[.nil,.nil,.nil,.nil,.nil,.nil,.nil,.nil,.nil,.dat (.int p.1),.dat (.int p.2)],[.nil,.nil,.nil,.nil,.nil,.nil,.nil,.nil,.nil,.dat (.int p.1),.dat (.int p.2)],rfl,rfl,_,_,rfl⟩) ⟨_,_,rfl⟩
  have zs:(a1B (z1_ (z0_ 4) (z1_ (z0_ 8) z5_))) [.par [.int a',.bl b],.dat (.int l),.dat (.int m),.dat (.int n),.dat (dR h),.dat (dT rows),w6,.dat (.lst (lines.map dR)),.dat (dR r)]=some ((h.zip r).map fun p=>.tup [.int p.1,.int p.2],[.par [.int a',.bl b],.dat (.int l),.dat (.int m),.dat (.int n),.dat (dR h),.dat (dT rows),w6,.dat (.lst (lines.map dR)),.dat (dR r)]):=by
   show some (a1A (h.map D.int) (r.map D.int),_)=_;rw[c1e]
  have ez:(h.zip r).map (fun p=>D.int (p.1+p.2))=(g8_ h r).map D.int:=by
   unfold g8_;rw[List.map_zipWith,List.zip_eq_zipWith,List.map_zipWith]
  have c:(y7_ (a1B (z1_ (z0_ 4) (z1_ (z0_ 8) z5_))) [false,false,false,false,false,false,false,false,false] 2 (gT 2 (gCn (gN 9) (gCn (gN 10) gNl))) x3_ (z4_ v5_ (z0_ 9) (z0_ 10))) [.par [.int a',.bl b],.dat (.int l),.dat (.int m),.dat (.int n),.dat (dR h),.dat (dT rows),w6,.dat (.lst (lines.map dR)),.dat (dR r)]=some ((g8_ h r).map .int,[.par [.int a',.bl b],.dat (.int l),.dat (.int m),.dat (.int n),.dat (dR h),.dat (dT rows),w6,.dat (.lst (lines.map dR)),.dat (dR r)]):=by
   rw[←ez];refine a2s (e2:=[.nil,.nil,.nil,.nil,.nil,.nil,.nil,.nil,.nil,wx,wy]) zs ?_ g1 rfl;rw[Qk,List.length_zip];omega
  have s3:(q8_ 4 (mCB a0k (z1_ (mF (y7_ (a1B (z1_ (z0_ 4) (z1_ (z0_ 8) z5_))) [false,false,false,false,false,false,false,false,false] 2 (gT 2 (gCn (gN 9) (gCn (gN 10) gNl))) x3_ (z4_ v5_ (z0_ 9) (z0_ 10)))) z5_))) [.par [.int a',.bl b],.dat (.int l),.dat (.int m),.dat (.int n),.dat (dR h),.dat (dT rows),w6,.dat (.lst (lines.map dR)),.dat (dR r)]=some (.nx,[.par [.int a',.bl b],.dat (.int l),.dat (.int m),.dat (.int n),.dat (dR (g8_ h r)),.dat (dT rows),w6,.dat (.lst (lines.map dR)),.dat (dR r)]):=
   g1_ (e1:=[.par [.int a',.bl b],.dat (.int l),.dat (.int m),.dat (.int n),.dat (dR h),.dat (dT rows),w6,.dat (.lst (lines.map dR)),.dat (dR r)]) (a0J (y2_ (a0i c) rfl) rfl)
  have s4:(q8_ 5 (z4_ v5_ (z0_ 5) (q9_ (z1_ (z0_ 8) z5_)))) [.par [.int a',.bl b],.dat (.int l),.dat (.int m),.dat (.int n),.dat (dR (g8_ h r)),.dat (dT rows),w6,.dat (.lst (lines.map dR)),.dat (dR r)]=some (.nx,[.par [.int a',.bl b],.dat (.int l),.dat (.int m),.dat (.int n),.dat (dR (g8_ h r)),.dat (dT (rows++[r])),w6,.dat (.lst (lines.map dR)),.dat (dR r)]):=by
   refine g1_ (e1:=[.par [.int a',.bl b],.dat (.int l),.dat (.int m),.dat (.int n),.dat (dR (g8_ h r)),.dat (dT rows),w6,.dat (.lst (lines.map dR)),.dat (dR r)]) (v6_ rfl rfl ?_);show(if(rows.map dR).length+[dR r].length≤10000 then _ else none)=_
   rw[Qc (by rw[Qk];simp;omega)]
   unfold dT;rw[Uc];rfl
  unfold a9o;rw[y9_ s1,y9_ s2,y9_ s3];exact s4
 ·intro r' hr'
  rcases Vk.mp hr' with z|z
  ·exact hrow r' z
  ·have:r'=r:=by simpa using z
   subst this;exact⟨rl,rok.tt⟩
 ·have:=c1b r 0 rok.tt
  rw[b2I rok.len]
  omega
 ·intro j hj
  rw[Uc,Qs,List.map_nil,b2L rok.len (by omega)]
  refine c1d _ _ 0 _ (hcol j hj) ?_
  rw[←b2L rok.len (by omega)]
  have hjl:j<(g8_ h r).length:=by rw[b2H rok.len];omega
  have:(g8_ h r).getD j 0=(g8_ h r)[j]:=by simp[hjl]
  rw[this];exact rok.bit _ (Yt hjl)
structure Tab(T:OI):Prop where
 lo:1≤T.length
 hi:T.length≤6
 len:∀r∈T,r.length=T.length
 ok:isT (dT T)=true
theorem b2M{a l m:Int}{b:Bool}(ha:0≤a)(hl:1≤l)(hm:l≤m)(h6:m≤6):∃T a',a1o [.par [.int a,.bl b],.dat (.int l),.dat (.int m)]=some (.d (dT T),[.par [.int a',.bl b],.dat (.int l),.dat (.int m)])/\0≤a'/\Tab T/\l≤T.length/\(T.length:Int)≤m:=by
 obtain⟨v,a1,et,v0,v1,a10⟩:=a9n (a:=a) (m:=m-l+1) (b:=b) ha (by omega) (by omega)
 obtain⟨n,hn⟩:∃n:Nat,(n:Int)=l+v:=⟨(l+v).toNat,by omega⟩
 have n1:1≤n:=by omega
 have n6:n≤6:=by omega
 have s1:(q8_ 3 (z4_ v5_ (z0_ 1) (mCD 2 k2_ (x0_ 0 (z7_ (z4_ v5_ (z4_ y0_ (z0_ 2) (z0_ 1)) (mC (.int 1))) q0_))))) [.par [.int a,.bl b],.dat (.int l),.dat (.int m),.nil,.nil,.nil,.nil,.nil,.nil]=some (.nx,[.par [.int a1,.bl b],.dat (.int l),.dat (.int m),.dat (.int n),.nil,.nil,.nil,.nil,.nil]):=by
  have tk:(mCD 2 k2_ (x0_ 0 (z7_ (z4_ v5_ (z4_ y0_ (z0_ 2) (z0_ 1)) (mC (.int 1))) q0_))) [.par [.int a,.bl b],.dat (.int l),.dat (.int m),.nil,.nil,.nil,.nil,.nil,.nil]=some (.int v,[.par [.int a1,.bl b],.dat (.int l),.dat (.int m),.nil,.nil,.nil,.nil,.nil,.nil]):=
   a0K ((a3l (e1:=[.par [.int a,.bl b],.dat (.int l),.dat (.int m),.nil,.nil,.nil,.nil,.nil,.nil]) (w:=.par [.int a,.bl b]) (av:=[.sl 0,.d (.int (m-l+1))]) (i:=0) (c:=[.int a,.bl b]) (c':=[.int a1,.bl b]) rfl rfl rfl rfl rfl et rfl).trans rfl)
  refine g1_ (e1:=[.par [.int a1,.bl b],.dat (.int l),.dat (.int m),.nil,.nil,.nil,.nil,.nil,.nil]) (v6_ rfl tk ?_);rw[hn];rfl
 have s2:(q8_ 4 (z4_ g7_ (q9_ (z1_ (mC (.int 0)) z5_)) (z0_ 3))) [.par [.int a1,.bl b],.dat (.int l),.dat (.int m),.dat (.int n),.nil,.nil,.nil,.nil,.nil]=some (.nx,[.par [.int a1,.bl b],.dat (.int l),.dat (.int m),.dat (.int n),.dat (dR (List.replicate n 0)),.nil,.nil,.nil,.nil]):=by
  refine g1_ (e1:=[.par [.int a1,.bl b],.dat (.int l),.dat (.int m),.dat (.int n),.nil,.nil,.nil,.nil,.nil]) (v6_ rfl rfl ?_);show(if 1≤(n:Int)/\(n:Int)≤1000 then some (D.tup (List.replicate (n:Int).toNat (.int 0)))else none)=_
  rw[Qc (by omega),Yl]
  unfold dR;rw[List.map_replicate]
 have s3:(q8_ 5 (q9_ z5_)) [.par [.int a1,.bl b],.dat (.int l),.dat (.int m),.dat (.int n),.dat (dR (List.replicate n 0)),.nil,.nil,.nil,.nil]=some (.nx,[.par [.int a1,.bl b],.dat (.int l),.dat (.int m),.dat (.int n),.dat (dR (List.replicate n 0)),.dat (dT []),.nil,.nil,.nil]):=rfl
 have start:TbI b l m n 0 [.par [.int a1,.bl b],.dat (.int l),.dat (.int m),.dat (.int n),.dat (dR (List.replicate n 0)),.dat (dT []),.nil,.nil,.nil] a1 (List.replicate n 0) [] .nil .nil .nil:=by
  refine⟨rfl,a10,⟨by simp,fun x hx=>.inl (List.eq_of_mem_replicate hx)⟩,rfl,fun r hr=>(by cases hr),by simp,fun j hj=>?_⟩
  simp[run,Jv,hj]
 obtain⟨e',h1,a',h',rows',x6,x7,x8,I⟩:=b2K (g:=gN 6) (b:=a9o) (ds:=a0l 0 n) (P:=fun i e=>∃a h rows w6 w7 w8,TbI b l m n i e a h rows w6 w7 w8) (env:=[.par [.int a1,.bl b],.dat (.int l),.dat (.int m),.dat (.int n),.dat (dR (List.replicate n 0)),.dat (dT []),.nil,.nil,.nil])
  (fun i d e hi ⟨a,h,rows,w6,w7,w8,I⟩=>by
   have hil:i<n:=by
    have:=(Qg.mp hi).1;rw[a2G]at this
    simpa using this
   obtain⟨rfl,r1,r2,r3,r4,r5,r6⟩:=I;obtain⟨e2,a',h',rows',x6,x7,x8,t1,t2⟩:=c1f (b:=b) (l:=l) (m:=m) (w6:=.dat d) (w7:=w7) (w8:=w8) n1 n6 hil ⟨rfl,r1,r2,r3,r4,r5,r6⟩;exact⟨_,e2,rfl,t1,a',h',rows',x6,x7,x8,t2⟩) ⟨_,_,_,_,_,_,start⟩
 have hlen:(a0l 0 n).length=n:=by rw[a2G];simp
 rw[hlen]at I;obtain⟨rfl,r1,r2,r3,r4,r5,r6⟩:=I;have ones:=(b2J r2.bit).2 (by rw[r2.len];exact r5)
 have tab:Tab rows':=by
  refine⟨by omega,by omega,fun r hr=>by rw[r3];exact(r4 r hr).1,?_⟩
  unfold isT;rw[b2r (by omega) (by omega) (fun r hr=>by rw[r3];exact(r4 r hr).1),a6m,Ze,Xk,Qy,Qw,Qw]
  refine⟨fun r hr=>(r4 r hr).2,fun c hc=>?_⟩
  unfold flip at hc;obtain⟨j,hj,rfl⟩:=Zk.mp hc;have hj':j<n:=by rw[r3]at hj;exact Yq.mp hj
  rw[c1c,r6 j hj'];have hjl:j<h'.length:=by rw[r2.len];exact hj'
  have:h'.getD j 0=h'[j]:=by simp[hjl]
  rw[this,ones _ (Yt hjl)];rfl
 refine⟨rows',a',(w3_ (d:=dT rows') (env:=[.par [.int a',.bl b],.dat (.int l),.dat (.int m),.dat (.int n),.dat (dR h'),.dat (dT rows'),x6,x7,x8]) ?_).trans rfl,r1,tab,by omega,by omega⟩
 show a9d [.par [.int a,.bl b],.dat (.int l),.dat (.int m),.nil,.nil,.nil,.nil,.nil,.nil]=_;unfold a9d;have rg:=a4M (ms:=z1_ (z0_ 3) z5_) (env:=[.par [.int a1,.bl b],.dat (.int l),.dat (.int m),.dat (.int n),.dat (dR (List.replicate n 0)),.dat (dT []),.nil,.nil,.nil]) (e1:=[.par [.int a1,.bl b],.dat (.int l),.dat (.int m),.dat (.int n),.dat (dR (List.replicate n 0)),.dat (dT []),.nil,.nil,.nil]) (j:=(n:Int)) rfl (by omega) (by omega)
 rw[Yl]at rg;rw[y9_ s1,y9_ s2,y9_ s3,y9_ ((a1D rg).trans h1)];rfl
def S(g:Nat->Int):Nat->Int
 |0=>0
 |k+1=>S g k+g k
def HH(f:OO)(i j:Nat):Int:=S (fun c=>S (fun r=>f r c) i) j
def U(h:OO)(i j:Nat):Int:=(h (i+1) (j+1)-h i (j+1))-(h (i+1) j-h i j)
theorem b2N{g g':Nat->Int}:∀{n:Nat},(∀k<n,g k=g' k)->S g n=S g' n
 |0,_=>rfl
 |n+1,h=>by
  show S g n+g n=S g' n+g' n;rw[b2N (n:=n) fun k hk=>h k (by omega),h n (by omega)]
theorem a9p(g:Nat->Int):∀n,S (fun k=>g (k+1)-g k) n=g n-g 0
 |0=>by show(0:Int)=_;omega
 |n+1=>by
  show S (fun k=>g (k+1)-g k) n+(g (n+1)-g n)=_
  rw[a9p g n];omega
theorem b2O(g g':Nat->Int):∀n,S (fun k=>g k+g' k) n=S g n+S g' n
 |0=>rfl
 |n+1=>by
  show S (fun k=>g k+g' k) n+(g n+g' n)=S g n+g n+(S g' n+g' n)
  rw[b2O g g' n];omega
theorem a6o:∀n,S (fun _=>0) n=0
 |0=>rfl
 |n+1=>by show S (fun _=>0) n+0=0;rw[a6o n];rfl
theorem a5g(g:Nat->Int):∀n,S g (n+1)=g 0+S (fun k=>g (k+1)) n
 |0=>by show(0:Int)+g 0=g 0+0;omega
 |n+1=>by
  show S g (n+1)+g (n+1)=g 0+(S (fun k=>g (k+1)) n+g (n+1))
  rw[a5g g n];omega
theorem b2P(f:OO)(i j:Nat):HH f i (j+1)=HH f i j+S (fun r=>f r j) i:=rfl
theorem a9q(f:OO)(i j:Nat):HH f (i+1) j=HH f i j+S (f i) j:=b2O _ _ j
structure TabF(n:Nat)(f:OO):Prop where
 row:∀i<n,∀k≤n,S (f i) k=0∨S (f i) k=1
 rowN:∀i<n,S (f i) n=1
 col:∀j<n,∀k≤n,S (fun r=>f r j) k=0∨S (fun r=>f r j) k=1
 colN:∀j<n,S (fun r=>f r j) n=1
structure HtF(n:Nat)(h:OO):Prop where
 r0:∀i≤n,h i 0=0
 d0:∀j≤n,h 0 j=0
 rN:∀i≤n,h i n=i
 dN:∀j≤n,h n j=j
 dd:∀i<n,∀j≤n,h (i+1) j=h i j∨h (i+1) j=h i j+1
 rr:∀i≤n,∀j<n,h i (j+1)=h i j∨h i (j+1)=h i j+1
theorem TabF.ht{n:Nat}{f:OO}(T:TabF n f):HtF n (HH f):=by
 refine⟨fun i _=>rfl,fun j _=>?_,fun i hi=>?_,fun j hj=>?_,fun i hi j hj=>?_,fun i hi j hj=>?_⟩
 ·exact a6o j
 ·induction i with
  |zero=>exact a6o n
  |succ i ih=>rw[a9q,ih (by omega),T.rowN i (by omega)];omega
 ·induction j with
  |zero=>rfl
  |succ j ih=>rw[b2P,ih (by omega),T.colN j (by omega)];omega
 ·rw[a9q];have:=T.row i hi j hj;omega
 ·rw[b2P];have:=T.col j hj i hi;omega
theorem a9r(h:OO)(i j:Nat):S (U h i) j=(h (i+1) j-h i j)-(h (i+1) 0-h i 0):=
 a9p (fun j=>h (i+1) j-h i j) j
theorem b2Q(h:OO)(i j:Nat):S (fun r=>U h r j) i=(h i (j+1)-h i j)-(h 0 (j+1)-h 0 j):=by
 have:=a9p (fun i=>h i (j+1)-h i j) i
 rw[←this]
 apply b2N
 intro k _;unfold U;omega
theorem HtF.tab{n:Nat}{h:OO}(H:HtF n h):TabF n (U h):=by
 refine⟨fun i hi k hk=>?_,fun i hi=>?_,fun j hj k hk=>?_,fun j hj=>?_⟩
 ·rw[a9r,H.r0 i (by omega),H.r0 (i+1) (by omega)]
  have:=H.dd i hi k hk;omega
 ·rw[a9r,H.r0 i (by omega),H.r0 (i+1) (by omega),H.rN i (by omega),H.rN (i+1) (by omega)];omega
 ·rw[b2Q,H.d0 j (by omega),H.d0 (j+1) (by omega)]
  have:=H.rr k hk j hj;omega
 ·rw[b2Q,H.d0 j (by omega),H.d0 (j+1) (by omega),H.dN j (by omega),H.dN (j+1) (by omega)];omega
theorem HtF.back{n:Nat}{h:OO}(H:HtF n h){i j:Nat}(hi:i≤n)(hj:j≤n):HH (U h) i j=h i j:=by
 induction i with
 |zero=>rw[H.d0 j hj];exact a6o j
 |succ i ih=>
  rw[a9q,ih (by omega),a9r,H.r0 i (by omega),H.r0 (i+1) (by omega)];omega
def mn(x y:Int):Int:=if x≤y then x else y
def mx(x y:Int):Int:=if x≤y then y else x
theorem HtF.min{n:Nat}{h k:OO}(H:HtF n h)(K:HtF n k):HtF n (fun i j=>mn (h i j) (k i j)):=by
 refine⟨fun i hi=>?_,fun i hi=>?_,fun i hi=>?_,fun i hi=>?_,fun i hi j hj=>?_,fun i hi j hj=>?_⟩
 ·show mn _ _=_;rw[H.r0 i hi,K.r0 i hi];rfl
 ·show mn _ _=_;rw[H.d0 i hi,K.d0 i hi];rfl
 ·show mn _ _=_;rw[H.rN i hi,K.rN i hi];simp[mn]
 ·show mn _ _=_;rw[H.dN i hi,K.dN i hi];simp[mn]
 ·have:=H.dd i hi j hj;have:=K.dd i hi j hj
  show mn _ _=mn _ _∨mn _ _=mn _ _+1;unfold mn;split<;>split<;>omega
 ·have:=H.rr i hi j hj;have:=K.rr i hi j hj
  show mn _ _=mn _ _∨mn _ _=mn _ _+1;unfold mn;split<;>split<;>omega
theorem HtF.max{n:Nat}{h k:OO}(H:HtF n h)(K:HtF n k):HtF n (fun i j=>mx (h i j) (k i j)):=by
 refine⟨fun i hi=>?_,fun i hi=>?_,fun i hi=>?_,fun i hi=>?_,fun i hi j hj=>?_,fun i hi j hj=>?_⟩
 ·show mx _ _=_;rw[H.r0 i hi,K.r0 i hi];rfl
 ·show mx _ _=_;rw[H.d0 i hi,K.d0 i hi];rfl
 ·show mx _ _=_;rw[H.rN i hi,K.rN i hi];simp[mx]
 ·show mx _ _=_;rw[H.dN i hi,K.dN i hi];simp[mx]
 ·have:=H.dd i hi j hj;have:=K.dd i hi j hj
  show mx _ _=mx _ _∨mx _ _=mx _ _+1;unfold mx;split<;>split<;>omega
 ·have:=H.rr i hi j hj;have:=K.rr i hi j hj
  show mx _ _=mx _ _∨mx _ _=mx _ _+1;unfold mx;split<;>split<;>omega
def tr(n:Nat)(h:OO)(i j:Nat):Int:=(i:Int)+j-n+h (n-i) (n-j)
theorem HtF.turned{n:Nat}{h:OO}(H:HtF n h):HtF n (tr n h):=by
 refine⟨fun i hi=>?_,fun i hi=>?_,fun i hi=>?_,fun i hi=>?_,fun i hi j hj=>?_,fun i hi j hj=>?_⟩
 ·unfold tr;rw[Nat.sub_zero,H.rN (n-i) (by omega)];omega
 ·unfold tr;rw[Nat.sub_zero,H.dN (n-i) (by omega)];omega
 ·unfold tr;rw[Nat.sub_self,H.r0 (n-i) (by omega)];omega
 ·unfold tr;rw[Nat.sub_self,H.d0 (n-i) (by omega)];omega
 ·have:=H.dd (n-(i+1)) (by omega) (n-j) (by omega)
  rw[show n-(i+1)+1=n-i by omega]at this
  unfold tr;omega
 ·have:=H.rr (n-i) (by omega) (n-(j+1)) (by omega)
  rw[show n-(j+1)+1=n-j by omega]at this
  unfold tr;omega
theorem a9s:∀(n:Nat) (g:Nat->Int) (s:Int),tt s ((List.range n).map g)=true↔(∀k<n,s+S g (k+1)=0∨s+S g (k+1)=1)/\s+S g n=1
 |0,g,s=>by
  show(s==1)=true↔_;rw[Yn]
  constructor
  ·intro h;exact⟨fun k hk=>by omega,by show s+0=1;omega⟩
  ·rintro⟨_,h⟩;have:S g 0=0:=rfl;omega
 |n+1,g,s=>by
  rw[List.range_succ_eq_map,Qs,Zn];show((s+g 0==0||s+g 0==1)&&tt (s+g 0) ((List.range n).map fun k=>g (k+1)))=true↔_
  rw[Qy,Xx,Yn,Yn,a9s n (fun k=>g (k+1)) (s+g 0),a5g g n]
  constructor
  ·rintro⟨h1,h2,h3⟩
   refine⟨fun k hk=>?_,by omega⟩
   rw[a5g g k];cases k with
   |zero=>show s+(g 0+0)=0∨s+(g 0+0)=1;omega
   |succ k=>have:=h2 k (by omega);omega
  ·rintro⟨h1,h2⟩
   refine⟨?_,fun k hk=>?_,by omega⟩
   ·have:=h1 0 (by omega)
    rw[a5g g 0]at this;have e:S (fun k=>g (k+1)) 0=0:=rfl
    omega
   ·have:=h1 (k+1) (by omega)
    rw[a5g g (k+1)]at this;omega
def gm(n m:Nat)(f:OO):OI:=(List.range n).map fun i=>(List.range m).map (f i)
theorem a1Z{n m:Nat}{f:OO}:(gm n m f).length=n:=by simp[gm]
theorem a9t{n m:Nat}{f:OO}:∀r∈gm n m f,r.length=m:=by
 intro r hr;obtain⟨i,_,rfl⟩:=Zk.mp hr
 simp
theorem c1g{n m:Nat}{f g:OO}(h:∀i<n,∀j<m,f i j=g i j):gm n m f=gm n m g:=by
 unfold gm
 apply Za
 intro i hi
 apply Za
 intro j hj;exact h i (Yq.mp hi) j (Yq.mp hj)
def at2(R:OI)(i j:Nat):Int:=(R.getD i []).getD j 0
theorem c1h{R:OI}{n:Nat}(h1:R.length=n)(h2:∀r∈R,r.length=n):R=gm n n (at2 R):=by
 subst h1;unfold gm
 apply Vx
 ·simp
 ·intro i hi hi'
  have hr:=h2 R[i] (Yt hi)
  rw[List.getElem_map,List.getElem_range]
  apply Vx
  ·simp[hr]
  ·intro j hj hj'
   rw[List.getElem_map,List.getElem_range]
   simp[at2,hi,hj]
theorem b2R(n m:Nat)(f:OO):flip m (gm n m f)=gm m n (fun i j=>f j i):=by
 unfold flip gm
 apply Za
 intro j hj;have hj:=Yq.mp hj;rw[Zn]
 apply Za
 intro i hi
 simp[hj]
theorem a4o{n:Nat}{f:OO}:isT (dT (gm n n f))=true↔(1≤n/\n≤6)/\TabF n f:=by
 unfold isT;rw[a6m,a1Z,b2R,Qy,Xk,Qy,Qw,Qw];have row:∀g:OO,(∀x∈gm n n g,tt 0 x=true)↔ ∀i<n,(∀k≤n,S (g i) k=0∨S (g i) k=1)/\S (g i) n=1:=by
  intro g
  constructor
  ·intro h i hi
   have h1:=(a9s n (g i) 0).mp (h _ (Zk.mpr ⟨i,Yq.mpr hi,rfl⟩))
   refine⟨fun k hk=>?_,by have:=h1.2;omega⟩
   cases k with
   |zero=>exact .inl rfl
   |succ k=>have:=h1.1 k (by omega);omega
  ·intro h x hx
   obtain⟨i,hi,rfl⟩:=Zk.mp hx;have h1:=h i (Yq.mp hi);refine(a9s n (g i) 0).mpr ⟨fun k hk=>?_,by have:=h1.2;omega⟩
   have:=h1.1 (k+1) (by omega);omega
 rw[row,row]
 constructor
 ·rintro⟨h1,h2,h3⟩
  have:=b2p h1;rw[a6m,a1Z]at this;exact⟨⟨by omega,by omega⟩,⟨fun i hi=>(h2 i hi).1,fun i hi=>(h2 i hi).2,fun i hi=>(h3 i hi).1,fun i hi=>(h3 i hi).2⟩⟩
 ·rintro⟨⟨h1,h2⟩,T⟩
  refine⟨b2r (by rw[a1Z];omega) (by rw[a1Z];omega) (by rw[a1Z];exact a9t),fun i hi=>⟨T.row i hi,T.rowN i hi⟩,fun i hi=>⟨T.col i hi,T.colN i hi⟩⟩
abbrev rw'(n:Nat)(g:Nat->Int):List Int:=(List.range n).map g
theorem c1i{n:Nat}{g:Nat->Int}{j:Nat}(h:j<n):dIx (dR (rw' n g)) (.int (j:Int))=some (.int (g j)):=by
 show atI ((rw' n g).map D.int) (j:Int)=_;exact a1f (by simp[h])
theorem c1j{n m:Nat}{f:OO}{j:Nat}(h:j<n):dIx (dT (gm n m f)) (.int (j:Int))=some (dR (rw' m (f j))):=by
 show atI ((gm n m f).map dR) (j:Int)=_;exact a1f (by simp[gm,h])
theorem c1{f:Fn}{m:Mo D}{env:Env'}{d r:D}{ws:List W}(h:m env=some (d,env))(hf:f [.dat d]=some (.d r,ws)):mCD 1 f (z7_ m q0_) env=some (r,env):=
 a0K (a1S (av:=[.d d]) (a3j h rfl) rfl rfl hf)
theorem b2S{n:Nat}{f:OO}(h1:1≤n)(h6:n≤6)(T:TabF n f):a3t [.dat (dT (gm n n f))]=some (.d .non,[.dat (dT (gm n n f))]):=by
 refine(b1o (env:=[.dat (dT (gm n n f))]) ?_).trans rfl;show a8Q [.dat (dT (gm n n f))]=_;unfold a8Q;rw[a0w (e1:=[.dat (dT (gm n n f))]) ?_]
 ·rfl
 ·have:=a9k (dT (gm n n f))
  rw[a4o.mpr ⟨⟨h1,h6⟩,T⟩]at this;exact a1C (b:=true) (a0p (c1 rfl this))
theorem a1r{i:Nat}{e:Env'}{w:W}{a k:Int}{b:Bool}{M:Mo D}(hw:e[i]? =some w)(hm:w.mutL=some [.int a,.bl b])(hM:M e=some (.int k,e))(ha:0≤a)(h1:1≤k)(h2:k<1073741824):
  ∃v a',mCD 2 k2_ (x0_ i (z7_ M q0_)) e=some (.int v,e.set i (w.put [.int a',.bl b]))/\0≤v/\v<k/\0≤a':=by
 obtain⟨v,a',et,v0,v1,a0⟩:=a9n (a:=a) (m:=k) (b:=b) ha h1 h2;refine⟨v,a',a0K (a3l (av:=[.sl i,.d (.int k)]) (c:=[.int a,.bl b]) ?_ rfl rfl hw hm et rfl),v0,v1,a0⟩;unfold x0_;rw[hw];simp only[Qx];have hm':∃m,w.mut=some m:=by
  cases w<;>first|cases hm;done|exact⟨_,rfl⟩
 obtain⟨m,hm'⟩:=hm';rw[hm'];simp only[Qx];rw[a3j hM rfl];rfl
theorem a2a{ds:List D}{v:Int}(h0:0≤v)(h1:v<ds.length):∃d,d∈ds/\dIx (.lst ds) (.int v)=some d:=by
 have hv:v.toNat<ds.length:=by omega
 refine⟨ds[v.toNat],Yt hv,?_⟩;have:((v.toNat:Nat):Int)=v:=by omega
 have h:=a1f (Zw hv)
 rw[this]at h;exact h
theorem b2T{L:List Int}{v:Int}(h0:0≤v)(h1:v<L.length):∃j,j∈L/\dIx (.lst (L.map .int)) (.int v)=some (.int j):=by
 obtain⟨d,hd,e⟩:=a2a (ds:=L.map .int) h0 (by rw[Qk];exact h1)
 obtain⟨j,hj,rfl⟩:=Zk.mp hd;exact⟨j,hj,e⟩
theorem b2U{n:Nat}{v:Int}(h0:0≤v)(h1:v<n):ixN n v=some v.toNat:=by
 unfold ixN;rw[Qc h0,Qc h1]
theorem a1m{xs ys:List D}(h:xs.length+ys.length≤10000):v5_ (.tup xs) (.tup ys)=some (.tup (xs++ys)):=by
 show(if xs.length+ys.length≤10000 then _ else none)=_
 rw[Qc h]
theorem b2V(xs:List D)(lo hi:Option Int):(a1i xs lo hi).length≤xs.length:=by
 unfold a1i;rw[Yr,Xz];omega
theorem a1e{m:Mo D}{ml mh:Mo (Option Int)}{e:Env'}{xs:List D}{lo hi:Option Int}(h:m e=some (.tup xs,e))(h1:ml e=some (lo,e))(h2:mh e=some (hi,e)):mSl m ml mh e=some (.tup (a1i xs lo hi),e):=by
 unfold mSl;rw[h];simp only[Qx];rw[h1];simp only[Qx];rw[h2];rfl
theorem a2H{ms:Mo (List D)}{e e1:Env'}{ds:List D}(h:ms e=some (ds,e1))(hl:ds.length≤1000):x4_ ms e=some (ds,e1):=by
 unfold x4_;rw[h];exact Qc hl
theorem c1k{ma mb:Mo D}{e e1 e2:Env'}{xs ys:List D}(h1:ma e=some (.lst xs,e1))(h2:mb e1=some (.lst ys,e2))(hl:xs.length+ys.length≤10000):a2p ma mb e=some (xs++ys,e2):=by
 unfold a2p;rw[h1];simp only[Qx];rw[h2];exact Qc hl
theorem c1l{T:OI}{a:Int}{b:Bool}(hlo:1≤T.length)(hhi:T.length≤7)(hlen:∀r∈T,r.length=T.length)(ha:0≤a):∃d a',a2F [.par [.int a,.bl b],.dat (dT T)]=some (.d d,[.par [.int a',.bl b],.dat (dT T)])/\0≤a':=by
 obtain⟨v1,a1,t1,p1,q1,a10⟩:=a1r (i:=0) (e:=[.par [.int a,.bl b],.dat (dT T),.nil,.nil,.nil,.nil,.nil,.nil,.nil,.nil,.nil]) (w:=.par [.int a,.bl b]) (k:=T.length) (M:=mCB v8_ (z1_ (z0_ 1) z5_)) rfl rfl
  (by show some (D.int ((T.map dR).length:Nat),_)=_;rw[Qk]) ha (by omega) (by omega)
 have s1:=g1_ (i:=2) t1
 change q8_ 2 _ _=some (.nx,[.par [.int a1,.bl b],.dat (dT T),.dat (.int v1),.nil,.nil,.nil,.nil,.nil,.nil,.nil,.nil])at s1;have hv1:v1.toNat<T.length:=by omega
 have hv1':((v1.toNat:Nat):Int)=v1:=by omega
 generalize hr:T[v1.toNat]=r;have hrl:r.length=T.length:=by rw[←hr];exact hlen _ (Yt hv1)
 have s2:(q8_ 3 (z4_ dIx (z0_ 1) (z0_ 2))) [.par [.int a1,.bl b],.dat (dT T),.dat (.int v1),.nil,.nil,.nil,.nil,.nil,.nil,.nil,.nil]=some (.nx,[.par [.int a1,.bl b],.dat (dT T),.dat (.int v1),.dat (dR r),.nil,.nil,.nil,.nil,.nil,.nil,.nil]):=by
  refine g1_ (e1:=[.par [.int a1,.bl b],.dat (dT T),.dat (.int v1),.nil,.nil,.nil,.nil,.nil,.nil,.nil,.nil]) (v6_ rfl rfl ?_);rw[←hv1'];exact a1f (xs:=T.map dR) (by rw[Yu,Zw hv1,hr];rfl)
 obtain⟨v2,a2,t2,p2,q2,a20⟩:=a1r (i:=0) (e:=[.par [.int a1,.bl b],.dat (dT T),.dat (.int v1),.dat (dR r),.nil,.nil,.nil,.nil,.nil,.nil,.nil]) (w:=.par [.int a1,.bl b]) (k:=(r.length:Int)+1) (M:=z4_ v5_ (mCB v8_ (z1_ (z0_ 3) z5_)) (mC (.int 1))) rfl rfl
  (by show some (D.int (((r.map D.int).length:Nat)+1),_)=_;rw[Qk]) a10 (by omega) (by omega)
 have s3:=g1_ (i:=4) t2
 change q8_ 4 _ _=some (.nx,[.par [.int a2,.bl b],.dat (dT T),.dat (.int v1),.dat (dR r),.dat (.int v2),.nil,.nil,.nil,.nil,.nil,.nil])at s3;obtain⟨v3,a3,t3,p3,q3,a30⟩:=a1r (i:=0) (e:=[.par [.int a2,.bl b],.dat (dT T),.dat (.int v1),.dat (dR r),.dat (.int v2),.nil,.nil,.nil,.nil,.nil,.nil]) (w:=.par [.int a2,.bl b]) (k:=11) (M:=mC (.int 11)) rfl rfl rfl a20 (by omega) (by omega)
 change mCD 2 _ _ _=some (_,[.par [.int a3,.bl b],.dat (dT T),.dat (.int v1),.dat (dR r),.dat (.int v2),.nil,.nil,.nil,.nil,.nil,.nil])at t3;obtain⟨odd,_,hodd⟩:=a2a (ds:=[.int 0,.int 1,.int (-1),.int 2,.bl true,.non,.str "1",.tup [.int 1],.int 100000000000000000000000000000,.bl false,.int 3]) p3 q3;have pow29:a1g (.int 10) (.int 29)=some (.int 100000000000000000000000000000):=b2E (by decide+kernel) (by decide+kernel)
 have s4:(q8_ 5 (z4_ dIx (mF (x4_ (z1_ (mC (.int 0)) (z1_ (mC (.int 1)) (z1_ (a0T (mC (.int 1))) (z1_ (mC (.int 2)) (z1_ (mC (.bl true)) (z1_ (mC .non) (z1_ (mC (.str "1")) (z1_ (q9_ (z1_ (mC (.int 1)) z5_)) (z1_ (z4_ a1g (mC (.int 10)) (mC (.int 29))) (z1_ (mC (.bl false)) (z1_ (mC (.int 3)) z5_))))))))))))) (mCD 2 k2_ (x0_ 0 (z7_ (mC (.int 11)) q0_))))) [.par [.int a2,.bl b],.dat (dT T),.dat (.int v1),.dat (dR r),.dat (.int v2),.nil,.nil,.nil,.nil,.nil,.nil]=some (.nx,[.par [.int a3,.bl b],.dat (dT T),.dat (.int v1),.dat (dR r),.dat (.int v2),.dat odd,.nil,.nil,.nil,.nil,.nil]):=by
  refine g1_ (e1:=[.par [.int a3,.bl b],.dat (dT T),.dat (.int v1),.dat (dR r),.dat (.int v2),.nil,.nil,.nil,.nil,.nil,.nil]) (v6_ (a0i (a2H (y2_ rfl (y2_ rfl (y2_ rfl (y2_ rfl (y2_ rfl (y2_ rfl (y2_ rfl (y2_ rfl (y2_ (v6_ rfl rfl pow29) (y2_ rfl (y2_ rfl rfl))))))))))) (by simp))) t3 hodd)
 obtain⟨v4,a4,t4,p4,q4,a40⟩:=a1r (i:=0) (e:=[.par [.int a3,.bl b],.dat (dT T),.dat (.int v1),.dat (dR r),.dat (.int v2),.dat odd,.nil,.nil,.nil,.nil,.nil]) (w:=.par [.int a3,.bl b]) (k:=T.length) (M:=mCB v8_ (z1_ (z0_ 1) z5_)) rfl rfl
  (by show some (D.int ((T.map dR).length:Nat),_)=_;rw[Qk]) a30 (by omega) (by omega)
 have s5:=g1_ (i:=6) t4
 change q8_ 6 _ _=some (.nx,[.par [.int a4,.bl b],.dat (dT T),.dat (.int v1),.dat (dR r),.dat (.int v2),.dat odd,.dat (.int v4),.nil,.nil,.nil,.nil])at s5;have cl:∀lo hi,(a1i (r.map D.int) lo hi).length≤7:=fun lo hi=>Qo (b2V _ _ _) (by rw[Qk];omega)
 have cl2:∀lo hi,(a1i (T.map dR) lo hi).length≤7:=fun lo hi=>Qo (b2V _ _ _) (by rw[Qk];omega)
 obtain⟨rows5,hrows5,s6⟩:∃rows5:List D,rows5.length=5/\(q8_ 7 (mF (x4_ (z1_ (z4_ v5_ (z4_ v5_ (mSl (z0_ 3) k3_ (k4_ (z0_ 4))) (q9_ (z1_ (z0_ 5) z5_))) (mSl (z0_ 3) (k4_ (z4_ v5_ (z0_ 4) (mC (.int 1)))) k3_)) (z1_ (z4_ v5_ (z4_ v5_ (mSl (z0_ 3) k3_ (k4_ (z0_ 4))) (q9_ (z1_ (z0_ 5) z5_))) (mSl (z0_ 3) (k4_ (z0_ 4)) k3_)) (z1_ (z4_ v5_ (mSl (z0_ 3) k3_ (k4_ (z0_ 4))) (mSl (z0_ 3) (k4_ (z4_ v5_ (z0_ 4) (mC (.int 1)))) k3_)) (z1_ (mF (mCL a3a (z1_ (z0_ 3) z5_))) (z1_ (a1j (z0_ 3)) z5_)))))))) [.par [.int a4,.bl b],.dat (dT T),.dat (.int v1),.dat (dR r),.dat (.int v2),.dat odd,.dat (.int v4),.nil,.nil,.nil,.nil]=some (.nx,[.par [.int a4,.bl b],.dat (dT T),.dat (.int v1),.dat (dR r),.dat (.int v2),.dat odd,.dat (.int v4),.dat (.lst rows5),.nil,.nil,.nil]):=by
  refine⟨[_,_,_,_,_],?_,g1_ (e1:=[.par [.int a4,.bl b],.dat (dT T),.dat (.int v1),.dat (dR r),.dat (.int v2),.dat odd,.dat (.int v4),.nil,.nil,.nil,.nil]) (a0i (a2H (y2_
   (v6_ (v6_ (a1e rfl rfl rfl) rfl (a1m ?_)) (a1e rfl rfl rfl) (a1m ?_)) (y2_
   (v6_ (v6_ (a1e rfl rfl rfl) rfl (a1m ?_)) (a1e rfl rfl rfl) (a1m ?_)) (y2_
   (v6_ (a1e rfl rfl rfl) (a1e rfl rfl rfl) (a1m ?_)) (y2_ rfl (y2_ rfl rfl))))) (by simp)))⟩
  ·rfl
  ·have:=cl none (some v2);simp;omega
  ·have:=cl none (some v2);have:=cl (some (v2+1)) none;simp;omega
  ·have:=cl none (some v2);simp;omega
  ·have:=cl none (some v2);have:=cl (some v2) none;simp;omega
  ·have:=cl none (some v2);have:=cl (some (v2+1)) none;omega
 obtain⟨v5,a5,t5,p5,q5,a50⟩:=a1r (i:=0) (e:=[.par [.int a4,.bl b],.dat (dT T),.dat (.int v1),.dat (dR r),.dat (.int v2),.dat odd,.dat (.int v4),.dat (.lst rows5),.nil,.nil,.nil]) (w:=.par [.int a4,.bl b]) (k:=9) (M:=mC (.int 9)) rfl rfl rfl a40 (by omega) (by omega)
 change mCD 2 _ _ _=some (_,[.par [.int a5,.bl b],.dat (dT T),.dat (.int v1),.dat (dR r),.dat (.int v2),.dat odd,.dat (.int v4),.dat (.lst rows5),.nil,.nil,.nil])at t5;obtain⟨j5,hj5,ej5⟩:=b2T (L:=[0,0,0,0,0,1,2,3,4]) p5 q5;obtain⟨one,_,hone⟩:=a2a (ds:=rows5) (v:=j5) (by simp at hj5;omega) (by simp at hj5;omega)
 have s7:(q8_ 8 (z4_ dIx (z0_ 7) (z4_ dIx (mF (x4_ (z1_ (mC (.int 0)) (z1_ (mC (.int 0)) (z1_ (mC (.int 0)) (z1_ (mC (.int 0)) (z1_ (mC (.int 0)) (z1_ (mC (.int 1)) (z1_ (mC (.int 2)) (z1_ (mC (.int 3)) (z1_ (mC (.int 4)) z5_))))))))))) (mCD 2 k2_ (x0_ 0 (z7_ (mC (.int 9)) q0_)))))) [.par [.int a4,.bl b],.dat (dT T),.dat (.int v1),.dat (dR r),.dat (.int v2),.dat odd,.dat (.int v4),.dat (.lst rows5),.nil,.nil,.nil]=some (.nx,[.par [.int a5,.bl b],.dat (dT T),.dat (.int v1),.dat (dR r),.dat (.int v2),.dat odd,.dat (.int v4),.dat (.lst rows5),.dat one,.nil,.nil]):=
  g1_ (e1:=[.par [.int a5,.bl b],.dat (dT T),.dat (.int v1),.dat (dR r),.dat (.int v2),.dat odd,.dat (.int v4),.dat (.lst rows5),.nil,.nil,.nil]) (v6_ rfl (v6_ rfl t5 ej5) hone)
 obtain⟨some3,hsome3,s8⟩:∃some3:List D,some3.length=3/\(q8_ 9 (mF (x4_ (z1_ (z4_ v5_ (z4_ v5_ (mSl (z0_ 1) k3_ (k4_ (z0_ 2))) (q9_ (z1_ (z0_ 8) z5_))) (mSl (z0_ 1) (k4_ (z4_ v5_ (z0_ 2) (mC (.int 1)))) k3_)) (z1_ (z4_ v5_ (z4_ v5_ (mSl (z0_ 1) k3_ (k4_ (z0_ 2))) (q9_ (z1_ (z0_ 3) z5_))) (mSl (z0_ 1) (k4_ (z0_ 2)) k3_)) (z1_ (z4_ v5_ (mSl (z0_ 1) k3_ (k4_ (z0_ 2))) (mSl (z0_ 1) (k4_ (z4_ v5_ (z0_ 2) (mC (.int 1)))) k3_)) z5_)))))) [.par [.int a5,.bl b],.dat (dT T),.dat (.int v1),.dat (dR r),.dat (.int v2),.dat odd,.dat (.int v4),.dat (.lst rows5),.dat one,.nil,.nil]=some (.nx,[.par [.int a5,.bl b],.dat (dT T),.dat (.int v1),.dat (dR r),.dat (.int v2),.dat odd,.dat (.int v4),.dat (.lst rows5),.dat one,.dat (.lst some3),.nil]):=by
  refine⟨[_,_,_],?_,g1_ (e1:=[.par [.int a5,.bl b],.dat (dT T),.dat (.int v1),.dat (dR r),.dat (.int v2),.dat odd,.dat (.int v4),.dat (.lst rows5),.dat one,.nil,.nil]) (a0i (a2H (y2_
   (v6_ (v6_ (a1e rfl rfl rfl) rfl (a1m ?_)) (a1e rfl rfl rfl) (a1m ?_)) (y2_
   (v6_ (v6_ (a1e rfl rfl rfl) rfl (a1m ?_)) (a1e rfl rfl rfl) (a1m ?_)) (y2_
   (v6_ (a1e rfl rfl rfl) (a1e rfl rfl rfl) (a1m ?_)) rfl))) (by simp)))⟩
  ·rfl
  ·have:=cl2 none (some v1);simp;omega
  ·have:=cl2 none (some v1);have:=cl2 (some (v1+1)) none;simp;omega
  ·have:=cl2 none (some v1);simp;omega
  ·have:=cl2 none (some v1);have:=cl2 (some v1) none;simp;omega
  ·have:=cl2 none (some v1);have:=cl2 (some (v1+1)) none;omega
 have s9:(u5_ 10 (mCL a3a (z1_ (z0_ 1) z5_))) [.par [.int a5,.bl b],.dat (dT T),.dat (.int v1),.dat (dR r),.dat (.int v2),.dat odd,.dat (.int v4),.dat (.lst rows5),.dat one,.dat (.lst some3),.nil]=some (.nx,[.par [.int a5,.bl b],.dat (dT T),.dat (.int v1),.dat (dR r),.dat (.int v2),.dat odd,.dat (.int v4),.dat (.lst rows5),.dat one,.dat (.lst some3),.own (T.map dR)]):=rfl
 have hv4:v4.toNat<T.length:=by omega
 obtain⟨d4,_,e4⟩:=a2a (ds:=T.map dR) (v:=v4) p4 (by rw[Qk];exact q4)
 obtain⟨d1,_,e1⟩:=a2a (ds:=T.map dR) (v:=v1) p1 (by rw[Qk];exact q1)
 have s10:(a0g (q9_ (z1_ (w7_ 10 (z0_ 6)) (z1_ (w7_ 10 (z0_ 2)) z5_))) (gT 2 (gCn (gS 10 (z0_ 2)) (gCn (gS 10 (z0_ 6)) gNl)))) [.par [.int a5,.bl b],.dat (dT T),.dat (.int v1),.dat (dR r),.dat (.int v2),.dat odd,.dat (.int v4),.dat (.lst rows5),.dat one,.dat (.lst some3),.own (T.map dR)]=some (.nx,[.par [.int a5,.bl b],.dat (dT T),.dat (.int v1),.dat (dR r),.dat (.int v2),.dat odd,.dat (.int v4),.dat (.lst rows5),.dat one,.dat (.lst some3),.own (((T.map dR).set v1.toNat d4).set v4.toNat d1)]):=by
  have m1:(w7_ 10 (z0_ 6)) [.par [.int a5,.bl b],.dat (dT T),.dat (.int v1),.dat (dR r),.dat (.int v2),.dat odd,.dat (.int v4),.dat (.lst rows5),.dat one,.dat (.lst some3),.own (T.map dR)]=some (d4,[.par [.int a5,.bl b],.dat (dT T),.dat (.int v1),.dat (dR r),.dat (.int v2),.dat odd,.dat (.int v4),.dat (.lst rows5),.dat one,.dat (.lst some3),.own (T.map dR)]):=by
   show(dIx (.lst (T.map dR)) (.int v4)).map _=_;rw[e4];rfl
  have m2:(w7_ 10 (z0_ 2)) [.par [.int a5,.bl b],.dat (dT T),.dat (.int v1),.dat (dR r),.dat (.int v2),.dat odd,.dat (.int v4),.dat (.lst rows5),.dat one,.dat (.lst some3),.own (T.map dR)]=some (d1,[.par [.int a5,.bl b],.dat (dT T),.dat (.int v1),.dat (dR r),.dat (.int v2),.dat odd,.dat (.int v4),.dat (.lst rows5),.dat one,.dat (.lst some3),.own (T.map dR)]):=by
   show(dIx (.lst (T.map dR)) (.int v1)).map _=_;rw[e1];rfl
  have m3:(q9_ (z1_ (w7_ 10 (z0_ 6)) (z1_ (w7_ 10 (z0_ 2)) z5_))) [.par [.int a5,.bl b],.dat (dT T),.dat (.int v1),.dat (dR r),.dat (.int v2),.dat odd,.dat (.int v4),.dat (.lst rows5),.dat one,.dat (.lst some3),.own (T.map dR)]=some (.tup [d4,d1],[.par [.int a5,.bl b],.dat (dT T),.dat (.int v1),.dat (dR r),.dat (.int v2),.dat odd,.dat (.int v4),.dat (.lst rows5),.dat one,.dat (.lst some3),.own (T.map dR)]):=by
   unfold q9_;rw[y2_ m1 (y2_ m2 rfl)];rfl
  unfold a0g;rw[m3];show(((ixN (T.map dR).length v1).map _).bind _).map _=_;rw[b2U p1 (by rw[Qk];exact q1)]
  show((((ixN ((T.map dR).set v1.toNat d4).length v4).map _).bind _).map _)=_;rw[b2U p4 (by rw[Zp,Qk];exact q4)];rfl
 obtain⟨sw,hsw⟩:∃sw:List D,sw=((T.map dR).set v1.toNat d4).set v4.toNat d1:=⟨_,rfl⟩;rw[←hsw]at s10;obtain⟨some10,hsome10,s11⟩:∃some10:List D,some10.length=10/\(q8_ 9 (mF (a2p (z0_ 9) (mF (x4_ (z1_ (mCB a0k (z1_ (z0_ 10) z5_)) (z1_ (mF (mCL a3a (z1_ (z0_ 1) z5_))) (z1_ (mC .non) (z1_ (mC .emp) (z1_ (q9_ (z1_ (z0_ 1) z5_)) (z1_ (z0_ 5) (z1_ (a1j (z0_ 1)) z5_)))))))))))) [.par [.int a5,.bl b],.dat (dT T),.dat (.int v1),.dat (dR r),.dat (.int v2),.dat odd,.dat (.int v4),.dat (.lst rows5),.dat one,.dat (.lst some3),.own sw]=some (.nx,[.par [.int a5,.bl b],.dat (dT T),.dat (.int v1),.dat (dR r),.dat (.int v2),.dat odd,.dat (.int v4),.dat (.lst rows5),.dat one,.dat (.lst some10),.dat (.lst sw)]):=by
  refine⟨some3++[.tup sw,.lst (T.map dR),.non,.emp,.tup [dT T],odd,.tup (T.map dR).reverse],by simp[hsome3],?_⟩
  exact g1_ (e1:=[.par [.int a5,.bl b],.dat (dT T),.dat (.int v1),.dat (dR r),.dat (.int v2),.dat odd,.dat (.int v4),.dat (.lst rows5),.dat one,.dat (.lst some3),.dat (.lst sw)]) (a0i (c1k rfl (a0i (a2H rfl (by simp))) (by simp[hsome3])))
 obtain⟨v6,a6,t6,p6,q6,a60⟩:=a1r (i:=0) (e:=[.par [.int a5,.bl b],.dat (dT T),.dat (.int v1),.dat (dR r),.dat (.int v2),.dat odd,.dat (.int v4),.dat (.lst rows5),.dat one,.dat (.lst some10),.dat (.lst sw)]) (w:=.par [.int a5,.bl b]) (k:=15) (M:=mC (.int 15)) rfl rfl rfl a50 (by omega) (by omega)
 change mCD 2 _ _ _=some (_,[.par [.int a6,.bl b],.dat (dT T),.dat (.int v1),.dat (dR r),.dat (.int v2),.dat odd,.dat (.int v4),.dat (.lst rows5),.dat one,.dat (.lst some10),.dat (.lst sw)])at t6;obtain⟨j6,hj6,ej6⟩:=b2T (L:=[0,0,0,0,0,1,2,3,3,4,5,6,7,8,9]) p6 q6;obtain⟨res,_,hres⟩:=a2a (ds:=some10) (v:=j6) (by simp at hj6;omega) (by simp at hj6;omega)
 refine⟨res,a6,(w3_ (d:=res) (env:=[.par [.int a6,.bl b],.dat (dT T),.dat (.int v1),.dat (dR r),.dat (.int v2),.dat odd,.dat (.int v4),.dat (.lst rows5),.dat one,.dat (.lst some10),.dat (.lst sw)]) ?_).trans rfl,a60⟩;show a9h [.par [.int a,.bl b],.dat (dT T),.nil,.nil,.nil,.nil,.nil,.nil,.nil,.nil,.nil]=_;unfold a9h;rw[y9_ s1,y9_ s2,y9_ s3,y9_ s4,y9_ s5,y9_ s6,y9_ s7,y9_ s8,y9_ s9,y9_ s10,y9_ s11];exact j2_ (v6_ rfl (v6_ rfl t6 ej6) hres)
theorem c1m{T:OI}{a:Int}{b:Bool}(hT:Tab T)(ha:0≤a):∃d a',a2F [.par [.int a,.bl b],.dat (dT T)]=some (.d d,[.par [.int a',.bl b],.dat (dT T)])/\0≤a':=
 c1l hT.lo (Qo hT.hi (by decide)) hT.len ha
theorem a8g{t u:Mo D}{e e1:Env'}{r:Option (D×Env')}(h:t e=some (.bl true,e1))(h2:u e1=r):u4_ t u e=r:=by unfold u4_;rw[h];exact h2
theorem b2e{t u:Mo D}{e e1:Env'}(h:t e=some (.bl false,e1)):u4_ t u e=some (.bl false,e1):=by unfold u4_;rw[h];rfl
theorem a3j{m:Mo D}{as:Mo (List Ar)}{e e1 e2:Env'}{d:D}{q:List Ar}(h:m e=some (d,e1))(h2:as e1=some (q,e2)):z7_ m as e=some (.d d::q,e2):=by
 unfold z7_;rw[h,Qx,h2];rfl
theorem c1n{n m:Nat}{f:OO}:v8_ [dT (gm n m f)]=some (.int n):=by show some (D.int _)=_;rw[Qk,a1Z]
theorem c1o(k:Nat)(i:Int):a0r (k+1) [.dat (.int i),.dat (.int i)]=some (.d (.bl true),[.dat (.int i),.dat (.int i)]):=by
 refine(w3_ (d:=.bl true) (env:=[.dat (.int i),.dat (.int i)]) ?_).trans rfl;show a5c (a0r k) [.dat (.int i),.dat (.int i)]=_;unfold a5c;refine k9_ (a1V rfl rfl) (j2_ ?_);show some (D.bl (i==i),_)=_;rw[Uy]
def isI(o:Option D)(k:Int):Bool:=match o with
 |some (.int i)=>i==k
 |_=>false
theorem b2W{o:Option D}{k:Int}(h:isI o k=true):o=some (.int k):=by
 unfold isI at h;split at h
 ·rw[eq_of_beq h]
 ·cases h
theorem b2X:a1b (some "NoTable")=some (.int 0):=b2W (by decide+kernel)
theorem c1p{i:Nat}{e e1:Env'}{w:W}{c:Mu}{as:Mo (List Ar)}{q:List Ar}(hw:e[i]? =some w)(hm:w.mut=some c)(h:as e=some (q,e1)):x0_ i as e=some (.sl i::q,e1):=by
 unfold x0_;rw[hw,Qx,hm,Qx,h];rfl
theorem b2Y{t:Mo Bool}{x y:Mx}{e e1:Env'}(h:t e=some (true,e1)):xIf t x y e=x e1:=by unfold xIf;rw[h];rfl
theorem b2Z{x y:Mx}{s:Mo Fl}{e:Env'}{n:Str}(h:x e=some n):a2u x s y e=some n:=by unfold a2u;rw[h]
theorem c1q{d:D}(h:isT d=false):a4h [.dat d]=some "NoTable":=by
 have e:=a9k d
 rw[h]at e;show a4V [.dat d]=_;unfold a4V;exact(b2Y (e1:=[.dat d]) (a1C (a0p (a2B (av:=[.d d]) rfl rfl rfl e)))).trans rfl
theorem b3a{g:OZ}{b:Mo Fl}{P:Env'->Prop}{R:D->Env'->Prop}:∀{ds:List D}{env:Env'},(∀d∈ds,∀e,P e->∃e1,g d e=some e1/\((∃e2,b e1=some (.nx,e2)/\P e2)∨ ∃r e2,b e1=some (.ret r,e2)/\R r e2))->P env->(∃env',loop g b ds env=some (.nx,env')/\P env')∨ ∃r env',loop g b ds env=some (.ret r,env')/\R r env'
 |[],env,_,p=>.inl ⟨env,rfl,p⟩
 |d::ds,env,h,p=>by
  obtain⟨e1,h1,h2|⟨r,e2,h2,h3⟩⟩:=h d (by simp) env p
  ·obtain⟨e2,h2,h3⟩:=h2
   have:=b3a (ds:=ds) (fun x hx=>h x (by simp[hx])) h3
   unfold loop;rw[h1,Qx,h2,Qx];exact this
  ·refine .inr ⟨r,e2,?_,h3⟩
   unfold loop;rw[h1,Qx,h2,Qx]
abbrev nb:Mo Fl:=(q2_ (q8_ 2 (mCD 2 a2F (x0_ 0 (z7_ (mCD 3 a1o (x0_ 0 (z7_ (mC (.int 1)) (z7_ (mC (.int 6)) q0_)))) q0_)))) (y3_ (y8_ (mT (mCD 1 a3C (z7_ (z0_ 2) q0_)))) (v1_ (z0_ 2)) mNx))
theorem c1r{a:Int}{b:Bool}(ha:0≤a)(w1 w2:W):(∃a' x2,0≤a'/\nb [.par [.int a,.bl b],w1,w2]=some (.nx,[.par [.int a',.bl b],w1,x2]))∨ ∃d a',0≤a'/\isT d=false/\nb [.par [.int a,.bl b],w1,w2]=some (.ret d,[.par [.int a',.bl b],w1,.dat d]):=by
 obtain⟨T,a1,et,a10,hT,_,_⟩:=b2M (a:=a) (l:=1) (m:=6) (b:=b) ha (by decide) (by decide) (by decide)
 obtain⟨d,a2,eb,a20⟩:=c1m (b:=b) hT a10;have c1:(mCD 3 a1o (x0_ 0 (z7_ (mC (.int 1)) (z7_ (mC (.int 6)) q0_)))) [.par [.int a,.bl b],w1,w2]=some (dT T,[.par [.int a1,.bl b],w1,w2]):=
  a0K ((a3l (e1:=[.par [.int a,.bl b],w1,w2]) (w:=.par [.int a,.bl b]) (av:=[.sl 0,.d (.int 1),.d (.int 6)]) (i:=0) (c:=[.int a,.bl b]) (c':=[.int a1,.bl b]) rfl rfl rfl rfl rfl et rfl).trans rfl)
 have c2:(q8_ 2 (mCD 2 a2F (x0_ 0 (z7_ (mCD 3 a1o (x0_ 0 (z7_ (mC (.int 1)) (z7_ (mC (.int 6)) q0_)))) q0_)))) [.par [.int a,.bl b],w1,w2]=some (.nx,[.par [.int a2,.bl b],w1,.dat d]):=by
  refine g1_ (e1:=[.par [.int a2,.bl b],w1,w2]) (a0K ((a3l (e1:=[.par [.int a1,.bl b],w1,w2]) (w:=.par [.int a1,.bl b]) (av:=[.sl 0,.d (dT T)]) (i:=0) (c:=[.int a1,.bl b]) (c':=[.int a2,.bl b]) (c1p rfl rfl (a3j c1 rfl)) rfl rfl rfl rfl eb rfl).trans rfl))
 have t:=a1C (a0p (a2B (n:=1) (f:=a3C) (as:=z7_ (z0_ 2) q0_) (env:=[.par [.int a2,.bl b],w1,.dat d]) (av:=[.d d]) rfl rfl rfl (c0Q d)))
 unfold nb;cases h:isT d with
 |true=>
  rw[h]at t;exact .inl ⟨a2,_,a20,k9_ c2 (a1V t rfl)⟩
 |false=>
  rw[h]at t;exact .inr ⟨d,a2,a20,h,k9_ c2 (a8e t rfl)⟩
theorem nt0:isT .non=false:=by decide+kernel
theorem nt1:isT (.tup [])=false:=by decide+kernel
theorem nt2:isT (.tup [.tup [.int 0]])=false:=by decide+kernel
theorem nt3:isT (.tup [.tup [.int 1,.int 0],.tup [.int 1,.int 0]])=false:=by decide+kernel
theorem c1s{a:Int}{b:Bool}(ha:0≤a):∃d a',a4m [.par [.int a,.bl b]]=some (.d d,[.par [.int a',.bl b]])/\0≤a'/\isT d=false:=by
 have L:=b3a (g:=gN 1) (b:=nb) (P:=fun e=>∃a x1 x2,0≤a/\e=[.par [.int a,.bl b],x1,x2]) (R:=fun d e=>isT d=false/\∃a x1 x2,0≤a/\e=[.par [.int a,.bl b],x1,x2]) (ds:=rgD 8) (env:=[.par [.int a,.bl b],.nil,.nil])
  (fun d hd e ⟨a,x1,x2,ha,he⟩=>by
   subst he;refine⟨_,rfl,?_⟩;obtain⟨a',y2,a0,h⟩|⟨r,a',a0,hr,h⟩:=c1r (b:=b) ha (.dat d) x2
   ·exact .inl ⟨_,h,a',_,_,a0,rfl⟩
   ·exact .inr ⟨r,_,h,hr,a',_,_,a0,rfl⟩) ⟨a,_,_,ha,rfl⟩
 obtain⟨e',h,a1,x1,x2,a10,rfl⟩|⟨d,e',h,hd,a1,x1,x2,a10,rfl⟩:=L
 ·obtain⟨v,a2,tk,v0,v4,a20⟩:=a1r (i:=0) (e:=[.par [.int a1,.bl b],x1,x2]) (w:=.par [.int a1,.bl b]) (k:=4) (M:=mC (.int 4)) rfl rfl rfl a10 (by decide) (by decide)
  obtain⟨d,hd,hx⟩:=a2a (ds:=[.non,.tup [],.tup [.tup [.int 0]],.tup [.tup [.int 1,.int 0],.tup [.int 1,.int 0]]]) v0 v4;have hT:isT d=false:=by
   simp only[Qh,Qa,Yg]at hd;obtain rfl|rfl|rfl|rfl:=hd
   ·exact nt0
   ·exact nt1
   ·exact nt2
   ·exact nt3
  refine⟨d,a2,(w3_ (d:=d) (env:=[.par [.int a2,.bl b],x1,x2]) ?_).trans rfl,a20,hT⟩;show a5b [.par [.int a,.bl b],.nil,.nil]=_;unfold a5b;exact k9_ ((a1D (a4R (n:=8) rfl rfl (by decide))).trans h) (j2_ (v6_ rfl tk hx))
 ·refine⟨d,a1,(w3_ (d:=d) (env:=[.par [.int a1,.bl b],x1,x2]) ?_).trans rfl,a10,hd⟩
  show a5b [.par [.int a,.bl b],.nil,.nil]=_;unfold a5b;exact a0I ((a1D (a4R (n:=8) rfl rfl (by decide))).trans h)
theorem Tab.fn{T:OI}(hT:Tab T):T=gm T.length T.length (at2 T)/\TabF T.length (at2 T):=by
 have e:=c1h rfl hT.len
 refine⟨e,?_⟩;have h:=hT.ok;rw[e]at h;exact(a4o.mp h).2
theorem c1t{x y:Mx}{s:Mo Fl}{e e1:Env'}{r:Option Str}(h:x e=none)(hs:s e=some (.nx,e1))(hy:y e1=r):a2u x s y e=r:=by unfold a2u;rw[h,hs];exact hy
theorem b3b{α:Type}(n:Nat)(g:Nat->α):((List.range n).map g).reverse=(List.range n).map fun i=>g (n-1-i):=by
 apply Vx
 ·simp
 ·intro i h1 h2
  simp
theorem c1u{n m:Nat}{f:OO}:(gm n m f).reverse=gm n m fun i j=>f (n-1-i) j:=b3b n _
theorem b3c{m:Mo D}{e:Env'}{ds:List D}{r:D}(h:m e=some (.tup ds,e))(hr:.tup ds.reverse=r):a1j m e=some (r,e):=by
 unfold a1j;rw[h,←hr]
 rfl
theorem b3d{m:Mo D}{e:Env'}{n k:Nat}{f:OO}(h:m e=some (dT (gm n k f),e)):a1j m e=some (dT (gm n k fun i j=>f (n-1-i) j),e):=
 b3c h (by unfold dT;rw[←c1u,List.map_reverse])
section
variable{n:Nat}{f:OO}
theorem b3e(h1:1≤n)(h6:n≤6):a0y [.dat (dT (gm n n f))]=some (.d (dT (gm n n fun i j=>f j i)),[.dat (dT (gm n n f))]):=by
 have h:=b2s (R:=gm n n f) (n:=n) (fun z=>by have:=Jf List.length z;rw[a1Z]at this;simp at this;omega) a9t (by omega) (by rw[a1Z];omega)
 rw[b2R]at h;exact h
theorem c1v:a3u [.dat (dT (gm n n f))]=some (.d (dT (gm n n f)),[.dat (dT (gm n n f))]):=rfl
theorem a6p(h1:1≤n)(h6:n≤6):a1a [.dat (dT (gm n n f))]=some (.d (dT (gm n n fun i j=>f j (n-1-i))),[.dat (dT (gm n n f))]):=by
 refine a1H (env:=[.dat (dT (gm n n f))]) ?_ rfl;show a8R [.dat (dT (gm n n f))]=_;unfold a8R;exact j2_ (b3d (c1 rfl (b3e h1 h6)))
theorem a9u(h1:1≤n)(h6:n≤6):a1n [.dat (dT (gm n n f))]=some (.d (dT (gm n n fun i j=>f (n-1-i) (n-1-j))),[.dat (dT (gm n n f))]):=by
 refine a1H (env:=[.dat (dT (gm n n f))]) ?_ rfl;show a8S [.dat (dT (gm n n f))]=_;unfold a8S;exact j2_ (c1 (c1 rfl (a6p h1 h6)) (a6p h1 h6))
theorem c1w(h1:1≤n)(h6:n≤6):a3v [.dat (dT (gm n n f))]=some (.d (dT (gm n n fun i j=>f (n-1-j) i)),[.dat (dT (gm n n f))]):=by
 refine a1H (env:=[.dat (dT (gm n n f))]) ?_ rfl;show a8T [.dat (dT (gm n n f))]=_;unfold a8T;have h:gm n n (fun i j=>f (n-1-j) (n-1-(n-1-i)))=gm n n (fun i j=>f (n-1-j) i):=c1g fun i hi j hj=>by rw[show n-1-(n-1-i)=i by omega]
 rw[←h];exact j2_ (c1 (c1 rfl (a9u h1 h6)) (a6p h1 h6))
theorem c1x(h1:1≤n)(h6:n≤6):a3w [.dat (dT (gm n n f))]=some (.d (dT (gm n n fun i j=>f i (n-1-j))),[.dat (dT (gm n n f))]):=by
 refine a1H (env:=[.dat (dT (gm n n f))]) ?_ rfl;show a8U [.dat (dT (gm n n f))]=_;unfold a8U;refine j2_ (a0J (y2_ (a0i (b9a (α:=Nat) (l:=List.range n) (q:=fun i=>dR (rw' n (f i))) (f:=fun i=>dR (rw' n fun j=>f i (n-1-j))) (base:=[.nil]) (a3k rfl (by show some ((gm n n f).map dR)=_;unfold gm;rw[Zn];rfl)) (by simp;omega) rfl rfl (fun i hi=>b3c (ds:=(rw' n (f i)).map D.int) rfl ?_) (fun _=>rfl))) rfl) (d:=dT (gm n n fun i j=>f i (n-1-j))) ?_)
 ·unfold dR rw'
  rw[←b3b,List.map_reverse]
 ·show some (D.tup _)=_
  unfold dT gm;rw[Zn]
  rfl
theorem c1y:a3x [.dat (dT (gm n n f))]=some (.d (dT (gm n n fun i j=>f (n-1-i) j)),[.dat (dT (gm n n f))]):=by
 refine a1H (env:=[.dat (dT (gm n n f))]) ?_ rfl;show a8V [.dat (dT (gm n n f))]=_;unfold a8V;exact j2_ (b3d rfl)
theorem b3f(h1:1≤n)(h6:n≤6):a1X [.dat (dT (gm n n f))]=some (.d (dT (gm n n fun i j=>f j i)),[.dat (dT (gm n n f))]):=by
 refine a1H (env:=[.dat (dT (gm n n f))]) ?_ rfl;show a8W [.dat (dT (gm n n f))]=_;unfold a8W;exact j2_ (c1 rfl (b3e h1 h6))
theorem c1z(h1:1≤n)(h6:n≤6):a3y [.dat (dT (gm n n f))]=some (.d (dT (gm n n fun i j=>f (n-1-j) (n-1-i))),[.dat (dT (gm n n f))]):=by
 refine a1H (env:=[.dat (dT (gm n n f))]) ?_ rfl;show a8X [.dat (dT (gm n n f))]=_;unfold a8X;exact j2_ (c1 (c1 rfl (b3f h1 h6)) (a9u h1 h6))
end
abbrev TN:List (Str×Str):=[("stay","stayed"),("left","turned_left"),("half","turned_half"),("right","turned_right"),("upright","told_upright"),("flat","told_flat"),("slant","told_slant"),("other","told_other")]
abbrev TF:List (Str×Fn):=[("stayed",a3u),("turned_left",a1a),("turned_half",a1n),("turned_right",a3v),("told_upright",a3w),("told_flat",a3x),("told_slant",a1X),("told_other",a3y)]
abbrev W8:List Str:=["stay","left","half","right","upright","flat","slant","other"]
def pos(w:Str)(n r c:Nat):Nat×Nat:=
 if w="stay" then(r,c)else if w="left" then(c,n-1-r)else if w="half" then(n-1-r,n-1-c)else if w="right" then(n-1-c,r)
 else if w="upright" then(r,n-1-c)else if w="flat" then(n-1-r,c)else if w="slant" then(c,r)else(n-1-c,n-1-r)
def tf(w:Str)(n:Nat)(f:OO)(r c:Nat):Int:=f (pos w n r c).1 (pos w n r c).2
structure Turn(w:Str)(F:Fn):Prop where
 nm:∃x,lkF TN (.inr w)=some x/\TF.lookup x=some F
 f:∀n f,1≤n->n≤6->F [.dat (dT (gm n n f))]=some (.d (dT (gm n n (tf w n f))),[.dat (dT (gm n n f))])
theorem b3g:pos "stay"=fun n r c=>(r,c):=by
 funext n r c
 unfold pos;rw[Qc rfl]
theorem b3h:pos "left"=fun n r c=>(c,n-1-r):=by
 funext n r c
 unfold pos;rw[Ql (by decide+kernel),Qc rfl]
theorem b3i:pos "half"=fun n r c=>(n-1-r,n-1-c):=by
 funext n r c
 unfold pos;rw[Ql (by decide+kernel),Ql (by decide+kernel),Qc rfl]
theorem b3j:pos "right"=fun n r c=>(n-1-c,r):=by
 funext n r c
 unfold pos;rw[Ql (by decide+kernel),Ql (by decide+kernel),Ql (by decide+kernel),Qc rfl]
theorem b3k:pos "upright"=fun n r c=>(r,n-1-c):=by
 funext n r c
 unfold pos;rw[Ql (by decide+kernel),Ql (by decide+kernel),Ql (by decide+kernel),Ql (by decide+kernel),Qc rfl]
theorem b3l:pos "flat"=fun n r c=>(n-1-r,c):=by
 funext n r c
 unfold pos;rw[Ql (by decide+kernel),Ql (by decide+kernel),Ql (by decide+kernel),Ql (by decide+kernel),Ql (by decide+kernel),Qc rfl]
theorem b3m:pos "slant"=fun n r c=>(c,r):=by
 funext n r c
 unfold pos;rw[Ql (by decide+kernel),Ql (by decide+kernel),Ql (by decide+kernel),Ql (by decide+kernel),Ql (by decide+kernel),Ql (by decide+kernel),Qc rfl]
theorem b3n:pos "other"=fun n r c=>(n-1-c,n-1-r):=by
 funext n r c
 unfold pos;rw[Ql (by decide+kernel),Ql (by decide+kernel),Ql (by decide+kernel),Ql (by decide+kernel),Ql (by decide+kernel),Ql (by decide+kernel),Ql (by decide+kernel)]
theorem a2I{x:Str}{l:List (Str×Fn)}{y:Str}{F:Fn}(h:(x==y)=true):((y,F)::l).lookup x=some F:=by unfold List.lookup;rw[h]
theorem w0_{x:Str}{l:List (Str×Fn)}{y:Str}{F:Fn}{r:Option Fn}(h:(x==y)=false)(t:l.lookup x=r):((y,F)::l).lookup x=r:=by unfold List.lookup;rw[h];exact t
theorem a2J{kvs:List (Str×Str)}{w x:Str}(h:(lkF kvs (.inr w)==some x)=true):lkF kvs (.inr w)=some x:=Yn.mp h
theorem tn0:Turn "stay" a3u:=⟨⟨"stayed",a2J (by decide+kernel),a2I (by decide+kernel)⟩,fun n f h1 h6=>by unfold tf;rw[b3g];exact c1v⟩
theorem tn1:Turn "left" a1a:=⟨⟨"turned_left",a2J (by decide+kernel),w0_ (by decide+kernel) (a2I (by decide+kernel))⟩,fun n f h1 h6=>by unfold tf;rw[b3h];exact a6p h1 h6⟩
theorem tn2:Turn "half" a1n:=⟨⟨"turned_half",a2J (by decide+kernel),w0_ (by decide+kernel) (w0_ (by decide+kernel) (a2I (by decide+kernel)))⟩,fun n f h1 h6=>by unfold tf;rw[b3i];exact a9u h1 h6⟩
theorem tn3:Turn "right" a3v:=⟨⟨"turned_right",a2J (by decide+kernel),w0_ (by decide+kernel) (w0_ (by decide+kernel) (w0_ (by decide+kernel) (a2I (by decide+kernel))))⟩,fun n f h1 h6=>by unfold tf;rw[b3j];exact c1w h1 h6⟩
theorem tn4:Turn "upright" a3w:=⟨⟨"told_upright",a2J (by decide+kernel),w0_ (by decide+kernel) (w0_ (by decide+kernel) (w0_ (by decide+kernel) (w0_ (by decide+kernel) (a2I (by decide+kernel)))))⟩,fun n f h1 h6=>by unfold tf;rw[b3k];exact c1x h1 h6⟩
theorem tn5:Turn "flat" a3x:=⟨⟨"told_flat",a2J (by decide+kernel),w0_ (by decide+kernel) (w0_ (by decide+kernel) (w0_ (by decide+kernel) (w0_ (by decide+kernel) (w0_ (by decide+kernel) (a2I (by decide+kernel))))))⟩,fun n f h1 h6=>by unfold tf;rw[b3l];exact c1y⟩
theorem tn6:Turn "slant" a1X:=⟨⟨"told_slant",a2J (by decide+kernel),w0_ (by decide+kernel) (w0_ (by decide+kernel) (w0_ (by decide+kernel) (w0_ (by decide+kernel) (w0_ (by decide+kernel) (w0_ (by decide+kernel) (a2I (by decide+kernel)))))))⟩,fun n f h1 h6=>by unfold tf;rw[b3m];exact b3f h1 h6⟩
theorem tn7:Turn "other" a3y:=⟨⟨"told_other",a2J (by decide+kernel),w0_ (by decide+kernel) (w0_ (by decide+kernel) (w0_ (by decide+kernel) (w0_ (by decide+kernel) (w0_ (by decide+kernel) (w0_ (by decide+kernel) (w0_ (by decide+kernel) (a2I (by decide+kernel))))))))⟩,fun n f h1 h6=>by unfold tf;rw[b3n];exact c1z h1 h6⟩
theorem c1A{w:Str}(h:w∈W8):∃F,Turn w F:=by
 simp only[W8,Qh,Qa,Yg]at h;obtain rfl|rfl|rfl|rfl|rfl|rfl|rfl|rfl:=h
 ·exact⟨_,tn0⟩
 ·exact⟨_,tn1⟩
 ·exact⟨_,tn2⟩
 ·exact⟨_,tn3⟩
 ·exact⟨_,tn4⟩
 ·exact⟨_,tn5⟩
 ·exact⟨_,tn6⟩
 ·exact⟨_,tn7⟩
theorem c1B{w:Str}{F:Fn}(T:Turn w F){n:Nat}{f:OO}(h1:1≤n)(h6:n≤6):a4i [.dat (dT (gm n n f)),.dat (.str w)]=some (.d (dT (gm n n (tf w n f))),[.dat (dT (gm n n f)),.dat (.str w)]):=by
 obtain⟨x,hx,hF⟩:=T.nm;have e:=T.f n f h1 h6;generalize dT (gm n n f)=A at *;generalize dT (gm n n (tf w n f))=Z at *;refine a1H (env:=[.dat A,.dat (.str w),.dat (.obj (.fn x))]) ?_ rfl;show a9b [.dat A,.dat (.str w),.nil]=_;unfold a9b;refine k9_ (a1l (d:=.obj (.fn x)) (e1:=[.dat A,.dat (.str w),.nil]) (e2:=[.dat A,.dat (.str w),.dat (.obj (.fn x))]) ?_ rfl) (j2_ ?_)
 ·show(lkF TN (.inr w)).map _=_
  rw[hx]
  rfl
 ·show(TF.lookup x).bind _=_
  rw[hF];exact c1 rfl e
def inT:D->Bool
 |.str x=>(lkF TN (.inr x)).isSome
 |_=>false
theorem b3o(d:D)(h:∀x,d≠.obj x):a3z [.dat d]=some (.d (.bl (inT d)),[.dat d]):=by
 refine a1H (env:=[.dat d]) ?_ rfl;show a8Y [.dat d]=_;unfold a8Y;cases d with
 |str x=>exact j2_ (a8g (e1:=[.dat (.str x)]) rfl rfl)
 |obj o=>exact absurd rfl (h o)
 |_=>exact j2_ (b2e rfl)
theorem c1C{d:D}(h:∀x,d≠.obj x)(hi:inT d=true):a3A [.dat d]=some (.d .non,[.dat d]):=by
 have e:=b3o d h
 rw[hi]at e;refine(b1o (env:=[.dat d]) ?_).trans rfl;show a8Z [.dat d]=_;unfold a8Z;exact a1V (a1C (b:=true) (a0p (c1 rfl e))) rfl
theorem c1D{d:D}(h:∀x,d≠.obj x)(hi:inT d=false):a4W [.dat d]=some ("NoTurn":Str):=by
 have e:=b3o d h
 rw[hi]at e;show a9a [.dat d]=_;unfold a9a;exact(b2Y (e1:=[.dat d]) (a1C (b:=false) (a0p (c1 rfl e)))).trans rfl
theorem c1E{n:Nat}{f:OO}(h1:1≤n)(h6:n≤6)(T:TabF n f):a4h [.dat (dT (gm n n f))]=none:=by
 have:=a9k (dT (gm n n f));rw[a4o.mpr ⟨⟨h1,h6⟩,T⟩]at this;show a4V [.dat (dT (gm n n f))]=_;unfold a4V;unfold xIf;rw[a1C (b:=true) (a0p (c1 rfl this))]
 rfl
section
variable{n:Nat}{f:OO}
theorem b3p{w:Str}(hw:w∈W8)(h1:1≤n)(h6:n≤6)(T:TabF n f):a0d [.dat (dT (gm n n f)),.dat (.str w)]=some (.d (dT (gm n n (tf w n f))),[.dat (dT (gm n n f)),.dat (.str w)]):=by
 obtain⟨F,hF⟩:=c1A hw;have em:=b2S h1 h6 T;have eb:=c1B hF (f:=f) h1 h6;have et:=c1C (d:=.str w) (fun x z=>by cases z) (by obtain⟨x,hx,_⟩:=hF.nm;show(lkF TN (.inr w)).isSome=true;rw[hx];rfl)
 generalize dT (gm n n f)=A at *;generalize dT (gm n n (tf w n f))=Z at *;refine a1H (env:=[.dat A,.dat (.str w)]) ?_ rfl;show a9c [.dat A,.dat (.str w)]=_;unfold a9c;exact k9_ (a7B (c1 rfl em)) (k9_ (a7B (c1 rfl et)) (j2_ (a2B (av:=[.d A,.d (.str w)]) rfl rfl rfl eb)))
theorem b3q{d x:D}(h:isT d=false):a0O [.dat d,.dat x]=some ("NoTable":Str):=by
 show a4X [.dat d,.dat x]=_;unfold a4X;exact b2Z (a4e (av:=[.d d]) rfl rfl rfl (c1q h))
theorem c1F{x:D}(h1:1≤n)(h6:n≤6)(T:TabF n f)(hx:∀o,x≠.obj o)(hi:inT x=false):a0O [.dat (dT (gm n n f)),.dat x]=some ("NoTurn":Str):=by
 have em:=b2S h1 h6 T
 have gm':=c1E h1 h6 T
 have gt:=c1D hx hi
 generalize dT (gm n n f)=A at *;show a4X [.dat A,.dat x]=_;unfold a4X;exact c1t (e1:=[.dat A,.dat x]) (a4e (av:=[.d A]) rfl rfl rfl gm') (a7B (c1 rfl em)) (b2Z (a4e (av:=[.d x]) rfl rfl rfl gt))
end
theorem c1G:a1b (some "NoTurn")=some (.int 7):=b2W (by decide+kernel)
theorem a2K{a w:Str}{l:List Int}{t:List (Str×List Int)}(h:a=w):lkT ((a,l)::t) (.inr w)=some l:=Qc (Jf Sum.inr h)
theorem g9_{a w:Str}{l:List Int}{t:List (Str×List Int)}{r:Option (List Int)}(h:¬ a=w)(ht:lkT t (.inr w)=r):lkT ((a,l)::t) (.inr w)=r:=(Ql fun z=>h (Sum.inr.inj z)).trans ht
section
variable{md ma mb:Mo D}{e:Env'}{kvs:List (Str×List Int)}{w:Str}{l:List Int}{r:D}
theorem a2L(h1:md e=some (.obj (.dt kvs),e))(h2:ma e=some (.str w,e))(h3:mb e=some (r,e))(h:lkT kvs (.inr w)=some l):a0N md ma mb e=some (.tup (l.map .int),e):=by
 unfold a0N;rw[h1,Qx,h2,Qx,h3,Qx];show some (match lkT kvs (.inr w)with|none=>(r,e)|some l=>(.tup (l.map .int),e))=_
 rw[h]
theorem a2M(h1:md e=some (.obj (.dt kvs),e))(h2:ma e=some (.str w,e))(h3:mb e=some (r,e))(h:lkT kvs (.inr w)=none):a0N md ma mb e=some (r,e):=by
 unfold a0N;rw[h1,Qx,h2,Qx,h3,Qx];show some (match lkT kvs (.inr w)with|none=>(r,e)|some l=>(.tup (l.map .int),e))=_
 rw[h]
end
abbrev d1(n r c:Int):List (Str×List Int):=[("stay",[r,c]),("left",[c,n-1-r]),("half",[n-1-r,n-1-c]),("right",[n-1-c,r])]
abbrev d2(n r c:Int):List (Str×List Int):=[("upright",[r,n-1-c]),("flat",[n-1-r,c]),("slant",[c,r]),("other",[n-1-c,n-1-r])]
theorem a6q{n r:Nat}(h:r<n):(n:Int)-1-(r:Int)=((n-1-r:Nat):Int):=by omega
theorem c1H{md me ma mb:Mo D}{e:Env'}{n r c:Nat}{w:Str}(hw:w∈W8)(hr:r<n)(hc:c<n)(h1:md e=some (.obj (.dt (d1 n r c)),e))(h1':me e=some (.obj (.dt (d2 n r c)),e))(h2:ma e=some (.str w,e))(h3:mb e=some (.tup [.int r,.int c],e)):
  a0N md ma (a0N me ma mb) e=some (.tup [.int ((pos w n r c).1:Nat),.int ((pos w n r c).2:Nat)],e):=by
 rw[show d1 n r c=([("stay",[(r:Int),(c:Int)]),("left",[(c:Int),((n-1-r:Nat):Int)]),("half",[((n-1-r:Nat):Int),((n-1-c:Nat):Int)]),("right",[((n-1-c:Nat):Int),(r:Int)])]:List (Str×List Int)) by unfold d1;rw[a6q hr,a6q hc]]at h1
 rw[show d2 n r c=([("upright",[(r:Int),((n-1-c:Nat):Int)]),("flat",[((n-1-r:Nat):Int),(c:Int)]),("slant",[(c:Int),(r:Int)]),("other",[((n-1-c:Nat):Int),((n-1-r:Nat):Int)])]:List (Str×List Int)) by unfold d2;rw[a6q hr,a6q hc]]at h1'
 have nn {w:Str}{l1 l2 l3 l4:List Int}(a1:¬ "stay"=w) (a2:¬ "left"=w) (a3:¬ "half"=w) (a4:¬ "right"=w):lkT [("stay",l1),("left",l2),("half",l3),("right",l4)] (.inr w)=none:=g9_ a1 (g9_ a2 (g9_ a3 (g9_ a4 rfl)))
 have mm {w:Str}{l1 l2 l3 l4:List Int}(a1:¬ "upright"=w) (a2:¬ "flat"=w) (a3:¬ "slant"=w) (a4:¬ "other"=w):lkT [("upright",l1),("flat",l2),("slant",l3),("other",l4)] (.inr w)=none:=g9_ a1 (g9_ a2 (g9_ a3 (g9_ a4 rfl)))
 simp only[W8,Qh,Qa,Yg]at hw;obtain rfl|rfl|rfl|rfl|rfl|rfl|rfl|rfl:=hw
 ·rw[b3g];exact a2L h1 h2 (a2M h1' h2 h3 (mm (by decide+kernel) (by decide+kernel) (by decide+kernel) (by decide+kernel))) (a2K rfl)
 ·rw[b3h];exact a2L h1 h2 (a2M h1' h2 h3 (mm (by decide+kernel) (by decide+kernel) (by decide+kernel) (by decide+kernel))) (g9_ (by decide+kernel) (a2K rfl))
 ·rw[b3i];exact a2L h1 h2 (a2M h1' h2 h3 (mm (by decide+kernel) (by decide+kernel) (by decide+kernel) (by decide+kernel))) (g9_ (by decide+kernel) (g9_ (by decide+kernel) (a2K rfl)))
 ·rw[b3j];exact a2L h1 h2 (a2M h1' h2 h3 (mm (by decide+kernel) (by decide+kernel) (by decide+kernel) (by decide+kernel))) (g9_ (by decide+kernel) (g9_ (by decide+kernel) (g9_ (by decide+kernel) (a2K rfl))))
 ·rw[b3k];exact a2M h1 h2 (a2L h1' h2 h3 (a2K rfl)) (nn (by decide+kernel) (by decide+kernel) (by decide+kernel) (by decide+kernel))
 ·rw[b3l];exact a2M h1 h2 (a2L h1' h2 h3 (g9_ (by decide+kernel) (a2K rfl))) (nn (by decide+kernel) (by decide+kernel) (by decide+kernel) (by decide+kernel))
 ·rw[b3m];exact a2M h1 h2 (a2L h1' h2 h3 (g9_ (by decide+kernel) (g9_ (by decide+kernel) (a2K rfl)))) (nn (by decide+kernel) (by decide+kernel) (by decide+kernel) (by decide+kernel))
 ·rw[b3n];exact a2M h1 h2 (a2L h1' h2 h3 (g9_ (by decide+kernel) (g9_ (by decide+kernel) (g9_ (by decide+kernel) (a2K rfl))))) (nn (by decide+kernel) (by decide+kernel) (by decide+kernel) (by decide+kernel))
theorem c1I{w:Str}{n r c:Nat}(hr:r<n)(hc:c<n):(pos w n r c).1<n/\(pos w n r c).2<n:=by
 unfold pos
 repeat' split
 all_goals (constructor<;>dsimp only<;>omega)
abbrev a9v:Mo Fl:=(q2_ (q8_ 7 (a3q ["stay","left","half","right"] (z1_ (q9_ (z1_ (z0_ 4) (z1_ (z0_ 6) z5_))) (z1_ (q9_ (z1_ (z0_ 6) (z1_ (z4_ y0_ (z4_ y0_ (z0_ 2) (mC (.int 1))) (z0_ 4)) z5_))) (z1_ (q9_ (z1_ (z4_ y0_ (z4_ y0_ (z0_ 2) (mC (.int 1))) (z0_ 4)) (z1_ (z4_ y0_ (z4_ y0_ (z0_ 2) (mC (.int 1))) (z0_ 6)) z5_))) (z1_ (q9_ (z1_ (z4_ y0_ (z4_ y0_ (z0_ 2) (mC (.int 1))) (z0_ 6)) (z1_ (z0_ 4) z5_))) z5_)))))) (q2_ (q8_ 8 (a3q ["upright","flat","slant","other"] (z1_ (q9_ (z1_ (z0_ 4) (z1_ (z4_ y0_ (z4_ y0_ (z0_ 2) (mC (.int 1))) (z0_ 6)) z5_))) (z1_ (q9_ (z1_ (z4_ y0_ (z4_ y0_ (z0_ 2) (mC (.int 1))) (z0_ 4)) (z1_ (z0_ 6) z5_))) (z1_ (q9_ (z1_ (z0_ 6) (z1_ (z0_ 4) z5_))) (z1_ (q9_ (z1_ (z4_ y0_ (z4_ y0_ (z0_ 2) (mC (.int 1))) (z0_ 6)) (z1_ (z4_ y0_ (z4_ y0_ (z0_ 2) (mC (.int 1))) (z0_ 4)) z5_))) z5_)))))) (q2_ (a0g (a0N (z0_ 7) (z0_ 1) (a0N (z0_ 8) (z0_ 1) (q9_ (z1_ (z0_ 4) (z1_ (z0_ 6) z5_))))) (gT 2 (gCn (gN 9) (gCn (gN 10) gNl)))) (a1y 5 (z4_ dIx (z4_ dIx (z0_ 0) (z0_ 9)) (z0_ 10))))))
abbrev a9w:Mo Fl:=(q2_ (u5_ 5 (x4_ z5_)) (q2_ (w8_ (j4_ (z1_ (z0_ 2) z5_)) (gN 6) (q2_ (q8_ 7 (a3q ["stay","left","half","right"] (z1_ (q9_ (z1_ (z0_ 4) (z1_ (z0_ 6) z5_))) (z1_ (q9_ (z1_ (z0_ 6) (z1_ (z4_ y0_ (z4_ y0_ (z0_ 2) (mC (.int 1))) (z0_ 4)) z5_))) (z1_ (q9_ (z1_ (z4_ y0_ (z4_ y0_ (z0_ 2) (mC (.int 1))) (z0_ 4)) (z1_ (z4_ y0_ (z4_ y0_ (z0_ 2) (mC (.int 1))) (z0_ 6)) z5_))) (z1_ (q9_ (z1_ (z4_ y0_ (z4_ y0_ (z0_ 2) (mC (.int 1))) (z0_ 6)) (z1_ (z0_ 4) z5_))) z5_)))))) (q2_ (q8_ 8 (a3q ["upright","flat","slant","other"] (z1_ (q9_ (z1_ (z0_ 4) (z1_ (z4_ y0_ (z4_ y0_ (z0_ 2) (mC (.int 1))) (z0_ 6)) z5_))) (z1_ (q9_ (z1_ (z4_ y0_ (z4_ y0_ (z0_ 2) (mC (.int 1))) (z0_ 4)) (z1_ (z0_ 6) z5_))) (z1_ (q9_ (z1_ (z0_ 6) (z1_ (z0_ 4) z5_))) (z1_ (q9_ (z1_ (z4_ y0_ (z4_ y0_ (z0_ 2) (mC (.int 1))) (z0_ 6)) (z1_ (z4_ y0_ (z4_ y0_ (z0_ 2) (mC (.int 1))) (z0_ 4)) z5_))) z5_)))))) (q2_ (a0g (a0N (z0_ 7) (z0_ 1) (a0N (z0_ 8) (z0_ 1) (q9_ (z1_ (z0_ 4) (z1_ (z0_ 6) z5_))))) (gT 2 (gCn (gN 9) (gCn (gN 10) gNl)))) (a1y 5 (z4_ dIx (z4_ dIx (z0_ 0) (z0_ 9)) (z0_ 10))))))) (a1y 3 (mCB a0k (z1_ (z0_ 5) z5_)))))
section
variable{n:Nat}{f:OO}{w:Str}
abbrev fl(A:D)(w:Str)(n:Nat)(w3 w4 w5 w6 w7 w8 w9 w10:W):Env':=[.dat A,.dat (.str w),.dat (.int (n:Int)),w3,w4,w5,w6,w7,w8,w9,w10]
theorem c1J(hw:w∈W8)(h6:n≤6){r c:Nat}(hr:r<n)(hc:c<n)(ls:List D)(hl:ls.length<100000)(w3 w7 w8 w9 w10:W):∃x7 x8 x9 x10,a9v (fl (dT (gm n n f)) w n w3 (.dat (.int r)) (.own ls) (.dat (.int c)) w7 w8 w9 w10)=some (.nx,fl (dT (gm n n f)) w n w3 (.dat (.int r)) (.own (ls++[.int (tf w n f r c)])) (.dat (.int c)) x7 x8 x9 x10):=by
 obtain⟨p1,p2⟩:=c1I (w:=w) hr hc;have i1:=c1j (n:=n) (m:=n) (f:=f) p1;have i2:=c1i (n:=n) (g:=f (pos w n r c).1) p2;have hp:=c1H (md:=z0_ 7) (me:=z0_ 8) (ma:=z0_ 1) (mb:=q9_ (z1_ (z0_ 4) (z1_ (z0_ 6) z5_))) (e:=fl (dT (gm n n f)) w n w3 (.dat (.int r)) (.own ls) (.dat (.int c)) (.dat (.obj (.dt (d1 n r c)))) (.dat (.obj (.dt (d2 n r c)))) w9 w10) hw hr hc rfl rfl rfl rfl;have ht:tf w n f r c=f (pos w n r c).1 (pos w n r c).2:=rfl;rw[ht];generalize dT (gm n n f)=A at *;generalize dR (rw' n (f (pos w n r c).1))=R at *;generalize f (pos w n r c).1 (pos w n r c).2=v at *;generalize (pos w n r c).1=a at *;generalize (pos w n r c).2=b at *;refine⟨.dat (.obj (.dt (d1 n r c))),.dat (.obj (.dt (d2 n r c))),.dat (.int a),.dat (.int b),?_⟩;unfold a9v;refine k9_ (e1:=fl A w n w3 (.dat (.int r)) (.own ls) (.dat (.int c)) (.dat (.obj (.dt (d1 n r c)))) w8 w9 w10) (a1l (e1:=fl A w n w3 (.dat (.int r)) (.own ls) (.dat (.int c)) w7 w8 w9 w10) (d:=.obj (.dt (d1 n r c))) rfl rfl) ?_
 refine k9_ (e1:=fl A w n w3 (.dat (.int r)) (.own ls) (.dat (.int c)) (.dat (.obj (.dt (d1 n r c)))) (.dat (.obj (.dt (d2 n r c)))) w9 w10) (a1l (e1:=fl A w n w3 (.dat (.int r)) (.own ls) (.dat (.int c)) (.dat (.obj (.dt (d1 n r c)))) w8 w9 w10) (d:=.obj (.dt (d2 n r c))) rfl rfl) ?_
 refine k9_ (e1:=fl A w n w3 (.dat (.int r)) (.own ls) (.dat (.int c)) (.dat (.obj (.dt (d1 n r c)))) (.dat (.obj (.dt (d2 n r c)))) (.dat (.int a)) (.dat (.int b))) (b9h hp rfl) ?_
 exact(b2d (w':=.own ls) (w:=.own ls) (ds:=ls) (ds':=ls) rfl rfl (v6_ (v6_ rfl rfl i1) rfl i2) rfl rfl hl).trans rfl
theorem c1K(hw:w∈W8)(h6:n≤6){r:Nat}(hr:r<n)(fs:List D)(hl:fs.length<100000)(w5 w6 w7 w8 w9 w10:W):∃x5 x6 x7 x8 x9 x10,a9w (fl (dT (gm n n f)) w n (.own fs) (.dat (.int r)) w5 w6 w7 w8 w9 w10)=some (.nx,fl (dT (gm n n f)) w n (.own (fs++[dR (rw' n (tf w n f r))])) (.dat (.int r)) x5 x6 x7 x8 x9 x10):=by
 obtain⟨e,he,⟨x6,x7,x8,x9,x10,rfl⟩⟩:=a8d (g:=gN 6) (b:=a9v) (n:=n) (fun c e=>∃x6 x7 x8 x9 x10,e=fl (dT (gm n n f)) w n (.own fs) (.dat (.int r)) (.own ((List.range c).map fun j=>.int (tf w n f r j))) x6 x7 x8 x9 x10) (env:=fl (dT (gm n n f)) w n (.own fs) (.dat (.int r)) (.own []) w6 w7 w8 w9 w10) (fun c hc e ⟨x6,x7,x8,x9,x10,he⟩=>by
  subst he;obtain⟨y7,y8,y9,y10,h⟩:=c1J (f:=f) hw h6 hr hc ((List.range c).map fun j=>.int (tf w n f r j)) (by simp;omega) (.own fs) x7 x8 x9 x10
  exact⟨_,_,rfl,h,.dat (.int c),y7,y8,y9,y10,by rw[List.range_succ,Uc];rfl⟩) ⟨_,_,_,_,_,rfl⟩
 refine⟨.dat (.lst ((List.range n).map fun j=>.int (tf w n f r j))),x6,x7,x8,x9,x10,?_⟩
 have hR:D.tup ((List.range n).map fun j=>.int (tf w n f r j))=dR (rw' n (tf w n f r)):=by unfold dR rw';rw[Zn];rfl
 rw[←hR];generalize dT (gm n n f)=A at *;generalize ((List.range n).map fun j=>D.int (tf w n f r j))=L at *
 unfold a9w;refine k9_ (e1:=fl A w n (.own fs) (.dat (.int r)) (.own []) w6 w7 w8 w9 w10) (a8h (e1:=fl A w n (.own fs) (.dat (.int r)) w5 w6 w7 w8 w9 w10) (a2H rfl (by simp)) rfl) ?_
 refine k9_ ((a1D (a4R (n:=n) rfl rfl (by omega))).trans he) ?_
 exact(b2d (w':=.own fs) (w:=.own fs) (ds:=fs) (ds':=fs) (env':=fl A w n (.own fs) (.dat (.int r)) (.dat (.lst L)) x6 x7 x8 x9 x10) (d:=.tup L) rfl rfl rfl rfl rfl hl).trans rfl
theorem c1L(hw:w∈W8)(h6:n≤6):∃ws,a3D [.dat (dT (gm n n f)),.dat (.str w)]=some (.d (dT (gm n n (tf w n f))),ws):=by
 obtain⟨e,he,⟨x4,x5,x6,x7,x8,x9,x10,rfl⟩⟩:=a8d (g:=gN 4) (b:=a9w) (n:=n) (fun r e=>∃x4 x5 x6 x7 x8 x9 x10,e=fl (dT (gm n n f)) w n (.own ((List.range r).map fun i=>dR (rw' n (tf w n f i)))) x4 x5 x6 x7 x8 x9 x10) (env:=fl (dT (gm n n f)) w n (.own []) .nil .nil .nil .nil .nil .nil .nil) (fun r hr e ⟨x4,x5,x6,x7,x8,x9,x10,he⟩=>by
  subst he;obtain⟨y5,y6,y7,y8,y9,y10,h⟩:=c1K (f:=f) hw h6 hr ((List.range r).map fun i=>dR (rw' n (tf w n f i))) (by simp;omega) x5 x6 x7 x8 x9 x10
  exact⟨_,_,rfl,h,.dat (.int r),y5,y6,y7,y8,y9,y10,by rw[List.range_succ,Uc];rfl⟩) ⟨_,_,_,_,_,_,_,rfl⟩
 have hR:D.tup ((List.range n).map fun i=>dR (rw' n (tf w n f i)))=dT (gm n n (tf w n f)):=by unfold dT gm;rw[Zn];rfl
 have hlen:v8_ [dT (gm n n f)]=some (.int n):=c1n
 rw[←hR];generalize dT (gm n n f)=A at *;generalize ((List.range n).map fun i=>dR (rw' n (tf w n f i)))=L at *
 refine⟨_,w3_ (env:=fl A w n (.dat (.lst L)) x4 x5 x6 x7 x8 x9 x10) ?_⟩;show a9j [.dat A,.dat (.str w),.nil,.nil,.nil,.nil,.nil,.nil,.nil,.nil,.nil]=_;unfold a9j;refine k9_ (e1:=fl A w n .nil .nil .nil .nil .nil .nil .nil .nil) (a1l (e1:=[.dat A,.dat (.str w),.nil,.nil,.nil,.nil,.nil,.nil,.nil,.nil,.nil]) (a0J (y2_ rfl rfl) hlen) rfl) ?_
 refine k9_ (e1:=fl A w n (.own []) .nil .nil .nil .nil .nil .nil .nil) (a8h (e1:=fl A w n .nil .nil .nil .nil .nil .nil .nil .nil) (a2H rfl (by simp)) rfl) ?_
 refine k9_ ((a1D (a4R (n:=n) rfl rfl (by omega))).trans he) ?_
 exact j2_ (a0J (ds:=[.lst L]) (y2_ rfl rfl) rfl)
end
theorem b3r{k:Nat}{es:List D}(hl:es.length≤1000)(h:∀x∈es,∃ws,a0r k [.dat x,.dat x]=some (.d (.bl true),ws)):∃ws,a0r (k+1) [.dat (.tup es),.dat (.tup es)]=some (.d (.bl true),ws):=by
 refine⟨_,(w3_ (d:=.bl true) (env:=[.dat (.tup es),.dat (.tup es)]) ?_)⟩;show a5c (a0r k) [.dat (.tup es),.dat (.tup es)]=_;unfold a5c;refine a0I (a8e (e1:=[.dat (.tup es),.dat (.tup es)]) rfl (k9_ (e1:=[.dat (.tup es),.dat (.tup es)]) (a1V (e1:=[.dat (.tup es),.dat (.tup es)]) rfl rfl) (j2_ ?_)));have e1:(z4_ (dEq false) (mCB v8_ (z1_ (z0_ 0) z5_)) (mCB v8_ (z1_ (z0_ 1) z5_))) [.dat (.tup es),.dat (.tup es)]=some (.bl ((es.length:Int)==(es.length:Int)),[.dat (.tup es),.dat (.tup es)]):=rfl;have c:=b9c (mi:=a1B (z1_ (z0_ 0) (z1_ (z0_ 1) z5_))) (keep:=[false,false]) (m:=mCD 2 (a0r k) (z7_ (z0_ 2) (z7_ (z0_ 3) q0_))) (env:=[.dat (.tup es),.dat (.tup es)]) (base:=[.nil,.nil]) (l:=es) (q:=fun p=>p) (q2:=fun p=>p) (f:=fun p=>.bl true) (k:=2) (b9g (a:=.tup es) (b:=.tup es) rfl (by show some es=some (es.map fun p=>p);simp) (by show some es=some (es.map fun p=>p);simp)) (by omega) rfl rfl (fun p hp=>by
   obtain⟨ws,q⟩:=h p hp;exact a2B (av:=[.d p,.d p]) rfl rfl rfl q) (fun w w2=>rfl)
 refine(a8g (e1.trans ?_) (a0J (d:=.bl true) (y2_ (a0i c) rfl) ?_))
 ·rw[Uy]
 ·show(a0H _).map _=_
  rw[a4b]
  simp
theorem c1M{n:Nat}{f:OO}(h6:n≤6):∃ws,a0r 6 [.dat (dT (gm n n f)),.dat (dT (gm n n f))]=some (.d (.bl true),ws):=
 b3r (k:=5) (by rw[Qk,a1Z];omega) fun x hx=>by
  obtain⟨r,hr,rfl⟩:=Zk.mp hx;exact b3r (k:=4) (by rw[Qk,a9t r hr];omega) fun y hy=>by
   obtain⟨i,_,rfl⟩:=Zk.mp hy;exact⟨_,c1o 3 i⟩
structure TX(n:Nat)(x:Str):Prop where
 len:x.length≤n
 asc:∀c∈x.cps.toList,c<128
theorem c1N(x:Str):x.cps.toList.length=x.length:=by show _=x.cps.size;simp
theorem TX.mono{n m:Nat}{x:Str}(T:TX n x)(h:n≤m):TX m x:=⟨Qo T.len h,T.asc⟩
theorem TX.cat{n m:Nat}{x y:Str}(T:TX n x)(U:TX m y):TX (n+m) (x++y):=by
 refine⟨by rw[a7X];have:=T.len;have:=U.len;omega,fun c hc=>?_⟩
 have:c∈(x.cps++y.cps).toList:=hc;rw[Vh]at this
 rcases Vk.mp this with h|h
 ·exact T.asc c h
 ·exact U.asc c h
theorem c1O{x:Str}{lo hi:Option Int}{st:Int}{c:Nat}(h:c∈(a6d x lo hi st).cps.toList):c∈x.cps.toList:=by
 unfold a6d at h;obtain⟨i,_,e⟩:=Ye.mp h;exact Array.mem_toList_iff.mpr (Array.mem_of_getElem? e)
theorem c1P{x:Str}{lo hi:Option Int}{c:Nat}(h:c∈(a1G x lo hi).cps.toList):c∈x.cps.toList:=by
 unfold a1G at h;split at h
 ·exact h
 ·exact c1O h
theorem TX.cut{n:Nat}{x:Str}(T:TX n x)(lo hi:Option Int):TX n (a1G x lo hi):=⟨Qo (a8a x lo hi) T.len,fun c hc=>T.asc c (c1P hc)⟩
theorem a9x{x y:Str}(h:x.length+y.length≤10000):a1F (.str x) (.str y)=some (.str (x++y)):=by
 show(if x.length+y.length≤10000 then some (D.str (x++y))else none)=_
 rw[Qc h]
theorem ixS{z:Str}{v:Int}(h0:0≤v)(h1:v<z.length):∃c,c∈z.cps.toList/\a6b (.str z) (.int v)=some (.str ⟨#[c]⟩):=by
 have l:=c1N z
 have hv:v.toNat<z.cps.toList.length:=by omega
 refine⟨z.cps.toList[v.toNat],Yt hv,?_⟩;have h:=a1f (Zw hv);rw[show((v.toNat:Nat):Int)=v by omega]at h
 show(atI z.cps.toList v).map _=_;rw[h]
 rfl
def txB(n:Nat)(x:Str):Bool:=decide (x.length≤n)&&x.cps.toList.all fun c=>decide (c<128)
theorem a3F{n:Nat}{x:Str}(h:txB n x=true):TX n x:=by
 obtain⟨h1,h2⟩:=Bool.and_eq_true_iff.mp h;exact⟨Ut h1,fun c hc=>Ut (Qw.mp h2 c hc)⟩
theorem c1Q:W8.all (txB 7)=true:=by decide+kernel
theorem c1R:(W8.all fun w=>decide (1≤w.length))=true:=by decide+kernel
abbrev AB:Str:="abcdefghijklmnopqrstuvwxyzABC -"
theorem c1S:txB 31 AB=true:=by decide+kernel
theorem c1T:AB.length=31:=by decide+kernel
theorem c1U{n:Nat}{x:Str}(T:TX n x):shp (.str x)=true:=by
 have hx:PyData.strOk x=true:=by
  unfold PyData.strOk;rw[←Array.all_toList,Qw];exact fun c hc=>Uk (by have:=T.asc c hc;omega)
 show SeqAt.shaped (PyData.str x)=true;unfold SeqAt.shaped;simp only[PyData.canLay0,PyData.depth,hx,Ze]
 rfl
theorem c1V:PyData.canLayAll0 (x6_ (W8.map D.str))=true:=by decide+kernel
theorem b3s:∀{kvs:List (Str×Str)}{x:Str},(lkF kvs (.inr x)).isSome=true->((kvs.map (·.1)).any fun y=>y==x)=true
 |[],x,h=>by cases h
 |p::l,x,h=>by
  unfold lkF at h;rw[Qs,Je];split at h
  ·rename_i z
   rw[beq_iff_eq.mpr (Sum.inr.inj z),Bool.true_or]
  ·rw[b3s h,Bool.or_true]
theorem b3t:∀l:List Str,x6_ (l.map D.str)=l.map PyData.str
 |[]=>rfl
 |x::l=>by
  have:x6_ (D.str x::l.map D.str)=PyData.str x::x6_ (l.map D.str):=rfl;rw[Qs,this,b3t l,Qs]
theorem b3u(x:Str):∀l:List Str,((l.map PyData.str).any fun y=>PyData.eqv y (toP (.str x)))=l.any fun y=>y==x
 |[]=>rfl
 |y::l=>by rw[Qs,Je,b3u x l,Je];rfl
theorem c1W{n:Nat}{x:Str}(T:TX n x):a2x true (.str x) (.lst (W8.map D.str))=some (.bl (!(W8.any fun y=>y==x))):=by
 have e:a2x true (.str x) (.lst (W8.map D.str))=if shp (.str x)&&decide ((toP (.str x)).depth≤60)&&PyData.canLayAll0 (x6_ (W8.map D.str))then some (.bl (!((x6_ (W8.map D.str)).any fun y=>PyData.eqv y (toP (.str x)))))else none:=rfl
 rw[e,c1U T,c1V,b3t,b3u]
 rfl
theorem c1X{x:Str}(h:(W8.any fun y=>y==x)=false):inT (.str x)=false:=by
 cases hi:inT (.str x)with
 |false=>rfl
 |true=>
  have:=b3s (kvs:=TN) (x:=x) hi;rw[show TN.map (·.1)=W8 from rfl,h]at this
  cases this
structure Bad(d:D):Prop where
 no:∀o,d≠.obj o
 q:∃b:Bool,a2x true d (.lst (W8.map D.str))=some (.bl b)/\(b=true->inT d=false)
theorem a3G{n:Nat}{x:Str}(T:TX n x):Bad (.str x):=⟨(fun o z=>by cases z),_,c1W T,fun h=>c1X (by simpa using h)⟩
def a9y(o:Option D)(b:Bool):Bool:=match o with
 |some (.bl c)=>c==b
 |_=>false
theorem a4p{o:Option D}{b:Bool}(h:a9y o b=true):o=some (.bl b):=by
 unfold a9y at h;split at h
 ·rw[Yn.mp h]
 ·cases h
theorem bd1:Bad .non:=⟨(fun o z=>by cases z),true,a4p (by decide+kernel),fun _=>rfl⟩
theorem bd2:Bad (.int 0):=⟨(fun o z=>by cases z),true,a4p (by decide+kernel),fun _=>rfl⟩
theorem bd3:Bad (.tup [.str "left"]):=⟨(fun o z=>by cases z),true,a4p (by decide+kernel),fun _=>rfl⟩
theorem bd4:Bad (.lst [.str "left"]):=⟨(fun o z=>by cases z),true,a4p (by decide+kernel),fun _=>rfl⟩
theorem bd5:Bad (.bl true):=⟨(fun o z=>by cases z),true,a4p (by decide+kernel),fun _=>rfl⟩
abbrev F(Z:D)(k:Nat)(w2 w3 w4 w5 w6 w7 w8 w9 w10 w11:W):Env':=[.dat Z,.dat (.int (k:Int)),w2,w3,w4,w5,w6,w7,w8,w9,w10,w11]
theorem a9z(e:Env'):mF (u3_ 0 a0P q0_) e=some (.lst (W8.map D.str),e):=
 a0i (a7A (a1S (av:=[]) rfl rfl rfl (show a0P []=some (.l (W8.map D.str),[])from rfl)))
abbrev b1:Mo Fl:=(y3_ (y8_ (mT (mCD 2 (a0r 6) (z7_ (mCD 2 a0d (z7_ (z0_ 3) (z7_ (z0_ 4) q0_))) (z7_ (mCD 2 a3D (z7_ (z0_ 3) (z7_ (z0_ 4) q0_))) q0_))))) (v1_ (mC (.bl false))) mNx)
abbrev b2:Mo Fl:=(y3_ (mT (z4_ (a2x true) (z0_ 11) (mF (u3_ 0 a0P q0_)))) (q2_ (y3_ (mT (z4_ (dEq true) (a1k xN [false,false,false,true,false,false,false,false,false,false,false,true] (mCD 2 a0d (z7_ (z0_ 3) (z7_ (z0_ 11) q0_))) (a0L 2 a0O (z7_ (z0_ 3) (z7_ (z0_ 11) q0_))) a1b) (mC (.int 7)))) (v1_ (mC (.bl false))) mNx) (y3_ (mT (z4_ (dEq true) (a1k xN [false,false,false,false,false,true,false,false,false,false,false,true] (mCD 2 a0d (z7_ (z0_ 5) (z7_ (z0_ 11) q0_))) (a0L 2 a0O (z7_ (z0_ 5) (z7_ (z0_ 11) q0_))) a1b) (mC (.int 0)))) (v1_ (mC (.bl false))) mNx)) mNx)
abbrev b0:Mo Fl:=(q2_ (u5_ 2 (u3_ 2 a4k (z7_ (z0_ 0) (z7_ (z0_ 1) q0_)))) (q2_ (q8_ 3 (mCD 3 a1o (x0_ 2 (z7_ (mC (.int 1)) (z7_ (mC (.int 6)) q0_))))) (q2_ (w8_ (x2_ (mF (u3_ 0 a0P q0_))) (gN 4) (y3_ (y8_ (mT (mCD 2 (a0r 6) (z7_ (mCD 2 a0d (z7_ (z0_ 3) (z7_ (z0_ 4) q0_))) (z7_ (mCD 2 a3D (z7_ (z0_ 3) (z7_ (z0_ 4) q0_))) q0_))))) (v1_ (mC (.bl false))) mNx)) (q2_ (q8_ 5 (mCD 1 a4m (x0_ 2 q0_))) (q2_ (q8_ 6 (z4_ dIx (mF (u3_ 0 a0P q0_)) (mCD 2 k2_ (x0_ 2 (z7_ (mC (.int 8)) q0_))))) (q2_ (q8_ 7 (mCD 2 k2_ (x0_ 2 (z7_ (mCB a6c (z1_ (z0_ 6) z5_)) q0_)))) (q2_ (q8_ 8 (z4_ a6b (mC (.str "abcdefghijklmnopqrstuvwxyzABC -")) (mCD 2 k2_ (x0_ 2 (z7_ (mC (.int 31)) q0_))))) (q2_ (q8_ 9 (z4_ a1F (z4_ a1F (a3p (z0_ 6) k3_ (k4_ (z0_ 7))) (z0_ 8)) (a3p (z0_ 6) (k4_ (z4_ v5_ (z0_ 7) (mC (.int 1)))) k3_))) (q2_ (q8_ 10 (mF (x4_ (z1_ (mC (.str "")) (z1_ (mC (.str "Left")) (z1_ (mC (.str "left ")) (z1_ (mC (.str " left")) (z1_ (mC (.str "turn")) (z1_ (mC .non) (z1_ (mC (.int 0)) (z1_ (q9_ (z1_ (mC (.str "left")) z5_)) (z1_ (mF (x4_ (z1_ (mC (.str "left")) z5_))) (z1_ (mC (.bl true)) (z1_ (z4_ a1F (z0_ 6) (z0_ 6)) z5_)))))))))))))) (q2_ (w8_ (x2_ (mF (x4_ (z1_ (z0_ 9) (z1_ (z4_ dIx (z0_ 10) (mCD 2 k2_ (x0_ 2 (z7_ (mC (.int 11)) q0_)))) z5_))))) (gN 11) (y3_ (mT (z4_ (a2x true) (z0_ 11) (mF (u3_ 0 a0P q0_)))) (q2_ (y3_ (mT (z4_ (dEq true) (a1k xN [false,false,false,true,false,false,false,false,false,false,false,true] (mCD 2 a0d (z7_ (z0_ 3) (z7_ (z0_ 11) q0_))) (a0L 2 a0O (z7_ (z0_ 3) (z7_ (z0_ 11) q0_))) a1b) (mC (.int 7)))) (v1_ (mC (.bl false))) mNx) (y3_ (mT (z4_ (dEq true) (a1k xN [false,false,false,false,false,true,false,false,false,false,false,true] (mCD 2 a0d (z7_ (z0_ 5) (z7_ (z0_ 11) q0_))) (a0L 2 a0O (z7_ (z0_ 5) (z7_ (z0_ 11) q0_))) a1b) (mC (.int 0)))) (v1_ (mC (.bl false))) mNx)) mNx)) (y3_ (mT (z4_ (dEq true) (a1k xN [false,false,false,false,false,true,true,false,false,false,false,false] (mCD 2 a0d (z7_ (z0_ 5) (z7_ (z0_ 6) q0_))) (a0L 2 a0O (z7_ (z0_ 5) (z7_ (z0_ 6) q0_))) a1b) (mC (.int 0)))) (v1_ (mC (.bl false))) mNx)))))))))))
section
variable{Z:D}{k:Nat}{n:Nat}{f:OO}{w2 w4 w5 w6 w7 w8 w9 w10 w11:W}
theorem c1Y(h1:1≤n)(h6:n≤6)(T:TabF n f){w:Str}(hw:w∈W8):b1 (F Z k w2 (.dat (dT (gm n n f))) (.dat (.str w)) w5 w6 w7 w8 w9 w10 w11)=some (.nx,F Z k w2 (.dat (dT (gm n n f))) (.dat (.str w)) w5 w6 w7 w8 w9 w10 w11):=by
 have e1:=b3p hw h1 h6 T
 obtain⟨_,e2⟩:=c1L (f:=f) hw h6;obtain⟨_,e3⟩:=c1M (f:=tf w n f) h6;generalize dT (gm n n f)=A at *;generalize dT (gm n n (tf w n f))=M at *;unfold b1;exact a1V (a1C (b:=true) (a0p (a2B (av:=[.d M,.d M]) (a3j (a2B (av:=[.d A,.d (.str w)]) rfl rfl rfl e1) (a3j (a2B (av:=[.d A,.d (.str w)]) rfl rfl rfl e2) rfl)) rfl rfl e3))) rfl
theorem c1Z(h1:1≤n)(h6:n≤6)(T:TabF n f){x d:D}(hx:isT x=false)(B:Bad d):b2 (F Z k w2 (.dat (dT (gm n n f))) w4 (.dat x) w6 w7 w8 w9 w10 (.dat d))=some (.nx,F Z k w2 (.dat (dT (gm n n f))) w4 (.dat x) w6 w7 w8 w9 w10 (.dat d)):=by
 obtain⟨q,hq,hi⟩:=B.q;have hin:mT (z4_ (a2x true) (z0_ 11) (mF (u3_ 0 a0P q0_))) (F Z k w2 (.dat (dT (gm n n f))) w4 (.dat x) w6 w7 w8 w9 w10 (.dat d))=some (q,F Z k w2 (.dat (dT (gm n n f))) w4 (.dat x) w6 w7 w8 w9 w10 (.dat d)):=a0p (v6_ rfl (a9z _) hq);unfold b2;cases q with
 |false=>exact a1V hin rfl
 |true=>
  have g7:=c1F h1 h6 T B.no (hi rfl)
  have g0:=b3q (x:=d) hx
  generalize dT (gm n n f)=A at *;refine a8e hin (k9_ (a1V (a0p (v6_ (a8f (lw:=[.nil,.nil,.nil,.dat A,.nil,.nil,.nil,.nil,.nil,.nil,.nil,.dat d]) rfl (a4e (av:=[.d A,.d d]) rfl rfl rfl g7) (by decide+kernel) c1G) rfl rfl)) rfl) ?_)
  exact a1V (a0p (v6_ (a8f (lw:=[.nil,.nil,.nil,.nil,.nil,.dat x,.nil,.nil,.nil,.nil,.nil,.dat d]) rfl (a4e (av:=[.d x,.d d]) rfl rfl rfl g0) (by decide+kernel) b2X) rfl rfl)) rfl
end
theorem c2a(ns:List Int)(k:Nat)(hk:k<1000)(w2 w3 w4 w5 w6 w7 w8 w9 w10 w11:W):∃ws':List W,ws'.length=11/\b0 (F (.lst (ns.map .int)) k w2 w3 w4 w5 w6 w7 w8 w9 w10 w11)=some (.nx,.dat (.lst (ns.map .int))::ws'):=by
 obtain⟨a,b,a0,est⟩:=c0S ns k hk;generalize D.lst (ns.map .int)=Z at *;obtain⟨R,a1,et,a10,hR,_,_⟩:=b2M (a:=a) (l:=1) (m:=6) (b:=b) a0 (by decide) (by decide) (by decide)
 obtain⟨eR,TR⟩:=hR.fn;obtain⟨n,hn⟩:∃n,R.length=n:=⟨_,rfl⟩;have h1:1≤n:=by have:=hR.lo;omega
 have h6:n≤6:=by have:=hR.hi;omega
 rw[hn]at eR TR;rw[eR]at et;obtain⟨e',l1,x4,rfl⟩:=a7y (g:=gN 4) (b:=b1) (P:=fun e=>∃x4,e=F Z k (.own [.int a1,.bl b]) (.dat (dT (gm n n (at2 R)))) x4 w5 w6 w7 w8 w9 w10 w11) (ds:=W8.map D.str) (env:=F Z k (.own [.int a1,.bl b]) (.dat (dT (gm n n (at2 R)))) w4 w5 w6 w7 w8 w9 w10 w11) (fun d hd e ⟨x4,he⟩=>by
  subst he;obtain⟨w,hw,rfl⟩:=Zk.mp hd;exact⟨_,_,rfl,c1Y h1 h6 TR hw,_,rfl⟩) ⟨_,rfl⟩
 obtain⟨x,a2,en,a20,hx⟩:=c1s (a:=a1) (b:=b) a10;have b2t:=fun(d:D) (B:Bad d) (w2 w4 w6 w7 w8 w9 w10:W)=>c1Z (Z:=Z) (k:=k) (w2:=w2) (w4:=w4) (w6:=w6) (w7:=w7) (w8:=w8) (w9:=w9) (w10:=w10) h1 h6 TR hx B
 generalize dT (gm n n (at2 R))=A at *;obtain⟨v1,a3,t1,p1,q1,a30⟩:=a1r (i:=2) (e:=F Z k (.own [.int a2,.bl b]) (.dat A) x4 (.dat x) w6 w7 w8 w9 w10 w11) (w:=.own [.int a2,.bl b]) (k:=8) (M:=mC (.int 8)) rfl rfl rfl a20 (by decide) (by decide)
 obtain⟨d1,hd1,ed1⟩:=a2a (ds:=W8.map D.str) (v:=v1) p1 q1;obtain⟨w,hw,rfl⟩:=Zk.mp hd1;have Tw:TX 7 w:=a3F (Qw.mp c1Q w hw);have wl:1≤w.length:=Ut (Qw.mp c1R w hw);have wh:=Tw.len;obtain⟨v2,a4,t2,p2,q2,a40⟩:=a1r (i:=2) (e:=F Z k (.own [.int a3,.bl b]) (.dat A) x4 (.dat x) (.dat (.str w)) w7 w8 w9 w10 w11) (w:=.own [.int a3,.bl b]) (k:=(w.length:Int)) (M:=mCB a6c (z1_ (z0_ 6) z5_)) rfl rfl rfl a30 (by omega) (by omega)
 obtain⟨v3,a5,t3,p3,q3,a50⟩:=a1r (i:=2) (e:=F Z k (.own [.int a4,.bl b]) (.dat A) x4 (.dat x) (.dat (.str w)) (.dat (.int v2)) w8 w9 w10 w11) (w:=.own [.int a4,.bl b]) (k:=31) (M:=mC (.int 31)) rfl rfl rfl a40 (by decide) (by decide)
 obtain⟨c,hc,ec⟩:=ixS (z:=AB) (v:=v3) p3 (by rw[c1T];exact q3)
 have Tc:TX 1 ⟨#[c]⟩:=⟨Qb _,fun d hd=>(show d=c by simpa using hd) ▸ (a3F c1S).asc c hc⟩
 have T1:=Tw.cut none (some v2)
 have T2:=Tw.cut (some (v2+1)) none
 obtain⟨x1,g1⟩:∃x1,a1G w none (some v2)=x1:=⟨_,rfl⟩;obtain⟨x2,g2⟩:∃x2,a1G w (some (v2+1)) none=x2:=⟨_,rfl⟩;rw[g1]at T1;rw[g2]at T2;have l1':=T1.len;have l2':=T2.len;have lc:=Tc.len;have lcc:=a7X x1 ⟨#[c]⟩;have Tb:=(T1.cat Tc).cat T2;have Tww:=Tw.cat Tw;have e1:a3p (z0_ 6) k3_ (k4_ (z0_ 7)) (F Z k (.own [.int a5,.bl b]) (.dat A) x4 (.dat x) (.dat (.str w)) (.dat (.int v2)) (.dat (.str ⟨#[c]⟩)) w9 w10 w11)=some (.str x1,F Z k (.own [.int a5,.bl b]) (.dat A) x4 (.dat x) (.dat (.str w)) (.dat (.int v2)) (.dat (.str ⟨#[c]⟩)) w9 w10 w11):=by rw[←g1];rfl
 have e2:a3p (z0_ 6) (k4_ (z4_ v5_ (z0_ 7) (mC (.int 1)))) k3_ (F Z k (.own [.int a5,.bl b]) (.dat A) x4 (.dat x) (.dat (.str w)) (.dat (.int v2)) (.dat (.str ⟨#[c]⟩)) w9 w10 w11)=some (.str x2,F Z k (.own [.int a5,.bl b]) (.dat A) x4 (.dat x) (.dat (.str w)) (.dat (.int v2)) (.dat (.str ⟨#[c]⟩)) w9 w10 w11):=by rw[←g2];rfl
 have c1:=v6_ e1 (show z0_ 8 (F Z k (.own [.int a5,.bl b]) (.dat A) x4 (.dat x) (.dat (.str w)) (.dat (.int v2)) (.dat (.str ⟨#[c]⟩)) w9 w10 w11)=some (.str ⟨#[c]⟩,F Z k (.own [.int a5,.bl b]) (.dat A) x4 (.dat x) (.dat (.str w)) (.dat (.int v2)) (.dat (.str ⟨#[c]⟩)) w9 w10 w11)from rfl) (a9x (x:=x1) (y:=⟨#[c]⟩) (by omega))
 have c2:=v6_ c1 e2 (a9x (by omega))
 generalize (x1++⟨#[c]⟩)++x2=y at *;have cw:z4_ a1F (z0_ 6) (z0_ 6) (F Z k (.own [.int a5,.bl b]) (.dat A) x4 (.dat x) (.dat (.str w)) (.dat (.int v2)) (.dat (.str ⟨#[c]⟩)) (.dat (.str y)) w10 w11)=some (.str (w++w),F Z k (.own [.int a5,.bl b]) (.dat A) x4 (.dat x) (.dat (.str w)) (.dat (.int v2)) (.dat (.str ⟨#[c]⟩)) (.dat (.str y)) w10 w11):=v6_ rfl rfl (a9x (by omega))
 have gt:=b3q (x:=.str w) hx
 obtain⟨ww,hww⟩:∃ww,w++w=ww:=⟨_,rfl⟩;rw[hww]at cw Tww;obtain⟨L,hL⟩:∃L:List D,L=[.str "",.str "Left",.str "left ",.str " left",.str "turn",.non,.int 0,.tup [.str "left"],.lst [.str "left"],.bl true,.str ww]:=⟨_,rfl⟩;have hLb:∀d∈L,Bad d:=fun d hd=>by
  rw[hL]at hd;simp only[Qh,Qa,Yg]at hd;obtain rfl|rfl|rfl|rfl|rfl|rfl|rfl|rfl|rfl|rfl|rfl:=hd
  ·exact a3G (n:=9) (a3F (by decide+kernel))
  ·exact a3G (n:=9) (a3F (by decide+kernel))
  ·exact a3G (n:=9) (a3F (by decide+kernel))
  ·exact a3G (n:=9) (a3F (by decide+kernel))
  ·exact a3G (n:=9) (a3F (by decide+kernel))
  ·exact bd1
  ·exact bd2
  ·exact bd3
  ·exact bd4
  ·exact bd5
  ·exact a3G Tww
 have hLl:L.length=11:=by rw[hL];rfl
 have sL:mF (x4_ (z1_ (mC (.str "")) (z1_ (mC (.str "Left")) (z1_ (mC (.str "left ")) (z1_ (mC (.str " left")) (z1_ (mC (.str "turn")) (z1_ (mC .non) (z1_ (mC (.int 0)) (z1_ (q9_ (z1_ (mC (.str "left")) z5_)) (z1_ (mF (x4_ (z1_ (mC (.str "left")) z5_))) (z1_ (mC (.bl true)) (z1_ (z4_ a1F (z0_ 6) (z0_ 6)) z5_)))))))))))) (F Z k (.own [.int a5,.bl b]) (.dat A) x4 (.dat x) (.dat (.str w)) (.dat (.int v2)) (.dat (.str ⟨#[c]⟩)) (.dat (.str y)) w10 w11)=some (.lst L,F Z k (.own [.int a5,.bl b]) (.dat A) x4 (.dat x) (.dat (.str w)) (.dat (.int v2)) (.dat (.str ⟨#[c]⟩)) (.dat (.str y)) w10 w11):=by
  rw[hL];exact a0i (a2H (y2_ rfl (y2_ rfl (y2_ rfl (y2_ rfl (y2_ rfl (y2_ rfl (y2_ rfl (y2_ rfl (y2_ rfl (y2_ rfl (y2_ cw rfl))))))))))) (by simp))
 obtain⟨v4,a6,t4,p4,q4,a60⟩:=a1r (i:=2) (e:=F Z k (.own [.int a5,.bl b]) (.dat A) x4 (.dat x) (.dat (.str w)) (.dat (.int v2)) (.dat (.str ⟨#[c]⟩)) (.dat (.str y)) (.dat (.lst L)) w11) (w:=.own [.int a5,.bl b]) (k:=11) (M:=mC (.int 11)) rfl rfl rfl a50 (by decide) (by decide)
 obtain⟨d2,hd2,ed2⟩:=a2a (ds:=L) (v:=v4) p4 (by rw[hLl];exact q4)
 obtain⟨e',l2,x11,rfl⟩:=a7y (g:=gN 11) (b:=b2) (P:=fun e=>∃x11,e=F Z k (.own [.int a6,.bl b]) (.dat A) x4 (.dat x) (.dat (.str w)) (.dat (.int v2)) (.dat (.str ⟨#[c]⟩)) (.dat (.str y)) (.dat (.lst L)) x11) (ds:=[.str y,d2]) (env:=F Z k (.own [.int a6,.bl b]) (.dat A) x4 (.dat x) (.dat (.str w)) (.dat (.int v2)) (.dat (.str ⟨#[c]⟩)) (.dat (.str y)) (.dat (.lst L)) w11) (fun d hd e ⟨x11,he⟩=>by
  subst he;refine⟨_,_,rfl,b2t d ?_ _ _ _ _ _ _ _,_,rfl⟩
  rcases Qh.mp hd with rfl|hd
  ·exact a3G Tb
  ·rw[List.mem_singleton.mp hd]
   exact hLb d2 hd2) ⟨_,rfl⟩
 refine⟨[.dat (.int k),.own [.int a6,.bl b],.dat A,x4,.dat x,.dat (.str w),.dat (.int v2),.dat (.str ⟨#[c]⟩),.dat (.str y),.dat (.lst L),x11],rfl,?_⟩;unfold b0;refine k9_ (a8h (e1:=F Z k w2 w3 w4 w5 w6 w7 w8 w9 w10 w11) (e2:=F Z k (.own [.int a,.bl b]) w3 w4 w5 w6 w7 w8 w9 w10 w11) (a7A (a1S (av:=[.d Z,.d (.int k)]) rfl rfl rfl est)) rfl) ?_
 refine k9_ (a1l (d:=A) (e1:=F Z k (.own [.int a1,.bl b]) w3 w4 w5 w6 w7 w8 w9 w10 w11) (e2:=F Z k (.own [.int a1,.bl b]) (.dat A) w4 w5 w6 w7 w8 w9 w10 w11) (a0K ((a3l (e1:=F Z k (.own [.int a,.bl b]) w3 w4 w5 w6 w7 w8 w9 w10 w11) (w:=.own [.int a,.bl b]) (av:=[.sl 2,.d (.int 1),.d (.int 6)]) (i:=2) (c:=[.int a,.bl b]) (c':=[.int a1,.bl b]) rfl rfl rfl rfl rfl et rfl).trans rfl)) rfl) ?_
 refine k9_ ((a1D (a3k (a9z _) rfl)).trans l1) ?_
 refine k9_ (a1l (d:=x) (e1:=F Z k (.own [.int a2,.bl b]) (.dat A) x4 w5 w6 w7 w8 w9 w10 w11) (e2:=F Z k (.own [.int a2,.bl b]) (.dat A) x4 (.dat x) w6 w7 w8 w9 w10 w11) (a0K ((a3l (e1:=F Z k (.own [.int a1,.bl b]) (.dat A) x4 w5 w6 w7 w8 w9 w10 w11) (w:=.own [.int a1,.bl b]) (av:=[.sl 2]) (i:=2) (c:=[.int a1,.bl b]) (c':=[.int a2,.bl b]) rfl rfl rfl rfl rfl en rfl).trans rfl)) rfl) ?_
 refine k9_ (a1l (d:=.str w) (e1:=F Z k (.own [.int a3,.bl b]) (.dat A) x4 (.dat x) w6 w7 w8 w9 w10 w11) (e2:=F Z k (.own [.int a3,.bl b]) (.dat A) x4 (.dat x) (.dat (.str w)) w7 w8 w9 w10 w11) (v6_ (a9z _) t1 ed1) rfl) ?_
 refine k9_ (a1l (d:=.int v2) (e1:=F Z k (.own [.int a4,.bl b]) (.dat A) x4 (.dat x) (.dat (.str w)) w7 w8 w9 w10 w11) (e2:=F Z k (.own [.int a4,.bl b]) (.dat A) x4 (.dat x) (.dat (.str w)) (.dat (.int v2)) w8 w9 w10 w11) t2 rfl) ?_
 refine k9_ (a1l (d:=.str ⟨#[c]⟩) (e1:=F Z k (.own [.int a5,.bl b]) (.dat A) x4 (.dat x) (.dat (.str w)) (.dat (.int v2)) w8 w9 w10 w11) (e2:=F Z k (.own [.int a5,.bl b]) (.dat A) x4 (.dat x) (.dat (.str w)) (.dat (.int v2)) (.dat (.str ⟨#[c]⟩)) w9 w10 w11) (v6_ rfl t3 ec) rfl) ?_
 refine k9_ (a1l (d:=.str y) (e1:=F Z k (.own [.int a5,.bl b]) (.dat A) x4 (.dat x) (.dat (.str w)) (.dat (.int v2)) (.dat (.str ⟨#[c]⟩)) w9 w10 w11) (e2:=F Z k (.own [.int a5,.bl b]) (.dat A) x4 (.dat x) (.dat (.str w)) (.dat (.int v2)) (.dat (.str ⟨#[c]⟩)) (.dat (.str y)) w10 w11) c2 rfl) ?_
 refine k9_ (a1l (d:=.lst L) (e1:=F Z k (.own [.int a5,.bl b]) (.dat A) x4 (.dat x) (.dat (.str w)) (.dat (.int v2)) (.dat (.str ⟨#[c]⟩)) (.dat (.str y)) w10 w11) (e2:=F Z k (.own [.int a5,.bl b]) (.dat A) x4 (.dat x) (.dat (.str w)) (.dat (.int v2)) (.dat (.str ⟨#[c]⟩)) (.dat (.str y)) (.dat (.lst L)) w11) sL rfl) ?_
 refine k9_ ((a1D (a3k (ds:=[.str y,d2]) (e1:=F Z k (.own [.int a6,.bl b]) (.dat A) x4 (.dat x) (.dat (.str w)) (.dat (.int v2)) (.dat (.str ⟨#[c]⟩)) (.dat (.str y)) (.dat (.lst L)) w11) (a0i (a2H (y2_ (e1:=F Z k (.own [.int a5,.bl b]) (.dat A) x4 (.dat x) (.dat (.str w)) (.dat (.int v2)) (.dat (.str ⟨#[c]⟩)) (.dat (.str y)) (.dat (.lst L)) w11) rfl (y2_ (e1:=F Z k (.own [.int a6,.bl b]) (.dat A) x4 (.dat x) (.dat (.str w)) (.dat (.int v2)) (.dat (.str ⟨#[c]⟩)) (.dat (.str y)) (.dat (.lst L)) w11) (v6_ rfl t4 ed2) rfl)) (by simp))) rfl)).trans l2) ?_
 exact a1V (a0p (v6_ (a8f (lw:=[.nil,.nil,.nil,.nil,.nil,.dat x,.dat (.str w),.nil,.nil,.nil,.nil,.nil]) rfl (a4e (av:=[.d x,.d (.str w)]) rfl rfl rfl gt) (by decide+kernel) b2X) rfl rfl)) rfl
abbrev R3:OI:=[[0,1,0],[1,0,0],[0,0,1]]
theorem b3v:R3=gm 3 3 (at2 R3):=by decide+kernel
theorem c2b:isT (dT R3)=true:=by decide+kernel
theorem c2c:gm 3 3 (tf "left" 3 (at2 R3))=[[0,0,1],[1,0,0],[0,1,0]]:=by decide+kernel
theorem c2d:a9y (dEq false (dT [[0,0,1],[1,0,0],[0,1,0]]) (dT [[0,0,1],[1,0,0],[0,1,0]])) true=true:=by decide+kernel
theorem c2e:a0d [.dat (dT R3),.dat (.str "left")]=some (.d (dT [[0,0,1],[1,0,0],[0,1,0]]),[.dat (dT R3),.dat (.str "left")]):=by
 have h:=c2b
 rw[b3v]at h;have e:=b3p (w:="left") (by simp[W8]) (a4o.mp h).1.1 (a4o.mp h).1.2 (a4o.mp h).2
 rw[c2c,←b3v]at e;exact e
theorem c2f:∀ns:List Int,ns.length≤63->∃ws',a6k [.dat (.lst (ns.map D.int))]=some (.d (.bl true),ws'):=by
 intro ns hns;refine b9d (C:=8) (N:=10) (by decide) (by decide) (fun k hk ws hw=>?_) fun ws hw=>?_
 ·match ws,hw with
  |[w2,w3,w4,w5,w6,w7,w8,w9,w10,w11],_=>exact c2a ns k hk w2 w3 w4 w5 w6 w7 w8 w9 w10 w11
 ·exact⟨_,j2_ (v6_ (a2B (av:=[.d (dT R3),.d (.str "left")]) rfl rfl rfl c2e) rfl (a4p c2d))⟩
end K51
namespace K51
open L2 L2.Mir PySem
theorem c2g{P:Program}(w:World)(mg:OU)(fa:Addr)(h:Heap)(X:(hK w.params).In h)(G:h.Ns mainGlobals mg)(hfa:mg "law"=some (.ref fa)):
 ∃fd:FuncData,(∀(s:Shared) (v:Value),BindsTo s fd ⟨[v],[]⟩ [("_law_script",v)])/\PySem.W.noTabs (hK w.params)=true/\(∀p∈[402],∃c,PySem.W.codeHdIn (hK w.params) c p=true)/\∀base:Heap,(hK w.params).In base->base.Ns mainGlobals mg->a1U mg base->FnOk P w (hK w.params) mg base CX0 10 fa fd ["_law_script"] (SpT (hK w.params) [402] 1 a6k):=by
 have A1:DfAt (hK w.params) "is_whole" a8i 190 (.str "turnsigns.grids" 415) 189:=by constructor<;>kernel_rfl
 have A2:DfAt (hK w.params) "is_row" a8j 195 (.str "turnsigns.grids" 415) 194:=by constructor<;>kernel_rfl
 have A3:DfAt (hK w.params) "is_grid" a8k 200 (.str "turnsigns.grids" 415) 199:=by constructor<;>kernel_rfl
 have A4:DfAt (hK w.params) "is_square" a8l 207 (.str "turnsigns.grids" 415) 206:=by constructor<;>kernel_rfl
 have A5:DfAt (hK w.params) "flipped" a8m 212 (.str "turnsigns.grids" 415) 211:=by constructor<;>kernel_rfl
 have A6:DfAt (hK w.params) "takes_turns" a8n 219 (.str "turnsigns.tables" 451) 218:=by constructor<;>kernel_rfl
 have A7:DfAt (hK w.params) "is_table" a8o 224 (.str "turnsigns.tables" 451) 223:=by constructor<;>kernel_rfl
 have A8:DfAt (hK w.params) "must_be_table" a6f 231 (.str "turnsigns.tables" 451) 230:=by constructor<;>kernel_rfl
 have A9:DfAt (hK w.params) "stayed" a8p 238 (.str "turnsigns.turned" 477) 237:=by constructor<;>kernel_rfl
 have A10:DfAt (hK w.params) "turned_left" a8q 245 (.str "turnsigns.turned" 477) 244:=by constructor<;>kernel_rfl
 have A11:DfAt (hK w.params) "turned_half" a8r 252 (.str "turnsigns.turned" 477) 251:=by constructor<;>kernel_rfl
 have A12:DfAt (hK w.params) "turned_right" a8s 259 (.str "turnsigns.turned" 477) 258:=by constructor<;>kernel_rfl
 have A13:DfAt (hK w.params) "told_upright" a8t 264 (.str "turnsigns.turned" 477) 263:=by constructor<;>kernel_rfl
 have A14:DfAt (hK w.params) "told_flat" a8u 271 (.str "turnsigns.turned" 477) 270:=by constructor<;>kernel_rfl
 have A15:DfAt (hK w.params) "told_slant" a8v 278 (.str "turnsigns.turned" 477) 277:=by constructor<;>kernel_rfl
 have A16:DfAt (hK w.params) "told_other" a8w 285 (.str "turnsigns.turned" 477) 284:=by constructor<;>kernel_rfl
 have A17:DfAt (hK w.params) "is_turn" a8x 293 (.str "turnsigns.turned" 477) 292:=by constructor<;>kernel_rfl
 have A18:DfAt (hK w.params) "must_be_turn" a6g 300 (.str "turnsigns.turned" 477) 299:=by constructor<;>kernel_rfl
 have A19:DfAt (hK w.params) "brought" a8y 307 (.str "turnsigns.turned" 477) 306:=by constructor<;>kernel_rfl
 have A20:DfAt (hK w.params) "turned" a6h 314 (.str "turnsigns.turned" 477) 313:=by constructor<;>kernel_rfl
 have A21:DfAt (hK w.params) "_law_cell_at" a8z 321 (.str "law_turnsigns_k51_tables_turned" 582) 320:=by constructor<;>kernel_rfl
 have A22:DfAt (hK w.params) "_law_state" a8A 328 (.str "law_turnsigns_k51_tables_turned" 582) 327:=by constructor<;>kernel_rfl
 have A23:DfAt (hK w.params) "_law_take" a8B 335 (.str "law_turnsigns_k51_tables_turned" 582) 334:=by constructor<;>kernel_rfl
 have A24:DfAt (hK w.params) "_law_refused" a8C 340 (.str "law_turnsigns_k51_tables_turned" 582) 339:=by constructor<;>kernel_rfl
 have A25:DfAt (hK w.params) "_law_lines" a8D 345 (.str "law_turnsigns_k51_tables_turned" 582) 344:=by constructor<;>kernel_rfl
 have A26:DfAt (hK w.params) "_law_table" a8E 350 (.str "law_turnsigns_k51_tables_turned" 582) 349:=by constructor<;>kernel_rfl
 have A27:DfAt (hK w.params) "_law_whole" a8F 357 (.str "law_turnsigns_k51_tables_turned" 582) 356:=by constructor<;>kernel_rfl
 have A28:DfAt (hK w.params) "_law_turns" a8G 362 (.str "law_turnsigns_k51_tables_turned" 582) 361:=by constructor<;>kernel_rfl
 have A29:DfAt (hK w.params) "_law_is_table" a8H 367 (.str "law_turnsigns_k51_tables_turned" 582) 366:=by constructor<;>kernel_rfl
 have A30:DfAt (hK w.params) "_law_bent" a8I 374 (.str "law_turnsigns_k51_tables_turned" 582) 373:=by constructor<;>kernel_rfl
 have A31:DfAt (hK w.params) "_law_no_table" a8J 381 (.str "law_turnsigns_k51_tables_turned" 582) 380:=by constructor<;>kernel_rfl
 have A32:DfAt (hK w.params) "_law_turned" a8K 388 (.str "law_turnsigns_k51_tables_turned" 582) 387:=by constructor<;>kernel_rfl
 have A33:DfAt (hK w.params) "_law_turn_words" a8L 395 (.str "law_turnsigns_k51_tables_turned" 582) 394:=by constructor<;>kernel_rfl
 have A34:DfAt (hK w.params) "_law_same" a8M 400 (.str "law_turnsigns_k51_tables_turned" 582) 399:=by constructor<;>kernel_rfl
 have A35:DfAt (hK w.params) "law" a4f 407 (.str "law_turnsigns_k51_tables_turned" 582) 406:=by constructor<;>kernel_rfl
 have e:=hfa.symm.trans (Zo X G A35.a)
 cases e;have T:Txt (hK w.params) mg:=⟨by kernel_rfl,Zz X G (by kernel_rfl),Zz X G (by kernel_rfl),Zz X G (by kernel_rfl),Zz X G (by kernel_rfl),Zz X G (by kernel_rfl),Zz X G (by kernel_rfl),Zz X G (by kernel_rfl),Zz X G (by kernel_rfl),Zz X G (by kernel_rfl),Zz X G (by kernel_rfl),Zz X G (by kernel_rfl),Zz X G (by kernel_rfl),Zz X G (by kernel_rfl),Zz X G (by kernel_rfl),Zz X G (by kernel_rfl),⟨_,A16.a,A16.g X G,a2y (by kernel_rfl)⟩,⟨_,A15.a,A15.g X G,a2y (by kernel_rfl)⟩,⟨_,A14.a,A14.g X G,a2y (by kernel_rfl)⟩,⟨_,A13.a,A13.g X G,a2y (by kernel_rfl)⟩,⟨_,A12.a,A12.g X G,a2y (by kernel_rfl)⟩,⟨_,A11.a,A11.g X G,a2y (by kernel_rfl)⟩,⟨_,A10.a,A10.g X G,a2y (by kernel_rfl)⟩,⟨_,A9.a,A9.g X G,a2y (by kernel_rfl)⟩,⟨453,Zo X G (by kernel_rfl)⟩⟩
 have F1:=A1.f
 have b1:=F1.binds (ps:=["thing"]) fun _ _ _ _ _ _=>us1 fun _=>rfl
 have F2:=A2.f
 have b2:=F2.binds (ps:=["thing","width"]) fun _ _ _ _ _ _=>us2 fun _ _=>rfl
 have F3:=A3.f
 have b3:=F3.binds (ps:=["thing","many","width"]) fun _ _ _ _ _ _=>us3 fun _ _ _=>rfl
 have F4:=A4.f
 have b4:=F4.binds (ps:=["thing","least","greatest"]) fun _ _ _ _ _ _=>us3 fun _ _ _=>rfl
 have F5:=A5.f
 have b5:=F5.binds (ps:=["grid"]) fun _ _ _ _ _ _=>us1 fun _=>rfl
 have F6:=A6.f
 have b6:=F6.binds (ps:=["line"]) fun _ _ _ _ _ _=>us1 fun _=>rfl
 have F7:=A7.f
 have b7:=F7.binds (ps:=["thing"]) fun _ _ _ _ _ _=>us1 fun _=>rfl
 have F8:=A8.f
 have b8:=F8.binds (ps:=["thing"]) fun _ _ _ _ _ _=>us1 fun _=>rfl
 have F9:=A9.f
 have b9:=F9.binds (ps:=["table"]) fun _ _ _ _ _ _=>us1 fun _=>rfl
 have F10:=A10.f
 have b10:=F10.binds (ps:=["table"]) fun _ _ _ _ _ _=>us1 fun _=>rfl
 have F11:=A11.f
 have b11:=F11.binds (ps:=["table"]) fun _ _ _ _ _ _=>us1 fun _=>rfl
 have F12:=A12.f
 have b12:=F12.binds (ps:=["table"]) fun _ _ _ _ _ _=>us1 fun _=>rfl
 have F13:=A13.f
 have b13:=F13.binds (ps:=["table"]) fun _ _ _ _ _ _=>us1 fun _=>rfl
 have F14:=A14.f
 have b14:=F14.binds (ps:=["table"]) fun _ _ _ _ _ _=>us1 fun _=>rfl
 have F15:=A15.f
 have b15:=F15.binds (ps:=["table"]) fun _ _ _ _ _ _=>us1 fun _=>rfl
 have F16:=A16.f
 have b16:=F16.binds (ps:=["table"]) fun _ _ _ _ _ _=>us1 fun _=>rfl
 have F17:=A17.f
 have b17:=F17.binds (ps:=["thing"]) fun _ _ _ _ _ _=>us1 fun _=>rfl
 have F18:=A18.f
 have b18:=F18.binds (ps:=["thing"]) fun _ _ _ _ _ _=>us1 fun _=>rfl
 have F19:=A19.f
 have b19:=F19.binds (ps:=["table","turn"]) fun _ _ _ _ _ _=>us2 fun _ _=>rfl
 have F20:=A20.f
 have b20:=F20.binds (ps:=["table","turn"]) fun _ _ _ _ _ _=>us2 fun _ _=>rfl
 have F21:=A21.f
 have b21:=F21.binds (ps:=["_law_script","_law_k"]) fun _ _ _ _ _ _=>us2 fun _ _=>rfl
 have F22:=A22.f
 have b22:=F22.binds (ps:=["_law_script","_law_k"]) fun _ _ _ _ _ _=>us2 fun _ _=>rfl
 have F23:=A23.f
 have b23:=F23.binds (ps:=["_law_state_here","_law_many"]) fun _ _ _ _ _ _=>us2 fun _ _=>rfl
 have F24:=A24.f
 have b24:=F24.binds (ps:=["_law_call"]) fun _ _ _ _ _ _=>us1 fun _=>rfl
 have F25:=A25.f
 have b25:=F25.binds (ps:=["_law_held"]) fun _ _ _ _ _ _=>us1 fun _=>rfl
 have F26:=A26.f
 have b26:=F26.binds (ps:=["_law_state_here","_law_least","_law_most"]) fun _ _ _ _ _ _=>us3 fun _ _ _=>rfl
 have F27:=A27.f
 have b27:=F27.binds (ps:=["_law_thing","_law_least","_law_most"]) fun _ _ _ _ _ _=>us3 fun _ _ _=>rfl
 have F28:=A28.f
 have b28:=F28.binds (ps:=["_law_line"]) fun _ _ _ _ _ _=>us1 fun _=>rfl
 have F29:=A29.f
 have b29:=F29.binds (ps:=["_law_thing"]) fun _ _ _ _ _ _=>us1 fun _=>rfl
 have F30:=A30.f
 have b30:=F30.binds (ps:=["_law_state_here","_law_table_here"]) fun _ _ _ _ _ _=>us2 fun _ _=>rfl
 have F31:=A31.f
 have b31:=F31.binds (ps:=["_law_state_here"]) fun _ _ _ _ _ _=>us1 fun _=>rfl
 have F32:=A32.f
 have b32:=F32.binds (ps:=["_law_table_here","_law_turn"]) fun _ _ _ _ _ _=>us2 fun _ _=>rfl
 have F33:=A33.f
 have b33:=F33.binds (ps:=[]) fun _ _ _ _ _ _ us hl=>match us,hl with|[],_=>rfl
 have F34:=A34.f
 have b34:=F34.binds (ps:=["_law_found","_law_due"]) fun _ _ _ _ _ _=>us2 fun _ _=>rfl
 have F35:=A35.f
 have b35:=F35.binds (ps:=["_law_script"]) fun _ _ _ _ _ _=>us1 fun _=>rfl
 have tc_law:a5U (hK w.params) (.ref 406) 402=true:=by kernel_rfl
 refine⟨PySem.W.fnOf "law" "law" (a2P a4f) (a0S a4f) (v9_ a4f) .none .none .none (.str "law_turnsigns_k51_tables_turned" 582) none (.ref 406) .none,fun s v=>.of_eq rfl,by kernel_rfl,fun p hp=>?_,fun base _ _ hBm=>?_⟩
 ·obtain rfl:=List.mem_singleton.mp hp
  obtain⟨c,_,hc⟩:=b1L tc_law;exact⟨c,hc⟩
 have k_TURNS:DfG P w (hK w.params) mg "TURNS" [("stay","stayed"),("left","turned_left"),("half","turned_half"),("right","turned_right"),("upright","told_upright"),("flat","told_flat"),("slant","told_slant"),("other","told_other")]:=b8S (es:=[HG.hE w.params "stay" 534 (.ref 238),HG.hE w.params "left" 535 (.ref 245),HG.hE w.params "half" 536 (.ref 252),HG.hE w.params "right" 537 (.ref 259),HG.hE w.params "upright" 538 (.ref 264),HG.hE w.params "flat" 539 (.ref 271),HG.hE w.params "slant" 540 (.ref 278),HG.hE w.params "other" 541 (.ref 285)]) (ep:=8) (Zo X G (v:=.ref 286) (by kernel_rfl)) (by kernel_rfl) (by decide) (.cons ⟨_,rfl⟩ rfl rfl (Zo X G (v:=.ref 238) (by kernel_rfl)) (.cons ⟨_,rfl⟩ rfl rfl (Zo X G (v:=.ref 245) (by kernel_rfl)) (.cons ⟨_,rfl⟩ rfl rfl (Zo X G (v:=.ref 252) (by kernel_rfl)) (.cons ⟨_,rfl⟩ rfl rfl (Zo X G (v:=.ref 259) (by kernel_rfl)) (.cons ⟨_,rfl⟩ rfl rfl (Zo X G (v:=.ref 264) (by kernel_rfl)) (.cons ⟨_,rfl⟩ rfl rfl (Zo X G (v:=.ref 271) (by kernel_rfl)) (.cons ⟨_,rfl⟩ rfl rfl (Zo X G (v:=.ref 278) (by kernel_rfl)) (.cons ⟨_,rfl⟩ rfl rfl (Zo X G (v:=.ref 285) (by kernel_rfl)) (.nil)))))))))
 have d_is_whole:Def P w (hK w.params) mg base "is_whole" 1 1 a1W:=⟨_,_,_,b9k F1 T,rfl,A1.g X G,A1.k,b1⟩
 have d_is_row:Def P w (hK w.params) mg base "is_row" 2 2 a1I:=⟨_,_,_,b9m F2 T d_is_whole,rfl,A2.g X G,A2.k,b2⟩
 have d_is_grid:Def P w (hK w.params) mg base "is_grid" 3 3 a4g:=⟨_,_,_,b9o F3 T d_is_row,rfl,A3.g X G,A3.k,b3⟩
 have d_is_square:Def P w (hK w.params) mg base "is_square" 4 3 a3r:=⟨_,_,_,b9q F4 T d_is_grid,rfl,A4.g X G,A4.k,b4⟩
 have d_flipped:Def P w (hK w.params) mg base "flipped" 1 1 a0y:=⟨_,_,_,b9s F5 T,rfl,A5.g X G,A5.k,b5⟩
 have d_takes_turns:Def P w (hK w.params) mg base "takes_turns" 1 1 a2C:=⟨_,_,_,b9t F6 T,rfl,A6.g X G,A6.k,b6⟩
 have d_is_table:Def P w (hK w.params) mg base "is_table" 5 1 a3s:=⟨_,_,_,b9v F7 T d_is_square d_takes_turns d_flipped,rfl,A7.g X G,A7.k,b7⟩
 have d_must_be_table:Def P w (hK w.params) mg base "must_be_table" 6 1 a3t:=⟨_,_,_,b9w F8 T d_is_table,rfl,A8.g X G,A8.k,b8⟩
 have dx_must_be_table:DefX P w (hK w.params) mg base "must_be_table" 6 1 a4h:=⟨_,_,_,b9x F8 T d_is_table,rfl,A8.g X G,A8.k,b8⟩
 have d_stayed:Def P w (hK w.params) mg base "stayed" 1 1 a3u:=⟨_,_,_,b9A F9 T,rfl,A9.g X G,A9.k,b9⟩
 have d_turned_left:Def P w (hK w.params) mg base "turned_left" 2 1 a1a:=⟨_,_,_,b9C F10 T d_flipped,rfl,A10.g X G,A10.k,b10⟩
 have d_turned_half:Def P w (hK w.params) mg base "turned_half" 3 1 a1n:=⟨_,_,_,b9E F11 T d_turned_left,rfl,A11.g X G,A11.k,b11⟩
 have d_turned_right:Def P w (hK w.params) mg base "turned_right" 4 1 a3v:=⟨_,_,_,b9G F12 T d_turned_left d_turned_half,rfl,A12.g X G,A12.k,b12⟩
 have d_told_upright:Def P w (hK w.params) mg base "told_upright" 1 1 a3w:=⟨_,_,_,b9I F13 T,rfl,A13.g X G,A13.k,b13⟩
 have d_told_flat:Def P w (hK w.params) mg base "told_flat" 1 1 a3x:=⟨_,_,_,b9K F14 T,rfl,A14.g X G,A14.k,b14⟩
 have d_told_slant:Def P w (hK w.params) mg base "told_slant" 2 1 a1X:=⟨_,_,_,b9M F15 T d_flipped,rfl,A15.g X G,A15.k,b15⟩
 have d_told_other:Def P w (hK w.params) mg base "told_other" 4 1 a3y:=⟨_,_,_,b9O F16 T d_turned_half d_told_slant,rfl,A16.g X G,A16.k,b16⟩
 have d_is_turn:Def P w (hK w.params) mg base "is_turn" 1 1 a3z:=⟨_,_,_,b9Q F17 T k_TURNS,rfl,A17.g X G,A17.k,b17⟩
 have d_must_be_turn:Def P w (hK w.params) mg base "must_be_turn" 2 1 a3A:=⟨_,_,_,b9R F18 T d_is_turn,rfl,A18.g X G,A18.k,b18⟩
 have dx_must_be_turn:DefX P w (hK w.params) mg base "must_be_turn" 2 1 a4W:=⟨_,_,_,b9S F18 T d_is_turn,rfl,A18.g X G,A18.k,b18⟩
 have d_brought:Def P w (hK w.params) mg base "brought" 5 2 a4i:=⟨_,_,_,b9T F19 T d_stayed d_turned_left d_turned_half d_turned_right d_told_upright d_told_flat d_told_slant d_told_other k_TURNS,rfl,A19.g X G,A19.k,b19⟩
 have d_turned:Def P w (hK w.params) mg base "turned" 7 2 a0d:=⟨_,_,_,b9U F20 T d_must_be_table d_must_be_turn d_brought,rfl,A20.g X G,A20.k,b20⟩
 have dx_turned:DefX P w (hK w.params) mg base "turned" 7 2 a0O:=⟨_,_,_,b9V F20 T d_must_be_table d_must_be_turn d_brought dx_must_be_table dx_must_be_turn,rfl,A20.g X G,A20.k,b20⟩
 have d__law_cell_at:Def P w (hK w.params) mg base "_law_cell_at" 1 2 a4j:=⟨_,_,_,b9X F21 T,rfl,A21.g X G,A21.k,b21⟩
 have d__law_state:Def P w (hK w.params) mg base "_law_state" 2 2 a4k:=⟨_,_,_,b9Y F22 T d__law_cell_at,rfl,A22.g X G,A22.k,b22⟩
 have d__law_take:Def P w (hK w.params) mg base "_law_take" 1 2 k2_:=⟨_,_,_,b9Z F23 T,rfl,A23.g X G,A23.k,b23⟩
 have d__law_refused:=c0c (P:=P) (w:=w) (mg:=mg) (base:=base) F24 T (A24.g X G) b24
 have d__law_lines:Def P w (hK w.params) mg base "_law_lines" 1 1 a2E:=⟨_,_,_,c0e F25 T,rfl,A25.g X G,A25.k,b25⟩
 have d__law_table:Def P w (hK w.params) mg base "_law_table" 2 3 a1o:=⟨_,_,_,c0f F26 T d__law_take d__law_lines,rfl,A26.g X G,A26.k,b26⟩
 have d__law_whole:Def P w (hK w.params) mg base "_law_whole" 1 3 a1J:=⟨_,_,_,c0h F27 T,rfl,A27.g X G,A27.k,b27⟩
 have d__law_turns:Def P w (hK w.params) mg base "_law_turns" 1 1 a1p:=⟨_,_,_,c0k F28 T,rfl,A28.g X G,A28.k,b28⟩
 have d__law_is_table:Def P w (hK w.params) mg base "_law_is_table" 2 1 a3C:=⟨_,_,_,c0n F29 T d__law_turns d__law_whole,rfl,A29.g X G,A29.k,b29⟩
 have d__law_bent:Def P w (hK w.params) mg base "_law_bent" 2 2 a2F:=⟨_,_,_,c0o F30 T d__law_take,rfl,A30.g X G,A30.k,b30⟩
 have d__law_no_table:Def P w (hK w.params) mg base "_law_no_table" 3 1 a4m:=⟨_,_,_,c0p F31 T d__law_bent d__law_take d__law_table d__law_is_table,rfl,A31.g X G,A31.k,b31⟩
 have d__law_turned:Def P w (hK w.params) mg base "_law_turned" 1 2 a3D:=⟨_,_,_,c0q F32 T,rfl,A32.g X G,A32.k,b32⟩
 have d__law_turn_words:Def P w (hK w.params) mg base "_law_turn_words" 1 0 a0P:=⟨_,_,_,c0t F33 T,rfl,A33.g X G,A33.k,b33⟩
 have d__law_same:Def P w (hK w.params) mg base "_law_same" 7 2 (a0r 6):=⟨_,_,_,b2m F34 T (A34.g X G) A34.k b34 6,rfl,A34.g X G,A34.k,b34⟩
 exact c0v F35 rfl T (b8q tc_law A35.c (by kernel_rfl) hBm) d__law_state d__law_table d__law_turn_words d__law_no_table d__law_take d_turned d__law_refused d__law_same d__law_turned dx_turned
end K51
open PySem PySem.W PyProof.Rows
set_option maxRecDepth 100000 in
set_option maxHeartbeats 0 in
theorem PySem.Challenge.cw_turnsigns_k51_tables_turned_holds : PySem.Challenge.rw_turnsigns_k51_tables_turned.Holds := by
 o_law
 refine PySem.W.holds_open (r:=PySem.Challenge.rw_turnsigns_k51_tables_turned.row) (q:=K51.hQ) (loose:=["TURNS"]) (Xt:=fun s=>xlAt K51.hQ [] s && recOk [] s) (XP:=XL K51.hQ []) (Yf:=Hook.obs K51.hHk) (Ya:=Hook.val K51.hHk) (YP:=Hook.says K51.hHk) (d:=K51.hDr) (kwd:=[]) (N:=8478) K51.hlf (Hook.of K51.hHk) (Hook.keeps K51.hHk) (fun s e=>xl_of s (Bool.and_eq_true_iff.mp e).1) XL.keeps (by kernel_rfl) (by kernel_rfl) (by kernel_rfl) (fun s e=>recFacts_of (Bool.and_eq_true_iff.mp e).2) rfl (by assumption) (by decide+kernel) ⟨rfl,rfl,rfl,rfl,rfl,by decide+kernel⟩ ⟨[.list []],by decide+kernel,by decide+kernel⟩ ?hc
 exact L2.Mir.b8p (l:=PySem.Challenge.rw_turnsigns_k51_tables_turned) (k:=10) (x := "_law_script") (fn:=K51.a6k) rfl rfl ⟨rfl,by decide,by decide⟩ (fun w h Y=>⟨PySem.W.km_in_of Y,PySem.W.km_tabs_of Y⟩) K51.c2g K51.c2f
