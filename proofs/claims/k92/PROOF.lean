import PyProof.Rows.All
import Wide.All
import OpenK.AllK
import Wide.FinOn
import Lean
import PyProof.EqAt
import PyProof.EqKinds
import PyProof.TupleCall
import PySem.Challenge.RW_turnsigns_k92_texts_that_write_none
set_option Elab.async false
set_option linter.all false
set_option maxRecDepth 100000
set_option maxHeartbeats 0
abbrev Qq:=PySem.W.Frag
abbrev Qz:=@PySem.wpAny_bind
abbrev Qj:=@PySem.Heap.get?_push_of_some
abbrev Qx:=@Option.bind_some
abbrev Qk:=@List.length_map
abbrev Qv:=@List.all_eq_true
abbrev Qw:=@Nat.le_refl
abbrev Qy:=@Bool.and_eq_true
abbrev Qu:=@PySem.Heap.lt_size
abbrev Qp:=@List.size_toArray
abbrev Qb:=@List.getElem?_eq_some_iff
abbrev Qg:=@List.map_cons
abbrev Qh:=@PySem.Heap.get?_push_size
abbrev Qm:=@List.mem_cons
abbrev Qn:=@if_pos
abbrev Qc:=@List.getElem?_set_ne
abbrev Ql:=@Nat.lt_of_lt_of_le
abbrev Qd:=@PySem.wpAny_pure
abbrev Qr:=@if_neg
abbrev Qs:=@List.length_append
abbrev Qi:=@Nat.ne_of_lt
abbrev Qt:=@Nat.le_trans
abbrev Qa:=@beq_eq_false_iff_ne
abbrev Qe:=@List.mem_cons_of_mem
abbrev Qo:=@List.mem_map
abbrev Zq:=@List.length_cons
abbrev Zz:=@List.mem_cons_self
abbrev Zj:=@PySem.mem_of_lookup
abbrev Zx:=@List.getElem?_eq_getElem
abbrev Zk:=@decide_eq_false
abbrev Zv:=@List.length_set
abbrev Zw:=@PySem.boot_len
abbrev Zy:=@PySem.W.mg_none_of
abbrev Zu:=@PySem.W.kia_one
abbrev Zp:=@PySem.wpAny_mono
abbrev Zb:=@List.not_mem_nil
abbrev Zg:=@List.getElem_mem
abbrev Zf:=@decide_eq_true_eq
abbrev Zh:=@Ne.symm
abbrev Zm:=@List.mem_append_right
abbrev Zn:=@Bool.false_eq_true
abbrev Zc:=@List.map_map
abbrev Zl:=@Option.some.injEq
abbrev Zd:=@List.getElem?_set_self
abbrev Zr:=@List.length_replicate
abbrev Zs:=@if_true
abbrev Zi:=@List.getElem?_map
abbrev Zt:=@PySem.Heap.size_push
abbrev Za:=@List.all_cons
abbrev Ze:=@Bool.true_and
abbrev Zo:=@List.replicate_succ
abbrev Yq:=@PySem.wpAny_truthy_bool
abbrev Yz:=@Option.isSome_iff_exists
abbrev Yj:=@decide_eq_true
abbrev Yx:=@List.mem_append
abbrev Yk:=@PySem.W.kia_tup
abbrev Yv:=@Bool.false_ne_true
abbrev Yw:=@List.length_take
abbrev Yy:=@List.mem_range
abbrev Yu:=@List.length_zipWith
abbrev Yp:=@List.map_congr_left
abbrev Yb:=@Option.some.inj
abbrev Yg:=@PySem.PassesOwn.never
abbrev Yh:=@Nat.lt_irrefl
abbrev Ym:=@List.sum_cons
abbrev Yn:=@PySem.W.Fast.te14364793385576792824
abbrev Yc:=@Int.toNat_natCast
abbrev Yl:=@PySem.wpAny_field
abbrev Yd:=@List.take_of_length_le
abbrev Yr:=@PySem.F.slot_tuple_iterator_next
abbrev Ys:=@List.mem_filterMap
abbrev Yi:=@List.getElem?_zipWith
abbrev Yt:=@List.getElem?_append_left
abbrev Ye:=@Nat.le_of_lt
abbrev Yo:=@List.find?_cons
abbrev Jq:=@or_false
abbrev Jz:=@PySem.wpAny_loadPart'
abbrev Jj:=@beq_iff_eq
abbrev Jx:=@List.getElem?_replicate
abbrev Jk:=@Bool.false_and
abbrev Jv:=@if_false
abbrev Jw:=@PySem.wpAny_seqItems
abbrev Jy:=@PySem.W.hideAll_get
abbrev Ju:=@PySem.wpAny_setField_rec
abbrev Jp:=@List.length_nil
abbrev Jb:=@congrFun
abbrev Jg:=@PySem.W.kitx_dict
abbrev Jf:=@List.append_assoc
abbrev Jh:=@Nat.lt_succ_of_lt
abbrev Jm:=@Nat.le_of_succ_le
abbrev Jn:=@List.mem_of_getElem?
abbrev Jc:=@Classical.byContradiction
abbrev Jl:=@PySem.sizeLine_eq
abbrev Jd:=@Nat.zero_le
abbrev Jr:=@congrArg
abbrev Js:=@PySem.F.plainAttrs_list
abbrev Ji:=@PySem.wpAny_callSpecial?_slot
abbrev Jt:=@List.filter_cons_of_neg
abbrev Ja:=@List.filter_cons_of_pos
abbrev Je:=@List.append_nil
abbrev Jo:=@PySem.wpAny_Call_Name_kw
abbrev Uq:=@PySem.wpAny_ite_false
abbrev Uz:=@List.pairwise_cons
abbrev Uj:=@List.map_append
abbrev Ux:=@Int.emod_nonneg
abbrev Uk:=@Prod.ext
abbrev Uv:=@PySem.W.cellsFrom_some
abbrev Uw:=@PySem.SeqAt.canLay_of_shaped
abbrev Uy:=@List.flatten_cons
abbrev Uu:=@of_decide_eq_true
abbrev Up:=@Bool.not_eq_true'
abbrev Ub:=@List.flatMap_cons
abbrev Ug:=@PySem.F.slot_zip_next
abbrev Uf:=@PyProof.Rows.callWith_type1
abbrev Uh:=@beq_self_eq_true
abbrev Um:=@PySem.Calls.evalArgs_plain
abbrev Uc:=@PySem.call_meets
abbrev Ul:=@PySem.wpAny_call_entry
abbrev Ud:=@List.filterMap_cons
abbrev Ur:=@Array.length_toList
abbrev Us:=@PySem.wpAny_execs_nil
abbrev Ui:=@PySem.wpAny_passesOwn
abbrev Ut:=@List.contains_cons
abbrev Ua:=@PySem.F.args_tuple_add_2
abbrev Ue:=@Int.emod_lt_of_pos
abbrev Uo:=@PySem.F.entry_tuple_add
abbrev Vq:=@PySem.W.kitx_list
abbrev Vz:=@PySem.wpAny_pyIter_list
abbrev Vj:=@PySem.F.args_tuple_iterator_next_1
abbrev Vx:=@PySem.wpAny_Call_method_late
abbrev Vk:=@PySem.Calls.callWith_builtin
abbrev Vv:=@PySem.F.slot_tuple_add
abbrev Vw:=@PySem.F.entry_tuple_iterator_next
abbrev Vy:=@PySem.wpAny_holding
abbrev Vu:=@PySem.wpAny_onRaise
abbrev Vp:=@PySem.W.mg_of
abbrev Vb:=@List.length_drop
abbrev Vg:=@PySem.F.slot_tuple_mul
abbrev Vf:=@Nat.le_add_right
abbrev Vh:=@PySem.codeAny_mono
abbrev Vm:=@List.nodup_cons
abbrev Vn:=@List.of_mem_zip
abbrev Vc:=@Nat.lt_trans
abbrev Vl:=@PySem.pushCells_keeps
abbrev Vd:=@List.nil_append
abbrev Vr:=@PySem.wpAny_updateSeq_pair
abbrev Vs:=@PySem.Heap.get?_update_ne
abbrev Vi:=@Array.toList_append
abbrev Vt:=@PySem.pairTrees_cons_walk
abbrev Va:=@List.map_id
abbrev Ve:=@Array.append_assoc
abbrev Vo:=@PySem.W.kitx_tuple
abbrev Xq:=@Nat.lt_of_le_of_lt
abbrev Xz:=@PySem.wpAny_pyIter_tuple
abbrev Xj:=@List.any_cons
abbrev Xx:=@Bool.false_or
abbrev Xk:=@PySem.wpAny_newList
abbrev Xv:=@PySem.wpAny_rule
abbrev Xw:=@Nat.ne_of_gt
abbrev Xy:=@Nat.le_of_eq
abbrev Xu:=@List.ext_getElem
abbrev Xp:=@List.cons_append
abbrev Xb:=@List.flatMap_map
abbrev Xg:=@Option.map_some
abbrev Xf:=@List.foldl_cons
abbrev Xh:=@Bool.or_eq_true
abbrev Xm:=@List.all_append
abbrev OO:=Nat->Nat->Int
abbrev OI:=List (List Int)
abbrev OU:=PySem.Str->Option PySem.Value
abbrev OE:=PySem.Value->PySem.Shared->Prop
abbrev OA:=PySem.Addr->Prop
abbrev OX:=List (PySem.Addr×PySem.Obj)
namespace HG
open PySem PySem.W PySem.Calls PyProof.Rows
noncomputable def hnth {α:Type}(l:List α) (i:Nat) (d:α):α:=@List.rec α (fun _=>Nat->α) (fun _=>d) (fun a _ ih i=>@Nat.rec (fun _=>α) a (fun j _=>ih j) i) l i
def hsN(s:Stmt):Str:=match s with
 |.FunctionDef n ..=>n
 |.ClassDef n ..=>n
 |_=>Str.empty
def hsA(s:Stmt):Arguments:=match s with
 |.FunctionDef _ a ..=>a
 |_=>default
def hsB(s:Stmt):List Stmt:=match s with
 |.FunctionDef _ _ b ..=>b
 |.ClassDef _ _ _ b ..=>b
 |_=>[]
def hsS(s:Stmt):Scope:=match s with
 |.FunctionDef _ _ _ _ _ _ c ..=>c
 |_=>default
def hsP(s:Stmt):Pos:=match s with
 |.FunctionDef _ _ _ _ _ _ _ _ _ p=>p
 |_=>⟨0,0,0,0⟩
def hdep{α:Sort u}(_:α):Bool:=true
def hE(P:Params)(x:Str)(t:Tok)(v:Value):DictEntry:=⟨PyData.keyHash P x,.str x t,v⟩
def hZ:Obj:=⟨.type "tuple",none,.seq ⟨[]⟩ 0,⟨[]⟩⟩
def hU(l:List Value):Obj:=⟨.type "tuple",none,.seq ⟨l⟩ 0,⟨[]⟩⟩
def hN:Obj:=⟨.none,none,.fields ⟨[]⟩,⟨[]⟩⟩
def hC(n:Str)(t t2:Nat)(ln na fl:Int)(a:Addr)(g:Bool)(b:Addr)(v1 v2 v3 v4:Value):Obj:=
 ⟨.type "code",none,.fields ⟨[.str n t,.str n (Nat.add t 1),.str "/claim/cut.py" (Nat.add t 2),.int ln 0,.int na 0,.int 0 0,.int 0 0,.int fl 0,.ref a,.bool g,.int 181 0,.ref b,v1,v2,v3,v4,.int (Int.ofNat t2) 0,.int ln 0,.str "/claim/cut.py" (Nat.add t2 1)]⟩,⟨[]⟩⟩
def hX(s:Stmt)(q:Str)(g:Addr)(cl:List (Str×Addr))(d k dc m:Value)(an:Option Addr)(c ct:Value)(b:Addr):FuncData:=
 ⟨hsN s,q,hsA s,.stmts (hsB s),hsS s,g,cl,d,k,dc,m,an,c,ct,b⟩
def hR(s:Stmt):Obj:=⟨.none,none,.func (hX s (hsN s) 0 [] .none .none .none .none none .none .none 0),⟨[]⟩⟩
def hF(s:Stmt)(m c:Value):Obj:=⟨.type "function",none,.func (hX s (hsN s) 3 [] .none .none .none m none c .none 0),⟨[]⟩⟩
def hD5(s:Stmt)(a t:Nat)(ln na:Int)(m:Value):List Obj:=[hZ,hN,hR s,hC (hsN s) t (Nat.add t 3) ln na 3 a true (Nat.add a 1) .none .none .none (.ref (Nat.add a 2)),hF s m (.ref (Nat.add a 3))]
noncomputable def hvs (l:List Str) (t:Nat):List Value:=@List.rec Str (fun _=>Nat->List Value) (fun _=>[]) (fun x _ ih t=>.str x t::ih (Nat.succ t)) l t
noncomputable def hD7 (s:Stmt) (a t:Nat) (ln na:Int) (m:Value) (l:List Str):List Obj:=[hZ,hN,hU (hvs l (Nat.add t 3)),hZ,hR s,hC (hsN s) t (Nat.add (Nat.add t 3) l.length) ln na 3 a true (Nat.add a 1) .none (.ref (Nat.add a 2)) (.ref (Nat.add a 3)) (.ref (Nat.add a 4)),hF s m (.ref (Nat.add a 5))]
def hCl(P:Params)(s:Stmt)(a t:Nat)(ln:Int)(m:Value):List Obj:=
 [⟨.type "builtin_function_or_method",none,.fields ⟨[.builtin "type.__prepare__",.type "type"]⟩,⟨[]⟩⟩,
  ⟨.type "dict",none,.dict ⟨[hE P "__module__" (Nat.add t 7) m,hE P "__qualname__" (Nat.add t 9) (.str (hsN s) (Nat.add t 8)),hE P "__firstlineno__" (Nat.add t 11) (.int ln (Nat.add t 10)),hE P "__static_attributes__" (Nat.add t 12) (.ref (Nat.add a 6))]⟩ 4,⟨[]⟩⟩,
  hZ,hN,hC (hsN s) (Nat.add t 2) (Nat.add t 5) ln 0 0 (Nat.add a 2) false (Nat.add a 3) .none .none .none .none,
  ⟨.type "frame",none,.plain,⟨[some (.ref (Nat.add a 4)),some (.ref 3),some (.ref (Nat.add a 1)),none,some m,none,some (.ref 0)]⟩⟩,hZ,
  ⟨.type "dict",none,.dict ⟨[hE P "__module__" (Nat.add t 7) m,hE P "__firstlineno__" (Nat.add t 11) (.int ln (Nat.add t 10)),hE P "__static_attributes__" (Nat.add t 12) (.ref (Nat.add a 6)),hE P "__doc__" (Nat.add t 13) .none]⟩ 2,⟨[]⟩⟩,
  ⟨.type "type",none,.cls ⟨hsN s,[.ref 24],[.ref (Nat.add a 8),.ref 24,.type "ValueError",.type "Exception",.type "BaseException",.type "object"],Nat.add a 7,hsN s,true,[],[],false,none,false⟩,⟨[some (.ref (Nat.sub a 1)),none,some (.str (hsN s) t),some (.str (hsN s) (Nat.add t 8)),some (.builtin "ValueError.__new__"),some (.bool true)]⟩⟩,
  ⟨.type "super",none,.fields ⟨[.ref (Nat.add a 8),.ref (Nat.add a 8),.ref (Nat.add a 8)]⟩,⟨[]⟩⟩,
  ⟨.type "builtin_function_or_method",none,.fields ⟨[.builtin "object.__init_subclass__",.ref (Nat.add a 8)]⟩,⟨[]⟩⟩]
noncomputable def hfd (l:List (Nat×List Obj)) (b:Nat):Obj:=@List.rec (Nat×List Obj) (fun _=>Nat->Obj) (fun _=>hZ) (fun x _ ih b=>@Bool.rec (fun _=>Obj) (ih (Nat.sub b x.1)) (hnth x.2 b hZ) (Nat.blt b x.1)) l b
def hL3(l:List (Int×Addr)):List Value:=l.flatMap fun x=>[.int x.1 0,.int 0 0,.ref x.2]
noncomputable def hmk (f:Nat->Obj) (n:Nat) (fuel:Nat):Nat->Nat->BT:=
 @Nat.rec (fun _=>Nat->Nat->BT) (fun _ _=>.nil) (fun _ ih a b=>@Bool.rec (fun _=>BT) .nil (.node (f b) (ih (Nat.mul 2 a) (Nat.add a b)) (ih (Nat.mul 2 a) (Nat.add (Nat.mul 2 a) b))) (Nat.blt b n)) fuel
def hEnv(p:Program)(c:Value)(f:Addr):Env:={scope:=p.main.scope,locals:=mainNs,globals:=mainNs,cells:=[],code:=c,frame:=some f}
def hVw(p:Program)(l:List Nat):Program:={p with main:={p.main with body:=l.map fun i=>p.main.body.getD i (.Pass ⟨0,0,0,0⟩)}}
abbrev hSt(tr:Nat->Params->BT)(k n t:Nat)(w:World)(os:OsState):SharedT:=⟨tr k w.params,n,{},⟨[]⟩,{},t,os⟩
abbrev hCd(p:Program)(ev:Env):Code:=.body (behindTheImports p) ev
def hPre(m0:Nat)(ann:Option Value)(n n0 t0:Nat)(q q0:Pos)(tg:(String->Option Builtin)->Program->World->Nat->Option Value->Nat->Shared->Thread->Option (Shared×Thread))(dn:(String->Option Builtin)->Code->Sem Fin)(tb:String->Option Builtin)(p:Program)(tr:Nat->Params->BT)(ev:Env):Prop:=
 ∀w:World,(fun os=>tg tb p w m0 ann n ⟨boot_heap w.params,⟨[]⟩,boot_drawn,boot_toks,os⟩ (topStub p))=fun os=>some ((hSt tr 0 n0 t0 w os).abs,Thread.mk (dn tb (hCd p ev)) (hCd p ev) q0 [topFrame q])
def hBlk(m0:Nat)(ann:Option Value)(n n0 t0:Nat)(q q0 q1:Pos)(sr:(String->Option Builtin)->Program->World->Nat->Option Value->Nat->Nat->Shared->Thread->Option (Flow×Shared×Code×Pos))(tb:String->Option Builtin)(p:Program)(tr:Nat->Params->BT)(ev:Env):Prop:=
 ∀w:World,(fun os=>sr tb p w m0 ann 1 n (hSt tr 0 n0 t0 w os).abs (blockOf (behindTheImports p) ev (hCd p ev) q0 [topFrame q]))=fun os=>some (.next,(hSt tr 0 n0 t0 w os).abs,hCd p ev,q1)
def hPc(m0:Nat)(ann:Option Value)(n i j k n0 t0 n1 t1:Nat)(q q0 q1:Pos)(sr:(String->Option Builtin)->Program->World->Nat->Option Value->Nat->Nat->SharedT->Thread->Option (Flow×SharedT×Code×Pos))(tb:String->Option Builtin)(p:Program)(tr:Nat->Params->BT)(ev:Env):Prop:=
 ∀w:World,(fun os=>sr tb p w m0 ann 1 n (hSt tr k n0 t0 w os) (piecesOf (((behindTheImports p).drop i).take j) ev (hCd p ev) q0 [topFrame q]))=fun os=>some (.next,hSt tr (Nat.succ k) n1 t1 w os,hCd p ev,q1)
def hFin(m0:Nat)(ann:Option Value)(n k n0 t0:Nat)(q q0:Pos)(sr:(String->Option Builtin)->Program->World->Nat->Option Value->Nat->Shared->Thread->Option Shared)(tb:String->Option Builtin)(p:Program)(tr:Nat->Params->BT)(ev:Env):Prop:=
 ∀w:World,(fun os=>sr tb p w m0 ann n (hSt tr k n0 t0 w os).abs (Thread.mk (doneF .next) (hCd p ev) q0 [topFrame q]))=fun os=>some (hSt tr k n0 t0 w os).abs
variable{m0:Nat}{ann:Option Value}{q q0 q1:Pos}{tb:String->Option Builtin}{p:Program}{tr:Nat->Params->BT}{ev:Env}{n N i j k n0 t0 n1 t1:Nat}{r:Shared}
theorem hgo(h:hPre m0 ann n n0 t0 q q0 topGo denote tb p tr ev)(w:World)(os:OsState)(g:topRun tb p w m0 ann N (hSt tr 0 n0 t0 w os).abs (Thread.mk (denote tb (hCd p ev)) (hCd p ev) q0 [topFrame q])=some r):
  topRun tb p w m0 ann (Nat.add n N) ⟨boot_heap w.params,⟨[]⟩,boot_drawn,boot_toks,os⟩ (topStub p)=some r:=go_top (Jb (h w) os) g
theorem hblkk(h:hBlk m0 ann n n0 t0 q q0 q1 segRun tb p tr ev)(w:World)(os:OsState)(g:topRun tb p w m0 ann N (hSt tr 0 n0 t0 w os).abs (restOf ((behindTheImports p).drop 0) ev (hCd p ev) q1 [topFrame q])=some r):
  topRun tb p w m0 ann (Nat.add n N) (hSt tr 0 n0 t0 w os).abs (Thread.mk (denote tb (hCd p ev)) (hCd p ev) q0 [topFrame q])=some r:=piece_block (Jb (h w) os) g
theorem hpcs(h:hPc m0 ann n i j k n0 t0 n1 t1 q q0 q1 segRunT tb p tr ev)(w:World)(os:OsState)(g:topRun tb p w m0 ann N (hSt tr (Nat.succ k) n1 t1 w os).abs (restOf ((behindTheImports p).drop (Nat.add i j)) ev (hCd p ev) q1 [topFrame q])=some r):
  topRun tb p w m0 ann (Nat.add n N) (hSt tr k n0 t0 w os).abs (restOf ((behindTheImports p).drop i) ev (hCd p ev) q0 [topFrame q])=some r:=by
 have a:=piece_app (segRun_of (Jb (h w) os)) g
 have e:((behindTheImports p).drop i).take j++(behindTheImports p).drop (Nat.add i j)=(behindTheImports p).drop i:=by
  have:=List.take_append_drop j ((behindTheImports p).drop i);rw[List.drop_drop]at this;exact this
 rw[e]at a;exact a
theorem hfin'(e:(behindTheImports p).drop i=[])(h:hFin m0 ann n k n0 t0 q q0 topRun tb p tr ev)(w:World)(os:OsState):
  topRun tb p w m0 ann n (hSt tr k n0 t0 w os).abs (restOf ((behindTheImports p).drop i) ev (hCd p ev) q0 [topFrame q])=some (hSt tr k n0 t0 w os).abs:=by
 rw[e];exact Jb (h w) os
abbrev hSh(H:Params->Heap)(t:Nat)(w:World)(os:OsState):Shared:=⟨H w.params,⟨[]⟩,{},t,os⟩
structure hLk(p v:Program)(H:Params->Heap)(K:Params->Frag)(as ts:List Addr)(t:Nat)(ls:List Str:=[]):Prop where
 l1:∀w:World,(fun os=>staticsOk (PySem.W.Fast.tw5923862056798008813 p.main.body) (boot_heap w.params) (H w.params)&&namesBound p (H w.params)&&gensDone (hSh H t w os)&&laidKept (boot_heap w.params) (H w.params))=fun _=>true
 l2:∀w:World,(fun os=>PySem.W.Fast.tw5160383126252970620 (PySem.W.R.mapR (fun x=>x.name) (PySem.W.Fast.tw3399658132070893891 v)) (PySem.W.Fast.tw5991557255702980513 v) [] (hSh H t w os))=fun _=>expectedOf v
 l3:∀w:World,(H w.params).bltView=bltViewBooted
 l4:∀w:World,(fun os=>PySem.W.Fast.tw10880121769531294198 (H w.params) (PySem.W.Fast.tw821141287760084731 v ls) (PySem.W.R.mapR (fun x=>x.name) (PySem.W.Fast.tw3399658132070893891 v)) (PySem.W.R.mapR (fun x=>x.1) (PySem.W.Fast.tw7409074990110511671 v)) (PySem.W.R.mapR (fun x=>x.name) (PySem.W.Fast.tw13664370479719496447 v (PySem.W.Fast.tw821141287760084731 v ls)))&&PySem.W.Fast.tw14722251495701143533 (H w.params) (PySem.W.Fast.tw5923862056798008813 p.main.body)&&(H w.params).isNs mainGlobals&&(H w.params).isNs builtinsNs&&PySem.W.Fast.tw10994771534591457954 v (H w.params)&&(xlAt v [] (hSh H t w os)&&recOk [] (hSh H t w os))&&(if true then(hSh H t w os).gens.size==0 else !leftWithCleanup (hSh H t w os).gens))=fun _=>true
 l5:∀w:World,(fun os=>PySem.W.Fast.tw479339242167458305 v (hSh H t w os))=fun _=>true
 l6:∀w:World,(fun os=>PySem.W.Fast.tw16090120013241838585 v (PySem.W.Fast.tw3247288618530077131 v) (hSh H t w os))=fun _=>pinGoodD (PySem.W.Fast.tw3247288618530077131 v)
 l7:∀w:World,(fun os=>PySem.W.Fast.tw2386780881361962483 v (PySem.W.Fast.tw821141287760084731 v ls) (hSh H t w os))=fun _=>plainGoodE v (PySem.W.Fast.tw821141287760084731 v ls)
 l8:∀w:World,(fun os=>PySem.W.Fast.tw11698064438423848299 v ls (hSh H t w os))=fun _=>plainGoodD v ls
 l9:∀w:World,(fun os=>PySem.W.Fast.tw7317090234206586261 v (hSh H t w os))=fun _=>wideGood v
 l10:∀w:World,(fun os=>PySem.W.Fast.tw7369524293546568484 v ls (hSh H t w os))=fun _=>clsGoodW v ls
 l11:∀w:World,PySem.W.R.mapR (H w.params).get? as=PySem.W.R.mapR (fun p=>some p.2) (K w.params)
 l12:∀w:World,PySem.W.R.mapR (H w.params).get? ts=PySem.W.R.mapR (fun _=>some (tabObj #[])) ts
def setRow(w:World)(x:String)(b:Bool):World:={w with params:={w.params with followText:=fun s=>bif s==x then b else w.params.followText s}}
theorem setRow_eq(w:World)(x:String):setRow w x (w.params.followText x)=w:=by
 have e:(fun s=>bif s==x then w.params.followText x else w.params.followText s)=w.params.followText:=by
  funext s
  by_cases h:s=x
  ·subst h
   rw[Uh]
   rfl
  ·have:(s==x)=false:=by rw[Qa];exact h
   rw[this]
   rfl
 unfold setRow;rw[e]
theorem splitW{Pr:World->Prop}(x:String)(h:∀(b:Bool) (w:World),Pr (setRow w x b))(w:World):Pr w:=by
 have:=h (w.params.followText x) w;rwa [setRow_eq]at this
theorem hsize(w:World):((boot_heap w.params).isNs mainGlobals&&(Array.mk []:Array GenState).size==0,(boot_heap w.params).objs.size,(boot_heap w.params).nsMap mainGlobals "__annotations__")=(true,11,some (.ref 6)):=by
 rw[PySem.W.Fast.te8920871248978507458,show("__annotations__":Str)=⟨⟨[95,95,97,110,110,111,116,97,116,105,111,110,115,95,95]⟩⟩from PySem.W.Fast.ofString_ofList ['_','_','a','n','n','o','t','a','t','i','o','n','s','_','_']]
 kernel_rfl
theorem hleft{v:Program}{H:Params->Heap}{K:Params->Frag}{as ts:List Addr}{t M:Nat}(e:∀P,as=(K P).map (·.1))(eo:opening p=plainProg p.main.scope.names)(hf:∀s,fenceModules? p s=some s)(hN:Nat.ble 600 N=true)(le:Nat.ble M N=true)
  (run:∀(w:World) (os:OsState),topRun treeTable p w 11 (some (.ref 6)) M ⟨boot_heap w.params,⟨[]⟩,boot_drawn,boot_toks,os⟩ (topStub p)=some (hSh H t w os)){ls:List Str}(L:hLk p v H K as ts t ls):
  LeftO p v ls (fun s=>xlAt v [] s&&recOk [] s) (Hook.obs (kmHook K as e ts)) (Hook.val (kmHook K as e ts)) N:=by
 refine LeftO.of_pieces (boot_open eo hN hf) hsize run le fun w=>?_
 have q1:=L.l1 w;have q2:=L.l2 w;have q3:=L.l3 w;have q4:=L.l4 w;have q5:=L.l5 w;have q6:=L.l6 w;have q7:=L.l7 w;have q8:=L.l8 w;have q9:=L.l9 w;have q10:=L.l10 w;have q11:=L.l11 w;have q12:=L.l12 w
 simp only[←PySem.W.Fast.te5923862056798008813,←PySem.W.Fast.te5160383126252970620,←PySem.W.R.mapR_eq,←PySem.W.Fast.te3399658132070893891,←PySem.W.Fast.te5991557255702980513,←PySem.W.Fast.te10880121769531294198,←PySem.W.Fast.te821141287760084731,←PySem.W.Fast.te7409074990110511671,←PySem.W.Fast.te13664370479719496447,←PySem.W.Fast.te14722251495701143533,←PySem.W.Fast.te10994771534591457954,←PySem.W.Fast.te479339242167458305,←PySem.W.Fast.te16090120013241838585,←PySem.W.Fast.te3247288618530077131,←PySem.W.Fast.te2386780881361962483,←PySem.W.Fast.te11698064438423848299,←PySem.W.Fast.te7317090234206586261,←PySem.W.Fast.te7369524293546568484]at q1 q2 q4 q5 q6 q7 q8 q9 q10 q11 q12
 funext os
 unfold openSeen openGood;refine Uk (Jb q1 os) (Uk (Uk (Jb q2 os) (Uk q3 (Uk (Jb q4 os) (Uk (Jb q5 os) (Uk (Jb q6 os) (Uk (Jb q7 os) (Uk (Jb q8 os) (Uk (Jb q9 os) (Jb q10 os))))))))) (Uk q11 q12))
end HG
namespace K92
noncomputable section
open PySem PySem.W PySem.Calls PyProof.Rows HG
def hS(i:Nat):Stmt:=PySem.Challenge.pw_turnsigns_k92_texts_that_write_none.main.body.getD i (.Pass ⟨0,0,0,0⟩)
def hm0:Value:=(.str "turnsigns.errors" 187)
def hm1:Value:=(.str "turnsigns.grids" 415)
def hm2:Value:=(.str "turnsigns.tables" 451)
def hm3:Value:=(.str "turnsigns.notes" 470)
def hm4:Value:=(.str "law_turnsigns_k92_texts_that_write_none" 502)
def hc0(P:Params):List (Nat×List Obj):=[(15,[boot_o_0 P,boot_o_1 P,boot_o_2 P,hZ,boot_o_4 P,boot_o_5 P,boot_o_6 P,boot_o_7 P,boot_o_8 P,boot_o_9 P,boot_o_10 P,hZ,hZ,hC "<module>" 182 185 1 0 0 11 false 12 .none .none .none .none,⟨(.type "frame"),none,.plain,⟨[(some (.ref 13)),(some (.ref 3)),(some (.ref 3)),none,(some (.str "__main__" 164)),none,(some (.ref 0))]⟩⟩]),(13,[hU [(.type "ValueError")],⟨(.type "builtin_function_or_method"),none,.fields ⟨[(.builtin "type.__prepare__"),(.type "type")]⟩,⟨[]⟩⟩,⟨(.type "dict"),none,.dict ⟨[hE P "__module__" 196 (.str "turnsigns.errors" 187),hE P "__qualname__" 198 (.str "SignError" 197),hE P "__firstlineno__" 200 (.int 2 199),hE P "__static_attributes__" 201 (.ref 22)]⟩ 4,⟨[]⟩⟩,hZ,hN,hC "SignError" 191 194 2 0 0 18 false 19 .none .none .none .none,⟨(.type "frame"),none,.plain,⟨[(some (.ref 20)),(some (.ref 3)),(some (.ref 17)),none,(some (.str "turnsigns.errors" 187)),none,(some (.ref 0))]⟩⟩,hZ,⟨(.type "dict"),none,.dict ⟨[hE P "__module__" 196 (.str "turnsigns.errors" 187),hE P "__firstlineno__" 200 (.int 2 199),hE P "__static_attributes__" 201 (.ref 22),hE P "__weakref__" 203 (.ref 25),hE P "__doc__" 204 .none]⟩ 3,⟨[]⟩⟩,hZ,⟨(.type "getset_descriptor"),none,.fields ⟨[(.str "__weakref__" 202),(.ref 24),(.builtin "ExceptionGroup.__weakref__"),.none]⟩,⟨[]⟩⟩,⟨(.type "super"),none,.fields ⟨[(.ref 24),(.ref 24),(.ref 24)]⟩,⟨[]⟩⟩,⟨(.type "builtin_function_or_method"),none,.fields ⟨[(.builtin "object.__init_subclass__"),(.ref 24)]⟩,⟨[]⟩⟩]),(1,[hU [.ref 24]]),(11,hCl P (hS 2) 29 207 4 hm0),(1,[hU [.ref 24]]),(11,hCl P (hS 3) 41 223 6 hm0),(1,[hU [.ref 24]]),(11,hCl P (hS 4) 53 239 8 hm0),(1,[hU [.ref 24]]),(11,hCl P (hS 5) 65 255 10 hm0)]
def hc1(P:Params):List (Nat×List Obj):=[(1,[hU [.ref 24]]),(11,hCl P (hS 6) 77 271 12 hm0),(1,[hU [.ref 24]]),(11,hCl P (hS 7) 89 287 14 hm0),(1,[hU [.ref 24]]),(11,hCl P (hS 8) 101 303 16 hm0),(1,[hU [.ref 24]]),(11,hCl P (hS 9) 113 319 18 hm0),(1,[hU [.ref 24]]),(11,hCl P (hS 10) 125 335 20 hm0)]
def hc2(P:Params):List (Nat×List Obj):=[(1,[hU [.ref 24]]),(11,hCl P (hS 11) 137 351 22 hm0),(1,[hU [.ref 24]]),(11,hCl P (hS 12) 149 367 24 hm0),(1,[hU [.ref 24]]),(11,hCl P (hS 13) 161 383 26 hm0),(1,[hU [.ref 24]]),(11,hCl P (hS 14) 173 399 28 hm0),(7,hD7 (hS 16) 184 417 31 1 hm1 ["thing"]),(5,hD5 (hS 17) 191 424 33 2 hm1)]
def hc3(P:Params):List (Nat×List Obj):=[(5,hD5 (hS 18) 196 430 37 3 hm1),(7,hD7 (hS 19) 201 436 41 3 hm1 ["thing","least","greatest"]),(5,hD5 (hS 20) 208 445 45 1 hm1),(7,hD7 (hS 23) 213 455 49 1 hm2 ["line","total","number"]),(5,hD5 (hS 24) 220 464 56 1 hm2),(1,[⟨(.type "dict"),none,.dict ⟨[hE P "+" 472 (.int 1 473),hE P "-" 474 (.int (-1) 476),hE P "0" 477 (.int 0 478)]⟩ 3,⟨[]⟩⟩]),(5,hD5 (hS 27) 226 483 62 1 hm3),(5,hD5 (hS 28) 231 489 64 1 hm3),(7,hD7 (hS 29) 236 495 70 1 hm3 ["text"]),(7,hD7 (hS 31) 243 504 75 2 hm4 ["_law_script","_law_k"])]
def hc4(P:Params):List (Nat×List Obj):=[(7,hD7 (hS 32) 250 512 79 2 hm4 ["_law_script","_law_k","_law_cell"]),(7,hD7 (hS 33) 257 521 84 2 hm4 ["_law_state_here","_law_many","_law_found","_law_mixed"]),(5,hD5 (hS 34) 264 531 93 1 hm4),(5,hD5 (hS 35) 269 537 109 1 hm4),(5,hD5 (hS 36) 274 543 119 3 hm4),(7,hD7 (hS 37) 279 549 129 3 hm4 ["_law_thing","_law_least","_law_most"]),(5,hD5 (hS 38) 286 558 131 1 hm4),(5,hD5 (hS 39) 291 564 134 1 hm4),(5,hD5 (hS 40) 296 570 146 1 hm4),(5,hD5 (hS 41) 301 576 149 2 hm4)]
def hc5(P:Params):List (Nat×List Obj):=[(5,hD5 (hS 42) 306 582 155 1 hm4),(7,hD7 (hS 43) 311 588 166 2 hm4 ["_law_state_here","_law_text_here","_law_kind","_law_at","_law_signs","_law_sign","_law_words","_law_one","_law_other"]),(7,[hZ,hN,hU [(.str "_law_script" 606),(.str "_law_k" 607),(.str "_law_state_here" 608),(.str "_law_turn" 609),(.str "_law_due_here" 610)],hU [(.str "_law_odd" 611),(.str "_law_text_here" 612)],hR (hS 44),hC "law" 603 613 188 1 3 318 true 319 .none (.ref 320) (.ref 321) (.ref 322),hF (hS 44) (.str "law_turnsigns_k92_texts_that_write_none" 502) (.ref 323)])]
def hB(P:Params):Nat->Obj:=hfd (hc0 P++hc1 P++hc2 P++hc3 P++hc4 P++hc5 P)
def b2A(P:Params)(v:Value):List DictEntry:=[hE P "__name__" 165 v,hE P "__doc__" 166 .none,hE P "__package__" 167 .none,hE P "__loader__" 168 (.builtin "__main__.__loader__#opaque"),hE P "__spec__" 169 .none,hE P "__annotations__" 170 (.ref 6),hE P "__builtins__" 171 (.ref 4),hE P "__file__" 173 (.str "/claim/cut.py" 172),hE P "__cached__" 174 .none,hE P "SignError" 206 (.ref 24),hE P "NoTable" 222 (.ref 37),hE P "NoHeights" 238 (.ref 49),hE P "NoNet" 254 (.ref 61),hE P "NoPlace" 270 (.ref 73),hE P "NoTriangle" 286 (.ref 85),hE P "NoRow" 302 (.ref 97)]
def b2B(P:Params)(v:Value):List DictEntry:=[hE P "NoNumber" 318 (.ref 109),hE P "NoTurn" 334 (.ref 121),hE P "NotAlike" 350 (.ref 133),hE P "NoStep" 366 (.ref 145),hE P "NoRows" 382 (.ref 157),hE P "TooMany" 398 (.ref 169),hE P "BadNote" 414 (.ref 181),hE P "is_whole" 423 (.ref 190),hE P "is_row" 429 (.ref 195),hE P "is_grid" 435 (.ref 200),hE P "is_square" 444 (.ref 207),hE P "flipped" 450 (.ref 212),hE P "GREATEST_SIDE" 454 (.int 6 453),hE P "takes_turns" 463 (.ref 219),hE P "is_table" 469 (.ref 224),hE P "NUMBERS" 482 (.ref 225)]
def b2C(P:Params)(v:Value):List DictEntry:=[hE P "unwritten" 488 (.ref 230),hE P "is_note" 494 (.ref 235),hE P "table_read" 501 (.ref 242),hE P "_law_cell_at" 511 (.ref 249),hE P "_law_state" 520 (.ref 256),hE P "_law_take" 530 (.ref 263),hE P "_law_refused" 536 (.ref 268),hE P "_law_lines" 542 (.ref 273),hE P "_law_table" 548 (.ref 278),hE P "_law_whole" 557 (.ref 285),hE P "_law_turns" 563 (.ref 290),hE P "_law_is_table" 569 (.ref 295),hE P "_law_text" 575 (.ref 300),hE P "_law_same" 581 (.ref 305),hE P "_law_due" 587 (.ref 310),hE P "_law_bent" 602 (.ref 317)]
def b2D(P:Params)(v:Value):List DictEntry:=[hE P "law" 615 (.ref 324)]
def he3(P:Params)(v:Value):List DictEntry:=b2A P v++b2B P v++b2C P v++b2D P v
def ht3(k:Nat):Nat×Nat×Value:=hnth [(9,9,(.str "__main__" 164)),(10,10,(.str "turnsigns.errors" 187)),(11,11,(.str "turnsigns.errors" 187)),(12,12,(.str "turnsigns.errors" 187)),(13,13,(.str "turnsigns.errors" 187)),(14,14,(.str "turnsigns.errors" 187)),(15,15,(.str "turnsigns.errors" 187)),(16,16,(.str "turnsigns.errors" 187)),(17,17,(.str "turnsigns.errors" 187)),(18,18,(.str "turnsigns.errors" 187)),(19,19,(.str "turnsigns.errors" 187)),(20,20,(.str "turnsigns.errors" 187)),(21,21,(.str "turnsigns.errors" 187)),(22,22,(.str "turnsigns.errors" 187)),(29,29,(.str "turnsigns.tables" 451)),(41,41,(.str "law_turnsigns_k92_texts_that_write_none" 502)),(49,49,(.str "law_turnsigns_k92_texts_that_write_none" 502))] k (0,0,.none)
def hx3(P:Params)(k:Nat):Obj:=⟨(.type "dict"),none,.dict ⟨(he3 P (ht3 k).2.2).take (ht3 k).1⟩ (ht3 k).2.1,⟨[]⟩⟩
def b2E:List Value:=hL3 [(2,20),(4,33),(6,45),(8,57),(10,69),(12,81),(14,93),(16,105),(18,117),(20,129),(22,141),(24,153),(26,165),(28,177),(31,189),(33,194),(37,199),(41,206),(45,211),(49,218),(56,223),(62,229),(64,234),(70,241),(75,248),(79,255),(84,262),(93,267),(109,272),(119,277),(129,284),(131,289),(134,294),(146,299),(149,304),(155,309),(166,316),(188,323)]
def b2F(_:Params)(k:Nat):Obj:=⟨.none,none,.fields ⟨b2E.take (hnth [0,3,6,9,12,15,18,21,24,27,30,33,36,39,57,90,114] k 0)⟩,⟨[]⟩⟩
def b2G:List Value:=[(.ref 37),(.ref 49),(.ref 61),(.ref 73),(.ref 85),(.ref 97),(.ref 109),(.ref 121),(.ref 133),(.ref 145),(.ref 157),(.ref 169),(.ref 181)]
def b2H(_:Params)(k:Nat):Obj:=⟨(.type "type"),none,.cls ⟨"SignError",[(.type "ValueError")],[(.ref 24),(.type "ValueError"),(.type "Exception"),(.type "BaseException"),(.type "object")],23,"SignError",true,[],b2G.take (hnth [0,0,1,2,3,4,5,6,7,8,9,10,11,12,13,13,13] k 0),false,none,false⟩,⟨[(some (.ref 15)),none,(some (.str "SignError" 189)),(some (.str "SignError" 197)),(some (.builtin "ValueError.__new__")),(some (.bool true))]⟩⟩
def hO(P:Params)(k b:Nat):Obj:=match Nat.beq b 3 with|true=>hx3 P k|false=>match Nat.beq b 12 with|true=>b2F P k|false=>match Nat.beq b 24 with|true=>b2H P k|false=>hB P b
def hn(k:Nat):Nat:=hnth [15,28,40,52,64,76,88,100,112,124,136,148,160,172,213,279,325] k 0
noncomputable def hT (k:Nat) (P:Params):BT:=hmk (hO P k) (hn k) 12 1 0
def hV:Env:=hEnv PySem.Challenge.pw_turnsigns_k92_texts_that_write_none (.ref 13) 14
def hQ:Program:=hVw PySem.Challenge.pw_turnsigns_k92_texts_that_write_none [1,2,3,4,5,6,7,8,9,10,11,12,13,14,16,17,18,19,20,22,23,24,26,27,28,29,31,32,33,34,35,36,37,38,39,40,41,42,43,44]
def hA:List Nat:=[2,3,15,22,23,24,25,28,35,36,37,40,47,48,49,52,59,60,61,64,71,72,73,76,83,84,85,88,95,96,97,100,107,108,109,112,119,120,121,124,131,132,133,136,143,144,145,148,155,156,157,160,167,168,169,172,179,180,181,184,186,187,189,190,191,194,195,196,199,200,201,203,204,206,207,208,211,212,213,215,216,218,219,220,223,224,225,226,229,230,231,234,235,236,238,239,241,242,243,245,246,248,249,250,252,253,255,256,257,259,260,262,263,264,267,268,269,272,273,274,277,278,279,281,282,284,285,286,289,290,291,294,295,296,299,300,301,304,305,306,309,310,311,313,314,316,317,318,320,321,323,324]
def hK(P:Params):Frag:=hA.map fun a=>(a,hO P 16 a)
def hH(P:Params):Heap:=absHeap (hT 16 P) 325 {}
theorem htw:(hdep hT&&hdep hH&&hdep hV&&hdep hQ&&hdep hK&&hdep PySem.Challenge.pw_turnsigns_k92_texts_that_write_none)=true:=by k_qdec
abbrev hpw:=PySem.Challenge.pw_turnsigns_k92_texts_that_write_none
noncomputable abbrev fb:=PySem.W.Fast.tw14364793385576792824
noncomputable abbrev fp:=PySem.W.Fast.tw17898659529159255258
noncomputable abbrev ft:=PySem.W.Fast.tw5067323858360632050
noncomputable abbrev fv:=PySem.W.Fast.tw3747720366102438866
theorem b2I:hPre 11 (some (.ref 6)) 12 15 187 ⟨0,0,0,0⟩ ⟨0,0,0,0⟩ PySem.W.Fast.tw15667345088766844465 PySem.W.Fast.tw11892475500146522536 fb fp ft fv:=fun w=>by kernel_rfl
theorem hpre:hPre 11 (some (.ref 6)) 12 15 187 ⟨0,0,0,0⟩ ⟨0,0,0,0⟩ topGo denote treeTable PySem.Challenge.pw_turnsigns_k92_texts_that_write_none hT hV:=by rw[PySem.W.Fast.te15667345088766844465,PySem.W.Fast.te11892475500146522536,Yn,PySem.W.Fast.te17898659529159255258,PySem.W.Fast.te5067323858360632050,PySem.W.Fast.te3747720366102438866];exact b2I
theorem b2J:hBlk 11 (some (.ref 6)) 1 15 187 ⟨0,0,0,0⟩ ⟨0,0,0,0⟩ ⟨0,0,0,0⟩ PySem.W.Fast.tw14374325043358763698 fb fp ft fv:=fun w=>by kernel_rfl
theorem hblk:hBlk 11 (some (.ref 6)) 1 15 187 ⟨0,0,0,0⟩ ⟨0,0,0,0⟩ ⟨0,0,0,0⟩ segRun treeTable PySem.Challenge.pw_turnsigns_k92_texts_that_write_none hT hV:=by rw[PySem.W.Fast.te14374325043358763698,Yn,PySem.W.Fast.te17898659529159255258,PySem.W.Fast.te5067323858360632050,PySem.W.Fast.te3747720366102438866];exact b2J
theorem hsl{m0:Nat}{ann:Option Value}{n i j k n0 t0 n1 t1:Nat}{q q0 q1:Pos}(h:hPc m0 ann n i j k n0 t0 n1 t1 q q0 q1 PySem.W.Fast.tw10110043849684766642 fb fp ft fv):hPc m0 ann n i j k n0 t0 n1 t1 q q0 q1 segRunT treeTable PySem.Challenge.pw_turnsigns_k92_texts_that_write_none hT hV:=by rw[PySem.W.Fast.te10110043849684766642,Yn,PySem.W.Fast.te17898659529159255258,PySem.W.Fast.te5067323858360632050,PySem.W.Fast.te3747720366102438866];exact h
theorem hp0:hPc 11 (some (.ref 6)) 196 0 2 0 15 187 28 207 ⟨0,0,0,0⟩ ⟨0,0,0,0⟩ ⟨2,0,3,8⟩ segRunT treeTable hpw hT hV:=hsl fun w=>by kernel_rfl
theorem hp1:hPc 11 (some (.ref 6)) 214 2 1 1 28 207 40 223 ⟨0,0,0,0⟩ ⟨2,0,3,8⟩ ⟨4,0,5,8⟩ segRunT treeTable hpw hT hV:=hsl fun w=>by kernel_rfl
theorem hp2:hPc 11 (some (.ref 6)) 214 3 1 2 40 223 52 239 ⟨0,0,0,0⟩ ⟨4,0,5,8⟩ ⟨6,0,7,8⟩ segRunT treeTable hpw hT hV:=hsl fun w=>by kernel_rfl
theorem hp3:hPc 11 (some (.ref 6)) 214 4 1 3 52 239 64 255 ⟨0,0,0,0⟩ ⟨6,0,7,8⟩ ⟨8,0,9,8⟩ segRunT treeTable hpw hT hV:=hsl fun w=>by kernel_rfl
theorem hp4:hPc 11 (some (.ref 6)) 214 5 1 4 64 255 76 271 ⟨0,0,0,0⟩ ⟨8,0,9,8⟩ ⟨10,0,11,8⟩ segRunT treeTable hpw hT hV:=hsl fun w=>by kernel_rfl
theorem hp5:hPc 11 (some (.ref 6)) 214 6 1 5 76 271 88 287 ⟨0,0,0,0⟩ ⟨10,0,11,8⟩ ⟨12,0,13,8⟩ segRunT treeTable hpw hT hV:=hsl fun w=>by kernel_rfl
theorem hp6:hPc 11 (some (.ref 6)) 214 7 1 6 88 287 100 303 ⟨0,0,0,0⟩ ⟨12,0,13,8⟩ ⟨14,0,15,8⟩ segRunT treeTable hpw hT hV:=hsl fun w=>by kernel_rfl
theorem hp7:hPc 11 (some (.ref 6)) 214 8 1 7 100 303 112 319 ⟨0,0,0,0⟩ ⟨14,0,15,8⟩ ⟨16,0,17,8⟩ segRunT treeTable hpw hT hV:=hsl fun w=>by kernel_rfl
theorem hp8:hPc 11 (some (.ref 6)) 214 9 1 8 112 319 124 335 ⟨0,0,0,0⟩ ⟨16,0,17,8⟩ ⟨18,0,19,8⟩ segRunT treeTable hpw hT hV:=hsl fun w=>by kernel_rfl
theorem hp9:hPc 11 (some (.ref 6)) 214 10 1 9 124 335 136 351 ⟨0,0,0,0⟩ ⟨18,0,19,8⟩ ⟨20,0,21,8⟩ segRunT treeTable hpw hT hV:=hsl fun w=>by kernel_rfl
theorem b2K:hPc 11 (some (.ref 6)) 214 11 1 10 136 351 148 367 ⟨0,0,0,0⟩ ⟨20,0,21,8⟩ ⟨22,0,23,8⟩ segRunT treeTable hpw hT hV:=hsl fun w=>by kernel_rfl
theorem b2L:hPc 11 (some (.ref 6)) 214 12 1 11 148 367 160 383 ⟨0,0,0,0⟩ ⟨22,0,23,8⟩ ⟨24,0,25,8⟩ segRunT treeTable hpw hT hV:=hsl fun w=>by kernel_rfl
theorem b2M:hPc 11 (some (.ref 6)) 214 13 1 12 160 383 172 399 ⟨0,0,0,0⟩ ⟨24,0,25,8⟩ ⟨26,0,27,8⟩ segRunT treeTable hpw hT hV:=hsl fun w=>by kernel_rfl
theorem b2N:hPc 11 (some (.ref 6)) 379 14 9 13 172 399 213 455 ⟨0,0,0,0⟩ ⟨26,0,27,8⟩ ⟨48,0,48,13⟩ segRunT treeTable hpw hT hV:=hsl fun w=>by kernel_rfl
theorem b2O:hPc 11 (some (.ref 6)) 388 23 14 14 213 455 279 549 ⟨0,0,0,0⟩ ⟨48,0,48,13⟩ ⟨119,0,128,21⟩ segRunT treeTable hpw hT hV:=hsl (by unfold hPc;refine splitW "special-get-raises" fun b w=>?_;cases b<;>kernel_rfl)
theorem b2P:hPc 11 (some (.ref 6)) 234 37 8 15 279 549 325 616 ⟨0,0,0,0⟩ ⟨119,0,128,21⟩ ⟨188,0,203,15⟩ segRunT treeTable hpw hT hV:=hsl fun w=>by kernel_rfl
theorem b2Q:hFin 11 (some (.ref 6)) 2 16 325 616 ⟨0,0,0,0⟩ ⟨188,0,203,15⟩ PySem.W.Fast.tw14082659384304107361 fb fp ft fv:=fun w=>by kernel_rfl
theorem hfin:hFin 11 (some (.ref 6)) 2 16 325 616 ⟨0,0,0,0⟩ ⟨188,0,203,15⟩ topRun treeTable PySem.Challenge.pw_turnsigns_k92_texts_that_write_none hT hV:=by rw[PySem.W.Fast.te14082659384304107361,Yn,PySem.W.Fast.te17898659529159255258,PySem.W.Fast.te5067323858360632050,PySem.W.Fast.te3747720366102438866];exact b2Q
theorem hrun(w:World)(os:OsState):topRun treeTable PySem.Challenge.pw_turnsigns_k92_texts_that_write_none w 11 (some (.ref 6)) (Nat.add 12 (Nat.add 1 (Nat.add 196 (Nat.add 214 (Nat.add 214 (Nat.add 214 (Nat.add 214 (Nat.add 214 (Nat.add 214 (Nat.add 214 (Nat.add 214 (Nat.add 214 (Nat.add 214 (Nat.add 214 (Nat.add 214 (Nat.add 379 (Nat.add 388 (Nat.add 234 (2))))))))))))))))))) ⟨boot_heap w.params,⟨[]⟩,boot_drawn,boot_toks,os⟩ (topStub PySem.Challenge.pw_turnsigns_k92_texts_that_write_none)=some (SharedT.abs ⟨hT 16 w.params,325,{},⟨[]⟩,{},616,os⟩):=hgo hpre w os (hblkk hblk w os (hpcs hp0 w os (hpcs hp1 w os (hpcs hp2 w os (hpcs hp3 w os (hpcs hp4 w os (hpcs hp5 w os (hpcs hp6 w os (hpcs hp7 w os (hpcs hp8 w os (hpcs hp9 w os (hpcs b2K w os (hpcs b2L w os (hpcs b2M w os (hpcs b2N w os (hpcs b2O w os (hpcs b2P w os (hfin' (by kernel_rfl) hfin w os))))))))))))))))))
theorem b2R:hLk PySem.W.Fast.tw17898659529159255258 PySem.W.Fast.tw10045680756183396638 PySem.W.Fast.tw14765075321793050239 PySem.W.Fast.tw4237889219183248245 hA [319] 616 ["NUMBERS"]:=⟨fun _=>by kernel_rfl,fun _=>by kernel_rfl,fun _=>by kernel_rfl,fun _=>by kernel_rfl,fun _=>by kernel_rfl,fun _=>by kernel_rfl,fun _=>by kernel_rfl,fun _=>by kernel_rfl,fun _=>by kernel_rfl,fun _=>by kernel_rfl,fun _=>by kernel_rfl,fun _=>by kernel_rfl⟩
theorem hlk:hLk PySem.Challenge.pw_turnsigns_k92_texts_that_write_none hQ hH hK hA [319] 616 ["NUMBERS"]:=by rw[PySem.W.Fast.te17898659529159255258,PySem.W.Fast.te10045680756183396638,PySem.W.Fast.te14765075321793050239,PySem.W.Fast.te4237889219183248245];exact b2R
abbrev hHk:Hook:=kmHook hK hA (fun _=>by kernel_rfl) [319]
theorem hlf:LeftO PySem.Challenge.pw_turnsigns_k92_texts_that_write_none hQ ["NUMBERS"] (fun s=>xlAt hQ [] s&&recOk [] s) (Hook.obs hHk) (Hook.val hHk) 7624:=hleft (fun _=>by kernel_rfl) (by kernel_rfl) (fun _=>by kernel_rfl) (by decide) (by decide) hrun hlk
abbrev hDr:DefRec:=⟨"law",hsA (hS 44),hsB (hS 44),hsS (hS 44),hsP (hS 44)⟩
end
end K92
namespace L2
open PySem PySem.Spec PyProof.Rows
abbrev Key:=Sum Int Str
def a3c:Key->Value->Bool
 |.inl k,v=>Value.isInt k v
 |.inr x,v=>Value.isStrOf x v
def b2S(w:World):Key->Int
 |.inl k=>hashInt k
 |.inr x=>hashStr w x
theorem a1w:∀{k:Key}{v:Value},a3c k v=true->(∃i t,k=Sum.inl i/\v=Value.int i t)∨(∃x t,k=Sum.inr x/\v=Value.str x t)
 |.inl i,v,h=>by
  obtain⟨t,e⟩:=Value.isInt_shape (k:=i) (v:=v) h;exact .inl ⟨i,t,rfl,e⟩
 |.inr x,v,h=>by
  obtain⟨t,e⟩:=Value.isStrOf_shape (x:=x) (v:=v) h;exact .inr ⟨x,t,rfl,e⟩
theorem b2T(i:Int)(t:Tok):a3c (.inl i) (.int i t)=true:=by simp[a3c,Value.isInt]
theorem b2U(x:Str)(t:Tok):a3c (.inr x) (.str x t)=true:=by simp[a3c,Value.isStrOf]
theorem b2V(a b:Int):decide ((Sum.inl a:Key)=Sum.inl b)=(a==b):=by
 by_cases e:a=b
 ·subst e;simp
 ·have h:¬ (Sum.inl a:Key)=Sum.inl b:=fun q=>e (Sum.inl.inj q)
  rw[Zk h];exact(Qa.mpr e).symm
theorem b2W(a b:Str):decide ((Sum.inr a:Key)=Sum.inr b)=decide (a=b):=by
 by_cases e:a=b
 ·subst e;simp
 ·have h:¬ (Sum.inr a:Key)=Sum.inr b:=fun q=>e (Sum.inr.inj q)
  rw[Zk h,Zk e]
theorem b2X(a:Int)(b:Str):decide ((Sum.inl a:Key)=Sum.inr b)=false:=Zk (fun q=>nomatch q)
theorem b2Y(a:Str)(b:Int):decide ((Sum.inr a:Key)=Sum.inl b)=false:=Zk (fun q=>nomatch q)
def g9_(prog:Program)(w:World):PySem.KeyKind prog w Key where
 is:=a3c
 hash:=b2S w
 inj:=fun v a b ha hb=>by
  rcases a1w ha with⟨i,t,rfl,rfl⟩|⟨x,t,rfl,rfl⟩
  ·rcases a1w hb with⟨j,u,rfl,e⟩|⟨y,u,rfl,e⟩
   ·injection e with e1 _;rw[e1]
   ·exact nomatch e
  ·rcases a1w hb with⟨j,u,rfl,e⟩|⟨y,u,rfl,e⟩
   ·exact nomatch e
   ·injection e with e1 _;rw[e1]
 byValue:=fun k v h=>by
  rcases a1w h with⟨i,t,rfl,rfl⟩|⟨x,t,rfl,rfl⟩<;>rfl
 pyHash:=fun hv h=>by
  rcases a1w hv with⟨i,t,rfl,rfl⟩|⟨x,t,rfl,rfl⟩
  ·exact wpAny_pyHash_int h
  ·exact wpAny_pyHash_str h
 eqBool:=fun hu hv h=>by
  rcases a1w hu with⟨i,t,rfl,rfl⟩|⟨x,t,rfl,rfl⟩
  ·rcases a1w hv with⟨j,u,rfl,rfl⟩|⟨y,u,rfl,rfl⟩
   ·rw[b2V]at h;exact wpAny_eqBool_int h
   ·rw[b2X]at h;exact SeqAt.EqAt.int_str i t y u _ _ _ _ h
  ·rcases a1w hv with⟨j,u,rfl,rfl⟩|⟨y,u,rfl,rfl⟩
   ·rw[b2Y]at h;exact SeqAt.EqAt.str_int x t j u _ _ _ _ h
   ·rw[b2W]at h;exact wpAny_eqBool_str h
 «strs»:=fun k x t v h=>by
  rcases a1w h with⟨i,u,rfl,e⟩|⟨y,u,rfl,e⟩
  ·exact nomatch e
  ·injection e with e1 _
   subst e1;cases v<;>rfl
theorem b2Z(prog:Program)(w:World)(i:Int)(t:Tok):(g9_ prog w).is (.inl i) (.int i t)=true:=b2T i t
theorem b3a(prog:Program)(w:World)(x:Str)(t:Tok):(g9_ prog w).is (.inr x) (.str x t)=true:=b2U x t
inductive V where
 |non|bl (b:Bool)|int (i:Int)|str (x:Str)|byt (b:Array UInt8)|flt (b:UInt64)|ref (a:Addr)|ty (n:String)
 deriving DecidableEq
def q9_:V->Value->Prop
 |.non,u=>u=Value.none
 |.bl b,u=>u=Value.bool b
 |.int i,u=>∃t,u=Value.int i t
 |.str x,u=>∃t,u=Value.str x t
 |.byt b,u=>∃t,u=Value.bytes b t
 |.flt b,u=>∃t,u=Value.float b t
 |.ref a,u=>u=Value.ref a
 |.ty n,u=>u=Value.type n
abbrev q3_:List V->List Value->Prop:=Paired q9_
theorem q3_.length{xs:List V}{us:List Value}(r:q3_ xs us):xs.length=us.length:=Paired.length r
theorem q3_.get:∀{xs:List V}{us:List Value}{i:Nat}{x:V},q3_ xs us->xs[i]? =some x->∃u,us[i]? =some u/\q9_ x u
 |_,_,_,_,.nil,e=>by simp at e
 |_,_,0,_,.cons r _,e=>by simp at e;subst e;exact⟨_,rfl,r⟩
 |_,_,i+1,x,.cons _ t,e=>by
  obtain⟨u,h1,h2⟩:=q3_.get (i:=i) (x:=x) t (by simpa using e)
  exact⟨u,by simpa using h1,h2⟩
theorem q3_.set{x:V}{u:Value}(r:q9_ x u):∀{xs:List V}{us:List Value}(i:Nat),q3_ xs us->q3_ (xs.set i x) (us.set i u)
 |_,_,_,.nil=>.nil
 |_,_,0,.cons _ t=>.cons r t
 |_,_,i+1,.cons q t=>.cons q (q3_.set r i t)
theorem q3_.append:∀{xs ys:List V}{us ws:List Value},q3_ xs us->q3_ ys ws->q3_ (xs++ys) (us++ws)
 |_,_,_,_,.nil,s=>s
 |_,_,_,_,.cons r t,s=>.cons r (q3_.append t s)
theorem q3_.take:∀{xs:List V}{us:List Value}(n:Nat),q3_ xs us->q3_ (xs.take n) (us.take n)
 |_,_,0,_=>.nil
 |_,_,_+1,.nil=>.nil
 |_,_,n+1,.cons r t=>.cons r (q3_.take n t)
theorem q3_.drop:∀{xs:List V}{us:List Value}(n:Nat),q3_ xs us->q3_ (xs.drop n) (us.drop n)
 |_,_,0,r=>r
 |_,_,_+1,.nil=>.nil
 |_,_,n+1,.cons _ t=>q3_.drop n t
def a0m:Option V->Option Value->Prop
 |some v,some u=>q9_ v u
 |none,none=>True
 |_,_=>False
def KV{κ:Type}:List (κ×V)->List (κ×Value)->Prop:=Paired fun(p:κ×V) (q:κ×Value)=>p.1=q.1/\q9_ p.2 q.2
def kV:Key->V
 |.inl i=>.int i
 |.inr x=>.str x
inductive HO where
 |lst (xs:List V)
 |tup (xs:List V)
 |dK (kvs:List (Key×V))|dT (C:Addr->List Key->Prop) (kvs:List (List Key×V))
 |set (S:Int->Bool) (n:Nat)
 |ins (C dx:Addr) (fs:List (Str×V))
 |own (x:Addr)
 |xd (fs:List (Str×V))
 |met (f x:Addr)
 |rng (lo hi:Int)
 |frz (o:Obj) (u:HO)
 |tbl (ps:Array Value)
 |ext (φ:Heap->Prop)
abbrev Hp:=Addr->Option HO
def upd(H:Hp)(a:Addr)(o:HO):Hp:=fun b=>if b=a then some o else H b
theorem y3_{H:Hp}{a:Addr}{o:HO}:upd H a o a=some o:=by unfold upd;rw[Qn rfl]
theorem q4_{H:Hp}{a b:Addr}{o:HO}(h:b≠a):upd H a o b=H b:=by unfold upd;rw[Qr h]
theorem a8H{H:Hp}{a:Addr}{o u:HO}:upd (upd H a o) a u=upd H a u:=by
 funext b;unfold upd;split<;>rfl
theorem w1_{H:Hp}{a b:Addr}{o:HO}(h:H a=some o)(h':H b=none):a≠b:=by
 intro e;subst e;rw[h]at h';cases h'
def a0P(h:Heap)(a:Addr)(items:Array Value):Prop:=∃o,h.get? a=some o/\o.cls=.type "tuple"/\o.dict=none/\∃n,o.data=.seq items n
theorem a0P.tup{h:Heap}{a:Addr}{items:Array Value}:a0P h a items->IsTup h a items:=fun⟨o,e,c,_,d⟩=>⟨o,e,c,d⟩
theorem a0P.lt{h:Heap}{a:Addr}{items:Array Value}(p:a0P h a items):a<h.objs.size:=p.tup.lt
theorem a0P.new(h:Heap)(items:Array Value):a0P (h.push {cls:=.type "tuple",data:=.seq items}) h.objs.size items:=⟨_,Qh _ rfl,rfl,rfl,_,rfl⟩
section
variable(P:Program)(w:World)
def x5_(H:Hp)(h:Heap)(a:Addr):HO->Prop
 |.lst xs=>xs.length≤sizeLine/\∃(its:List Value) (n:Nat),q3_ xs its/\h.get? a=some {cls:=.type "list",data:=.seq its.toArray n}
 |.tup xs=>xs.length≤sizeLine/\∃its:List Value,q3_ xs its/\a0P h a its.toArray
 |.dK kvs=>kvs.length≤sizeLine/\(a==sysModules)=false/\∃vs,KV kvs vs/\h.DictOf (g9_ P w) a vs
 |.dT C kvs=>kvs.length≤sizeLine/\(a==sysModules)=false/\∃xs:List (List Key×Addr×Value),
   Paired (fun(p:List Key×V) (q:List Key×Addr×Value)=>p.1=q.1/\(H q.2.1=some (.tup (p.1.map kV))∨C q.2.1 p.1)/\q9_ p.2 q.2.2) kvs xs/\
   ∃o es ep,h.get? a=some o/\o.ExactDict/\o.data=.dict es ep/\es.toList=xs.map (entryOfKey (tupleKind (g9_ P w)))/\(xs.map (·.1)).Nodup
 |.set S n=>h.SetOf (intKind P w) a S n
 |.ins C dx fs=>H dx=some (.own a)/\fs.length≤1000/\dx≠a/\h.get? a=some (PySem.W.instObj C dx)/\
   ∃mA,h.Ns1 dx mA/\(∀f,a0m (fs.lookup f) (mA f))/\PySem.Within mA (fs.map (·.1))
 |.own _=>∃o,h.get? a=some o
 |.xd fs=>∃mA,h.Ns1 a mA/\∀f,a0m (fs.lookup f) (mA f)
 |.rng lo hi=>∃t u v,h.get? a=some {cls:=.type "range",data:=.fields #[.int lo t,.int hi u,.int 1 v]}
 |.frz o u=>h.get? a=some o/\x5_ H h a u
 |.tbl ps=>h.get? a=some {cls:=.none,data:=.fields ps}
 |.met f x=>h.get? a=some (PySem.W.methodObj (.ref f) (.ref x))
 |.ext φ=>φ h/\(∃o,h.get? a=some o)/\∀h1 h2:Heap,φ h1->(∀o,h1.get? a=some o->h2.get? a=some o)->φ h2
def HOk(H:Hp)(h:Heap):Prop:=∀a o,H a=some o->x5_ P w H h a o
end
section
variable{P:Program}{w:World}{H H':Hp}{h h':Heap}{a:Addr}{o:HO}
theorem x5_.lt(x:x5_ P w H h a o):a<h.objs.size:=by
 cases o with
 |lst xs=>obtain⟨_,_,_,_,e⟩:=x;exact Qu e
 |tup xs=>obtain⟨_,_,_,p⟩:=x;exact p.lt
 |dK kvs=>obtain⟨_,_,_,_,o,_,_,e,_⟩:=x;exact Qu e
 |dT C kvs=>obtain⟨_,_,_,_,o,_,_,e,_⟩:=x;exact Qu e
 |set S n=>obtain⟨o,_,_,_,e,_⟩:=x;exact Qu e
 |ins C dx fs=>obtain⟨_,_,_,e,_⟩:=x;exact Qu e
 |own y=>obtain⟨_,e⟩:=x;exact Qu e
 |xd fs=>obtain⟨_,⟨_,_,_,e,_⟩,_⟩:=x;exact Qu e
 |rng lo hi=>obtain⟨_,_,_,e⟩:=x;exact Qu e
 |frz ob u=>obtain⟨e,_⟩:=x;exact Qu e
 |tbl ps=>exact Qu (show h.get? a=some _ from x)
 |met f y=>exact Qu (show h.get? a=some _ from x)
 |ext φ=>obtain⟨_,⟨_,e⟩,_⟩:=x;exact Qu e
theorem Paired.mapP{α β:Type}{F G:α->β->Prop}:∀{l₁:List α}{l₂:List β},Paired F l₁ l₂->(∀a b,F a b->G a b)->Paired G l₁ l₂
 |_,_,.nil,_=>.nil
 |_,_,.cons r t,f=>.cons (f _ _ r) (Paired.mapP t f)
theorem x5_.stay(x:x5_ P w H h a o)(k:∀b u,(b=a∨H b=some (.own a))->h.get? b=some u->h'.get? b=some u)
  (ho:∀b,H b=some (.own a)->H' b=some (.own a))(ht:∀b xs,H b=some (.tup xs)->H' b=some (.tup xs)):x5_ P w H' h' a o:=by
 induction o with
 |lst xs=>obtain⟨z,its,n,r,e⟩:=x;exact⟨z,its,n,r,k _ _ (.inl rfl) e⟩
 |tup xs=>obtain⟨z,its,r,ob,e,c⟩:=x;exact⟨z,its,r,ob,k _ _ (.inl rfl) e,c⟩
 |dK kvs=>obtain⟨z,y,vs,r,ob,es,ep,e,c⟩:=x;exact⟨z,y,vs,r,ob,es,ep,k _ _ (.inl rfl) e,c⟩
 |dT C kvs=>
  obtain⟨z,y,xs,r,ob,es,ep,e,c⟩:=x;exact⟨z,y,xs,Paired.mapP r fun p q z=>⟨z.1,z.2.1.imp (ht _ _) id,z.2.2⟩,ob,es,ep,k _ _ (.inl rfl) e,c⟩
 |set S n=>obtain⟨ob,es,ep,t,e,c⟩:=x;exact⟨ob,es,ep,t,k _ _ (.inl rfl) e,c⟩
 |ins C dx fs=>
  obtain⟨d,z,ne,e,mA,⟨od,es,ep,e2,c⟩,r⟩:=x;exact⟨ho _ d,z,ne,k _ _ (.inl rfl) e,mA,⟨od,es,ep,k _ _ (.inr d) e2,c⟩,r⟩
 |own y=>obtain⟨ob,e⟩:=x;exact⟨ob,k _ _ (.inl rfl) e⟩
 |xd fs=>obtain⟨mA,⟨od,es,ep,e,c⟩,r⟩:=x;exact⟨mA,⟨od,es,ep,k _ _ (.inl rfl) e,c⟩,r⟩
 |rng lo hi=>obtain⟨t,u,v,e⟩:=x;exact⟨t,u,v,k _ _ (.inl rfl) e⟩
 |frz ob u ih=>obtain⟨e,q⟩:=x;exact⟨k _ _ (.inl rfl) e,ih q⟩
 |tbl ps=>
  have e:h.get? a=some {cls:=.none,data:=.fields ps}:=x
  show h'.get? a=some {cls:=.none,data:=.fields ps};exact k a _ (.inl rfl) e
 |met f y=>
  have e:h.get? a=some (PySem.W.methodObj (.ref f) (.ref y)):=x
  show h'.get? a=some (PySem.W.methodObj (.ref f) (.ref y));exact k a _ (.inl rfl) e
 |ext φ=>obtain⟨p,⟨o,e⟩,st⟩:=x;exact⟨st _ _ p fun o q=>k _ _ (.inl rfl) q,⟨o,k _ _ (.inl rfl) e⟩,st⟩
theorem HOk.lt(x:HOk P w H h)(e:H a=some o):a<h.objs.size:=(x a o e).lt
theorem HOk.fresh(x:HOk P w H h)(e:h.objs.size≤a):H a=none:=by
 cases q:H a with
 |none=>rfl
 |some u=>exact absurd (Ql (x.lt q) e) (Yh _)
theorem HOk.kept(x:HOk P w H h)(k:∀b u,h.get? b=some u->h'.get? b=some u):HOk P w H h':=fun a o e=>
 (x a o e).stay (fun b u _ q=>k b u q) (fun _ q=>q) fun _ _ q=>q
theorem HOk.laid(x:HOk P w H h)(k:∀b u,h.get? b=some u->h'.get? b=some u)(hp:h.objs.size≤a)(new:x5_ P w (upd H a o) h' a o):HOk P w (upd H a o) h':=fun b u e=>by
 have hn:=x.fresh hp
 by_cases hb:b=a
 ·subst hb;rw[y3_]at e;cases e;exact new
 ·rw[q4_ hb]at e
  exact(x b u e).stay (fun c v _ q=>k c v q) (fun c q=>by rw[q4_ (w1_ q hn)];exact q) fun c xs q=>by rw[q4_ (w1_ q hn)];exact q
end
def Rd(H:Hp)(a:Addr)(u:HO):Prop:=H a=some u∨ ∃o,H a=some (.frz o u)
theorem Rd.of{H:Hp}{a:Addr}{u:HO}(h:H a=some u):Rd H a u:=.inl h
theorem Rd.ok{P:Program}{w:World}{H:Hp}{h:Heap}{a:Addr}{u:HO}(r:Rd H a u)(x:HOk P w H h):x5_ P w H h a u:=by
 rcases r with r|⟨o,r⟩
 ·exact x a u r
 ·obtain⟨_,q⟩:=x a _ r
  exact q
def Mut:Option HO->Prop
 |some (.lst _)=>True
 |some (.dK _)=>True
 |some (.dT _ _)=>True
 |some (.set _ _)=>True
 |some (.ins _ _ _)=>True
 |some (.ext _)=>True
 |_=>False
section
variable{P:Program}{w:World}{H:Hp}{h h':Heap}{x e:Addr}{o':HO}
theorem HOk.write(ok:HOk P w H h)(mu:Mut (H x))(he:e=x∨H e=some (.own x))(k:∀b u,b≠e->h.get? b=some u->h'.get? b=some u)(heo:∃u,h'.get? e=some u)
  (new:x5_ P w (upd H x o') h' x o'):HOk P w (upd H x o') h':=fun b u q=>by
 have nown:∀c y,H c=some (.own y)->c≠x:=fun c y r z=>by subst z;rw[r]at mu;exact mu
 have ntup:∀c xs,H c=some (.tup xs)->c≠x:=fun c xs r z=>by subst z;rw[r]at mu;exact mu
 by_cases hb:b=x
 ·subst hb;rw[y3_]at q;cases q;exact new
 ·rw[q4_ hb]at q
  by_cases hbe:b=e
  ·have q':H b=some (.own x):=by
    rcases he with z|z
    ·exact absurd (hbe.trans z) hb
    ·rw[hbe];exact z
   rw[q]at q';cases q';obtain⟨v,hv⟩:=heo;exact⟨v,by rw[hbe];exact hv⟩
  ·refine(ok b u q).stay (fun c v hc r=>k c v ?_ r) (fun c r=>by rw[q4_ (nown c b r)];exact r) fun c xs r=>by rw[q4_ (ntup c xs r)];exact r
   rcases hc with rfl|hc
   ·exact hbe
   ·rintro rfl
    rcases he with z|z
    ·exact nown c b hc z
    ·rw[hc]at z;cases z;exact hb rfl
end
structure Un(fs ex:List Addr)(H H':Hp)(h h':Heap):Prop where
 keep:∀b o,h.get? b=some o->H b=none->b∉fs->b∉ex->h'.get? b=some o
 slot:∀b o,h.get? b=some o->H b=none->b∈fs->b∉ex->∃sl,h'.get? b=some {o with slots:=sl}
 free:∀b o,h.get? b=some o->H b=none->b∉ex->H' b=none
 there:∀b o,h.get? b=some o->b∉ex->∃o',h'.get? b=some o'
 tups:∀b xs,H b=some (.tup xs)->H' b=some (.tup xs)
 frzs:∀b o u,H b=some (.frz o u)->H' b=some (.frz o u)
 tbls:∀b ps,H b=some (.tbl ps)->∃more,H' b=some (.tbl (ps++more))
section
variable{fs fs' ex ex':List Addr}{H H1 H2:Hp}{h h1 h2 h':Heap}{a x e:Addr}{o:HO}
theorem Un.any(u:Un fs ex H H1 h h1){b:Addr}{ob:Obj}(q:h.get? b=some ob)(n:H b=none)(hx:b∉ex):∃sl,h1.get? b=some {ob with slots:=sl}:=by
 by_cases hb:b∈fs
 ·exact u.slot b ob q n hb hx
 ·exact⟨ob.slots,u.keep b ob q n hb hx⟩
theorem Un.trans(a:Un fs ex H H1 h h1)(b:Un fs ex H1 H2 h1 h2):Un fs ex H H2 h h2 where
 keep:=fun c ob q n hc hx=>b.keep c ob (a.keep c ob q n hc hx) (a.free c ob q n hx) hc hx
 slot:=fun c ob q n hc hx=>by
  obtain⟨sl,e1⟩:=a.slot c ob q n hc hx;obtain⟨sl',e2⟩:=b.slot c _ e1 (a.free c ob q n hx) hc hx;exact⟨sl',e2⟩
 free:=fun c ob q n hx=>by
  obtain⟨o',e1⟩:=a.there c ob q hx;exact b.free c o' e1 (a.free c ob q n hx) hx
 there:=fun c ob q hx=>by
  obtain⟨o',e1⟩:=a.there c ob q hx;exact b.there c o' e1 hx
 tups:=fun c xs q=>b.tups c xs (a.tups c xs q)
 frzs:=fun c ob xs q=>b.frzs c ob xs (a.frzs c ob xs q)
 tbls:=fun c ps q=>by
  obtain⟨m1,e1⟩:=a.tbls c ps q;obtain⟨m2,e2⟩:=b.tbls c _ e1;exact⟨m1++m2,by rw[e2,Ve]⟩
theorem Un.kept(k:∀b u,h.get? b=some u->h'.get? b=some u):Un fs ex H H h h':=
 ⟨fun b ob q _ _ _=>k b ob q,fun b ob q _ _ _=>⟨ob.slots,k b ob q⟩,fun _ _ _ n _=>n,fun b ob q _=>⟨ob,k b ob q⟩,fun _ _ q=>q,fun _ _ _ q=>q,fun _ ps q=>⟨#[],by rw[q];simp⟩⟩
theorem Un.refl:Un fs ex H H h h:=Un.kept fun _ _ q=>q
theorem Un.laid(k:∀b u,h.get? b=some u->h'.get? b=some u)(hp:h.objs.size≤a)(hn:H a=none):Un fs ex H (upd H a o) h h' where
 keep:=fun b u q _ _ _=>k b u q
 slot:=fun b u q _ _ _=>⟨u.slots,k b u q⟩
 free:=fun b u q n _=>by rw[q4_ (Qi (Ql (Qu q) hp))];exact n
 there:=fun b u q _=>⟨u,k b u q⟩
 tups:=fun b xs q=>by rw[q4_ (w1_ q hn)];exact q
 frzs:=fun b u xs q=>by rw[q4_ (w1_ q hn)];exact q
 tbls:=fun b ps q=>⟨#[],by rw[q4_ (w1_ q hn),q];simp⟩
theorem Un.write(mu:Mut (H x))(he:e=x∨H e=some (.own x))(k:∀b u,b≠e->h.get? b=some u->h'.get? b=some u)(heo:∃u,h'.get? e=some u):Un fs ex H (upd H x o) h h':=by
 have hx:∀b,H b=none->b≠x:=fun b n z=>by subst z;rw[n]at mu;exact mu
 have hb:∀b,H b=none->b≠e:=fun b n z=>by
  subst z
  rcases he with r|r
  ·exact hx b n r
  ·rw[n]at r;cases r
 have hm:∀b u,H b=some u-> ¬ Mut (some u)->b≠x:=fun b u q nm z=>by subst z;rw[q]at mu;exact nm mu
 refine⟨fun b u q n _ _=>k b u (hb b n) q,fun b u q n _ _=>⟨u.slots,k b u (hb b n) q⟩,fun b u q n _=>by rw[q4_ (hx b n)];exact n,fun b u q _=>?_,
  fun b xs q=>by rw[q4_ (hm b _ q fun z=>z)];exact q,fun b u xs q=>by rw[q4_ (hm b _ q fun z=>z)];exact q,fun b ps q=>⟨#[],by rw[q4_ (hm b _ q fun z=>z),q];simp⟩⟩
 by_cases hbe:b=e
 ·subst hbe;exact heo
 ·exact⟨u,k b u hbe q⟩
theorem Un.mono(u:Un fs ex H H1 h h1)(hs:∀b∈fs,b∈fs')(hx:∀b∈ex,b∈ex'):Un fs' ex' H H1 h h1:=
 ⟨fun b ob q n hb he=>u.keep b ob q n (fun z=>hb (hs b z)) fun z=>he (hx b z),fun _ _ q n _ he=>u.any q n fun z=>he (hx _ z),fun b ob q n he=>u.free b ob q n fun z=>he (hx b z),fun b ob q he=>u.there b ob q fun z=>he (hx b z),u.tups,u.frzs,u.tbls⟩
end
def trk(h:Heap)(H:Hp):List Addr:=(List.range h.objs.size).filter fun a=>(H a).isSome
def a1d(h:Heap)(H:Hp):Heap:=PySem.W.hideAll h (trk h H)
theorem b3b(h:Heap)(H:Hp):(a1d h H).objs.size=h.objs.size:=PySem.W.hideAll_size _ _
theorem b3c{h:Heap}{H:Hp}{b:Addr}{o:Obj}(e:h.get? b=some o)(n:H b=none):(a1d h H).get? b=some o:=
 Jy _ e fun hm=>by
  have q:(H b).isSome=true:=(List.mem_filter.mp hm).2
  rw[n]at q;simp at q
theorem b3d{h:Heap}{H:Hp}{b:Addr}{o:Obj}(e:(a1d h H).get? b=some o):h.get? b=some o/\H b=none:=by
 have e':h.get? b=some o:=PySem.W.of_hideAll (trk h H) e
 refine⟨e',?_⟩;cases q:H b with
 |none=>rfl
 |some x=>
  have hm:b∈trk h H:=List.mem_filter.mpr ⟨Yy.mpr (Qu e'),by simp[q]⟩
  have z:(a1d h H).get? b=none:=PySem.W.hideAll_none (trk h H) hm
  rw[z]at e;cases e
def a3W(g h:Heap)(L:Addr):OX:=(List.range h.objs.size).filterMap fun a=>if a=L∨(g.get? a).isSome=true then none else(h.get? a).map fun o=>(a,o)
theorem a8I{g h:Heap}{L a:Addr}{o:Obj}(h1:a≠L)(h2:g.get? a=none)(h3:h.get? a=some o):(a,o)∈a3W g h L:=
 Ys.mpr ⟨a,Yy.mpr (Qu h3),by simp[h1,h2,h3]⟩
theorem b3e{g h:Heap}{L:Addr}{p:Addr×Obj}(hp:p∈a3W g h L):p.1≠L/\g.get? p.1=none/\h.get? p.1=some p.2:=by
 obtain⟨b,_,e⟩:=Ys.mp hp;split at e
 ·cases e
 ·rename_i hn
  cases q:h.get? b with
  |none=>rw[q]at e;simp at e
  |some u=>
   rw[q]at e;simp only[Xg,Zl]at e;subst e;refine⟨fun z=>hn (.inl z),?_,q⟩
   show g.get? b=none;cases r:g.get? b with
   |none=>rfl
   |some v=>exact(hn (.inr (by simp[r]))).elim
def rest(g h:Heap)(L d:Addr):OX:=(a3W g h L).filter fun p=>decide (p.1≠d)
theorem a8J{g h:Heap}{L:Addr}:News g L h (a3W g h L):=fun p hp=>let ⟨a,b,c⟩:=b3e hp;⟨c,a,b⟩
structure Mod(K:Qq)(mg:OU)(base:Heap):Prop where
 kin:K.In base
 glob:base.Ns mainGlobals mg
 blt:∃mb,base.Ns builtinsNs mb/\∀x:Str,x≠"__name__"->mb x=bootBuiltins x
 nolimit:base.NoLimit
structure Cx where
 prog:Program
 w:World
 K:Qq
 mg:OU
 base:Heap
 A:Around
 N:List Str
 s₀:Shared
 H₀:Hp
 env:Env
 outer:List Env
 stack:List Env
 ex:List Addr
 fn:Str->Bool
 calm:Bool
 pn:OX
 xe:OE
def frs(l:List Env):List Addr:=l.filterMap (·.frame)
abbrev Cx.fs(X:Cx):List Addr:=frs X.outer
def Vis(sc:Scope)(x:Str):Prop:=sc.names.lookup x=some .local∨sc.names.lookup x=some .cell∨sc.names.lookup x=some .free
def Loc(sc:Scope)(x:Str):Prop:=sc.names.lookup x=some .local∨sc.names.lookup x=some .cell
def a8K(env:Env)(h:Heap)(m:OU)(x:Str)(u:Value):Prop:=
 (env.kindOf x=some .local/\m x=some u)∨((env.kindOf x=some .cell∨env.kindOf x=some .free)/\∃c,env.cells.lookup x=some c/\h.IsCell c (some u))
structure Cx.Ok(X:Cx):Prop where
 mod:Mod X.K X.mg X.base
 kind:X.env.scope.kind=.function
 glob:X.env.globals=mainGlobals
 blt:X.env.builtins=builtinsNs
 above:X.s₀.heap.objs.size≤X.env.locals
 inj:∀x y c,X.env.cells.lookup x=some c->X.env.cells.lookup y=some c->x=y
 has:∀x,(X.env.kindOf x=some .cell∨X.env.kindOf x=some .free)->∃c,X.env.cells.lookup x=some c
 cab:∀x c,X.fn x=true->X.env.cells.lookup x=some c->X.s₀.heap.objs.size≤c
 hd:X.calm=true->X.A.handled=none
 frames:X.A.frames=some X.stack
 stk:X.stack=X.outer∨(X.stack=X.env::X.outer/\X.env.frame=some X.env.locals)
 exf:∀b∈X.ex,b≠X.env.locals/\∀x c,X.env.cells.lookup x=some c->c≠b
 bs:∀b o,X.base.get? b=some o->X.s₀.heap.get? b=some o/\X.H₀ b=none
 bsz:X.base.objs.size≤X.s₀.heap.objs.size
 noex:∀b o,X.base.get? b=some o->b∉X.ex
 exfs:∀b∈X.ex,b∉X.fs
 funs:X.s₀.heap.FunFrames X.base X.outer
 frf:∀b∈X.fs,X.H₀ b=none
structure Inv(X:Cx)(pins:OX)(σ:List (Option V))(H:Hp)(s:Shared):Prop where
 ok:X.Ok
 os:s.os=X.s₀.os
 bare:AllBare s.gens
 base:Un X.fs X.ex X.H₀ H X.s₀.heap s.heap
 loc:∃m,s.heap.Ns X.env.locals m/\∀(i:Nat) (x:Str) (v:V),X.N[i]? =some x->σ[i]? =some (some v)->Vis X.env.scope x->∃u,q9_ v u/\a8K X.env s.heap m x u
 cell:∀x c,X.env.cells.lookup x=some c->∃v,s.heap.IsCell c v
 free:H X.env.locals=none
 freeC:∀x c,X.env.cells.lookup x=some c->H c=none
 pin:∀p∈X.pn++pins,s.heap.get? p.1=some p.2/\H p.1=none/\p.1≠X.env.locals/\p.1∉X.fs/\∀v,p.2.data≠.cell v
 hok:HOk X.prog X.w H s.heap
 len:σ.length=X.N.length
section
variable{X:Cx}{pins:OX}{σ:List (Option V)}{H H':Hp}{s:Shared}{h':Heap}
theorem Cx.Ok.nofr(ok:X.Ok){b:Addr}{o:Obj}(e:X.base.get? b=some o):b∉X.fs:=fun hb=>by
 have:=(ok.funs.mem hb).1;rw[e]at this;cases this
theorem Inv.bs(I:Inv X pins σ H s):∀b o,X.base.get? b=some o->s.heap.get? b=some o/\H b=none:=fun b o e=>
 ⟨I.base.keep b o (I.ok.bs b o e).1 (I.ok.bs b o e).2 (I.ok.nofr e) (I.ok.noex b o e),I.base.free b o (I.ok.bs b o e).1 (I.ok.bs b o e).2 (I.ok.noex b o e)⟩
theorem Inv.bk(I:Inv X pins σ H s):∀b o,X.base.get? b=some o->s.heap.get? b=some o:=fun b o e=>(I.bs b o e).1
theorem Inv.mod(I:Inv X pins σ H s):Mod X.K X.mg X.base:=I.ok.mod
theorem Inv.kIn(I:Inv X pins σ H s):X.K.In s.heap:=I.ok.mod.kin.keeps I.bk
theorem Inv.nolimit(I:Inv X pins σ H s):s.heap.NoLimit:=I.ok.mod.nolimit.keeps I.bk
theorem Inv.fr(I:Inv X pins σ H s):∃m,Fr X.base X.env.locals s.heap m:=
 let ⟨m,hn,_⟩:=I.loc
 ⟨m,hn,I.bk,Qt I.ok.bsz I.ok.above⟩
theorem Inv.lt(I:Inv X pins σ H s):X.env.locals<s.heap.objs.size:=let ⟨_,hn,_⟩:=I.loc;hn.lt
theorem Inv.sz(I:Inv X pins σ H s):X.s₀.heap.objs.size≤s.heap.objs.size:=Qt I.ok.above (Ye I.lt)
theorem Inv.nofs(I:Inv X pins σ H s){a:Addr}(h:s.heap.objs.size≤a):a∉X.fs:=fun hb=>by
 obtain⟨_,o,ho,_⟩:=I.ok.funs.mem hb;exact absurd (Ql (Qu ho) (Qt I.sz h)) (Yh _)
theorem Inv.cne(I:Inv X pins σ H s):∀x c,X.env.cells.lookup x=some c->c≠X.env.locals:=fun x c e z=>by
 obtain⟨v,o,ho,hd⟩:=I.cell x c e;obtain⟨m,⟨o',es,ep,ho',hd',_⟩,_⟩:=I.loc;rw[z,ho']at ho;cases ho;rw[hd']at hd;cases hd
theorem Inv.funs(I:Inv X pins σ H s):s.heap.FunFrames X.base X.outer:=by
 have all:∀(l:List Env),(∀b∈frs l,b∈X.fs)->X.s₀.heap.FunFrames X.base l->s.heap.FunFrames X.base l:=by
  intro l
  induction l with
  |nil=>intro _ _;trivial
  |cons env r ih=>
   intro hs hl;obtain⟨hk,⟨L,o,hf,hn,ho,hd⟩,hr⟩:=hl;have hL:L∈X.fs:=hs L (by unfold frs;rw[Ud,hf];exact Zz)
   obtain⟨sl,e⟩:=I.base.slot L o ho (I.ok.frf L hL) hL fun z=>I.ok.exfs L z hL
   exact⟨hk,⟨L,_,hf,hn,e,hd⟩,ih (fun b hb=>hs b (by unfold frs;rw[Ud,hf];exact Qe _ hb)) hr⟩
 exact all X.outer (fun _ hb=>hb) I.ok.funs
theorem Inv.stack(I:Inv X pins σ H s):s.heap.FunFrames X.base X.stack:=by
 rcases I.ok.stk with e|⟨e,hf⟩
 ·rw[e];exact I.funs
 ·rw[e]
  obtain⟨m,hn,_⟩:=I.loc;refine .cons (by rw[I.ok.kind];decide) hf hn ?_ I.funs
  exact Heap.get?_none_of_le (Qt I.ok.bsz I.ok.above)
theorem Inv.stkSub(I:Inv X pins σ H s):∀b∈frs X.stack,b∈X.env.locals::X.fs:=fun b hb=>by
 rcases I.ok.stk with e|⟨e,hf⟩
 ·rw[e]at hb;exact Qe _ hb
 ·rw[e]at hb
  unfold frs at hb;rw[Ud,hf]at hb;exact hb
theorem Inv.stkFree(I:Inv X pins σ H s):∀b∈frs X.stack,H b=none:=fun b hb=>by
 rcases Qm.mp (I.stkSub b hb)with e|hb
 ·rw[e];exact I.free
 ·obtain⟨_,o,ho,_⟩:=I.ok.funs.mem hb
  exact I.base.free b o ho (I.ok.frf b hb) fun z=>I.ok.exfs b z hb
theorem Inv.step{g':Array GenState}{t':Nat}{d':Drawn}{ch:List Addr}(I:Inv X pins σ H s)
  (hch:∀b∈ch,(b∈X.ex∨X.s₀.heap.objs.size≤b)/\b≠X.env.locals/\(∀x c,X.env.cells.lookup x=some c->c≠b)/\∀p∈X.pn++pins,p.1≠b)
  (keep:∀b o,b≠X.env.locals->b∉X.fs->b∉ch->s.heap.get? b=some o->H b=none->h'.get? b=some o)
  (slot:∀b o,b≠X.env.locals->b∈X.fs->b∉ch->s.heap.get? b=some o->H b=none->∃sl,h'.get? b=some {o with slots:=sl})(free:∀b o,b∉ch->s.heap.get? b=some o->H b=none->H' b=none)
  (there:∀b o,b∉ch->s.heap.get? b=some o->∃o',h'.get? b=some o')
  (tups:∀b xs,H b=some (.tup xs)->H' b=some (.tup xs))(frzs:∀b o u,H b=some (.frz o u)->H' b=some (.frz o u))(tbls:∀b ps,H b=some (.tbl ps)->∃more,H' b=some (.tbl (ps++more)))
  (ns:∀m,s.heap.Ns X.env.locals m->h'.Ns X.env.locals m)(hok:HOk X.prog X.w H' h')(hg:AllBare g'):
  Inv X pins σ H' {s with heap:=h',gens:=g',drawn:=d',toks:=t'}:=by
 have neL:∀b o,X.s₀.heap.get? b=some o->b≠X.env.locals:=fun b o e=>Qi (Ql (Qu e) I.ok.above)
 have neC:∀b o,X.s₀.heap.get? b=some o->b∉X.ex->b∉ch:=fun b o e hx hb=>by
  rcases(hch b hb).1 with z|z
  ·exact hx z
  ·exact absurd (Ql (Qu e) z) (Yh _)
 have cellK:∀x c,X.env.cells.lookup x=some c->∀v,s.heap.IsCell c v->h'.IsCell c v:=fun x c e v ⟨o,ho,hd⟩=>by
  have nch:c∉ch:=fun z=>(hch c z).2.2.1 x c e rfl
  by_cases hc:c∈X.fs
  ·obtain⟨sl,q⟩:=slot c o (I.cne x c e) hc nch ho (I.freeC x c e)
   exact⟨_,q,hd⟩
  ·exact⟨o,keep c o (I.cne x c e) hc nch ho (I.freeC x c e),hd⟩
 refine⟨I.ok,I.os,hg,⟨fun b o e n hb hx=>?_,fun b o e n hb hx=>?_,fun b o e n hx=>?_,fun b o e hx=>?_,fun b xs e=>tups b xs (I.base.tups b xs e),fun b o xs e=>frzs b o xs (I.base.frzs b o xs e),fun b ps e=>?_⟩,?_,fun x c e=>?_,?_,fun x c e=>?_,fun p hp=>?_,hok,I.len⟩
 ·exact keep b o (neL b o e) hb (neC b o e hx) (I.base.keep b o e n hb hx) (I.base.free b o e n hx)
 ·obtain⟨sl,e1⟩:=I.base.slot b o e n hb hx
  obtain⟨sl',e2⟩:=slot b _ (neL b o e) hb (neC b o e hx) e1 (I.base.free b o e n hx);exact⟨sl',e2⟩
 ·obtain⟨o',e1⟩:=I.base.there b o e hx
  exact free b o' (neC b o e hx) e1 (I.base.free b o e n hx)
 ·obtain⟨o',e1⟩:=I.base.there b o e hx
  exact there b o' (neC b o e hx) e1
 ·obtain⟨m1,e1⟩:=I.base.tbls b ps e
  obtain⟨m2,e2⟩:=tbls b _ e1;exact⟨m1++m2,by rw[e2,Ve]⟩
 ·obtain⟨m,hn,hl⟩:=I.loc
  refine⟨m,ns m hn,fun i x v e1 e2 e3=>?_⟩
  obtain⟨u,r,l⟩:=hl i x v e1 e2 e3;refine⟨u,r,?_⟩
  rcases l with l|⟨k,c,e,z⟩
  ·exact .inl l
  ·exact .inr ⟨k,c,e,cellK x c e _ z⟩
 ·obtain⟨v,z⟩:=I.cell x c e
  exact⟨v,cellK x c e v z⟩
 ·obtain⟨m,⟨o,_,_,ho,_⟩,_⟩:=I.loc
  exact free _ o (fun z=>(hch _ z).2.1 rfl) ho I.free
 ·obtain⟨v,o,ho,hd⟩:=I.cell x c e
  exact free c o (fun z=>(hch c z).2.2.1 x c e rfl) ho (I.freeC x c e)
 ·obtain⟨e,n,ne,nf,d⟩:=I.pin p hp
  have nch:p.1∉ch:=fun z=>(hch p.1 z).2.2.2 p hp rfl
  exact⟨keep p.1 p.2 ne nf nch e n,free p.1 p.2 nch e n,ne,nf,d⟩
theorem Inv.un{t':Nat}(I:Inv X pins σ H s)(u:Un X.fs [] H H' s.heap h')(hok:HOk X.prog X.w H' h'):Inv X pins σ H' {s with heap:=h',toks:=t'}:=by
 obtain⟨m,⟨o,es,ep,ho,r⟩,_⟩:=id I.loc;obtain⟨sl,hL⟩:=u.any ho I.free (by simp)
 exact I.step (g':=s.gens) (d':=s.drawn) (ch:=[]) (fun _ z=>nomatch z) (fun b o _ hb _ e n=>u.keep b o e n hb (by simp)) (fun b o _ hb _ e n=>u.slot b o e n hb (by simp)) (fun b o _ e n=>u.free b o e n (by simp)) (fun b o _ e=>u.there b o e (by simp)) u.tups u.frzs u.tbls (fun m' hm=>by
  obtain⟨o',es',ep',ho',r'⟩:=hm;rw[ho]at ho';cases ho';exact⟨_,es',ep',hL,r'⟩) hok I.bare
theorem Inv.call{g':Array GenState}{t':Nat}{d':Drawn}{ch:List Addr}(I:Inv X pins σ H s)(u:Un (frs X.stack) ch H H' s.heap h')(hok:HOk X.prog X.w H' h')(hg:AllBare g')
  (hch:∀b∈ch,(b∈X.ex∨X.s₀.heap.objs.size≤b)/\b≠X.env.locals/\(∀x c,X.env.cells.lookup x=some c->c≠b)/\∀p∈X.pn++pins,p.1≠b):
  Inv X pins σ H' {s with heap:=h',gens:=g',drawn:=d',toks:=t'}:=by
 obtain⟨m,⟨o,es,ep,ho,r⟩,_⟩:=id I.loc;obtain⟨sl,hL⟩:=u.any ho I.free fun z=>(hch _ z).2.1 rfl
 exact I.step (ch:=ch) hch (fun b o hL hb hc e n=>u.keep b o e n (fun z=>(Qm.mp (I.stkSub b z)).elim hL hb) hc) (fun b o _ _ hc e n=>u.any e n hc) (fun b o hc e n=>u.free b o e n hc) (fun b o hc e=>u.there b o e hc) u.tups u.frzs u.tbls (fun m' hm=>by
  obtain⟨o',es',ep',ho',r'⟩:=hm;rw[ho]at ho';cases ho';exact⟨_,es',ep',hL,r'⟩) hok hg
theorem Inv.turned{t':Nat}{it:Addr}(I:Inv X pins σ H s)(k:∀b o,b≠it->s.heap.get? b=some o->h'.get? b=some o)(hn:H it=none)(hL:it≠X.env.locals)
  (h1:it∈X.ex∨X.s₀.heap.objs.size≤it)(h2:∀x c,X.env.cells.lookup x=some c->c≠it)(h3:∀p∈X.pn++pins,p.1≠it):Inv X pins σ H {s with heap:=h',toks:=t'}:=by
 have nit:∀b u,H b=some u->b≠it:=fun b u e z=>by rw[z,hn]at e;cases e
 refine I.step (g':=s.gens) (d':=s.drawn) (ch:=[it]) (fun b hb=>?_) (fun b o _ _ hc e _=>k b o (fun z=>hc (by simp[z])) e) (fun b o _ _ hc e _=>⟨o.slots,k b o (fun z=>hc (by simp[z])) e⟩) (fun _ _ _ _ n=>n)
  (fun b o hc e=>⟨o,k b o (fun z=>hc (by simp[z])) e⟩) (fun _ _ e=>e) (fun _ _ _ e=>e) (fun b ps e=>⟨#[],by rw[e];simp⟩) (fun m hm=>?_) (fun b u e=>?_) I.bare
 ·have e:b=it:=by simpa using hb
  subst e;exact⟨h1,hL,h2,h3⟩
 ·obtain⟨o,es,ep,ho,r⟩:=hm
  exact⟨o,es,ep,k _ o (Zh hL) ho,r⟩
 ·refine(I.hok b u e).stay (fun c v hc q=>k c v ?_ q) (fun _ q=>q) fun _ _ q=>q
  rcases hc with z|z
  ·rw[z];exact nit b u e
  ·exact nit c _ z
theorem Inv.tok(I:Inv X pins σ H s)(t:Nat):Inv X pins σ H {s with toks:=t}:=I.un (h':=s.heap) (t':=t) Un.refl I.hok
theorem Inv.kept{t':Nat}(I:Inv X pins σ H s)(k:∀b u,s.heap.get? b=some u->h'.get? b=some u):Inv X pins σ H {s with heap:=h',toks:=t'}:=I.un (Un.kept k) (I.hok.kept k)
theorem Inv.laid{a:Addr}{o:HO}{t':Nat}(I:Inv X pins σ H s)(k:∀b u,s.heap.get? b=some u->h'.get? b=some u)(hp:s.heap.objs.size≤a)(new:x5_ X.prog X.w (upd H a o) h' a o):
  Inv X pins σ (upd H a o) {s with heap:=h',toks:=t'}:=I.un (Un.laid k hp (I.hok.fresh hp)) (I.hok.laid k hp new)
theorem Inv.write{x e:Addr}{o:HO}{t':Nat}(I:Inv X pins σ H s)(mu:Mut (H x))(he:e=x∨H e=some (.own x))(k:∀b u,b≠e->s.heap.get? b=some u->h'.get? b=some u)(heo:∃u,h'.get? e=some u)
  (new:x5_ X.prog X.w (upd H x o) h' x o):Inv X pins σ (upd H x o) {s with heap:=h',toks:=t'}:=I.un (Un.write mu he k heo) (I.hok.write mu he k heo new)
theorem Inv.pins_of{pins':OX}(I:Inv X pins σ H s)(h:∀p∈pins',s.heap.get? p.1=some p.2/\H p.1=none/\p.1≠X.env.locals/\p.1∉X.fs/\∀v,p.2.data≠.cell v):Inv X pins' σ H s:=
 ⟨I.ok,I.os,I.bare,I.base,I.loc,I.cell,I.free,I.freeC,fun p hp=>(Yx.mp hp).elim (fun z=>I.pin p (List.mem_append_left _ z)) (h p),I.hok,I.len⟩
theorem a6d{N:List Str}(hN:N.Nodup){i j:Nat}{x:Str}(a:N[i]? =some x)(b:N[j]? =some x):i=j:=by
 obtain⟨h1,e1⟩:=Qb.mp a;obtain⟨h2,e2⟩:=Qb.mp b;exact(List.getElem_inj hN).mp (e1.trans e2.symm)
theorem a8L{M:Model}{A:Around}{E:OE}{i:Nat}{x:Str}{v:V}{u:Value}{Q:Unit->Shared->Prop}(I:Inv X pins σ H s)(hN:X.N.Nodup)(hi:X.N[i]? =some x)(hx:Loc X.env.scope x)(r:q9_ v u)
  (h:∀s',Inv X pins (σ.set i (some v)) H s'->(∃a,Heap.SameBut a s.heap s'.heap/\(a=X.env.locals∨X.env.cells.lookup x=some a))->Q () s')(hf:X.fn x=true∨X.env.scope.names.lookup x=some .local:=by first|exact .inl rfl|exact .inr rfl|assumption):wpAny M A (storeName X.env x u) Q E s:=by
 obtain⟨m,hn,hl⟩:=id I.loc;have hcls:(X.env.scope.kind==.class||(X.env.scope.kind==.module&&X.env.locals !=X.env.globals))=false:=by rw[I.ok.kind];rfl
 have hiσ:i<σ.length:=by rw[I.len];exact(Qb.mp hi).1
 have cne:=I.cne
 have tracked:∀{a:Addr}{h':Heap},(∃o,s.heap.get? a=some o/\H a=none)->Heap.SameBut a s.heap h'->HOk X.prog X.w H h':=fun{a h'} ha hs b ob e=>by
  obtain⟨_,_,hfree⟩:=ha;refine(I.hok b ob e).stay (fun c w' hc q=>(hs.2 c ?_).trans q) (fun _ q=>q) fun _ _ q=>q
  rintro rfl
  rcases hc with rfl|hc
  ·rw[hfree]at e;cases e
  ·rw[hfree]at hc;cases hc
 rcases hx with hk|hk
 ·refine wpAny_storeName_local hk hn (fun h' hn' hs=>?_) hcls
  obtain⟨oL,_,_,hoL,_⟩:=id hn;refine h _ ⟨I.ok,I.os,I.bare,⟨fun b o e n hb hx=>?_,fun b o e n hb hx=>?_,I.base.free,fun b o e hx=>?_,I.base.tups,I.base.frzs,I.base.tbls⟩,⟨_,hn',fun j y v' e1 e2 e3=>?_⟩,fun y c e=>?_,I.free,I.freeC,fun p hp=>?_,tracked ⟨oL,hoL,I.free⟩ hs,by simpa using I.len⟩ ⟨_,hs,.inl rfl⟩
  ·exact(hs.2 b (Qi (Ql (Qu e) I.ok.above))).trans (I.base.keep b o e n hb hx)
  ·obtain⟨sl,e1⟩:=I.base.slot b o e n hb hx
   exact⟨sl,(hs.2 b (Qi (Ql (Qu e) I.ok.above))).trans e1⟩
  ·obtain⟨o',e1⟩:=I.base.there b o e hx
   exact⟨o',(hs.2 b (Qi (Ql (Qu e) I.ok.above))).trans e1⟩
  ·by_cases hj:j=i
   ·subst hj
    rw[hi]at e1;cases e1;rw[Zd hiσ]at e2;cases e2;exact⟨u,r,.inl ⟨hk,by simp⟩⟩
   ·rw[Qc (Zh hj)]at e2
    obtain⟨u',r',q⟩:=hl j y v' e1 e2 e3;refine⟨u',r',?_⟩
    rcases q with⟨k,e⟩|⟨k,c,e,z⟩
    ·refine .inl ⟨k,?_⟩
     have:y≠x:=fun e=>hj (a6d hN e1 (e ▸ hi))
     simp[this,e]
    ·exact .inr ⟨k,c,e,z.sameBut hs (cne y c e)⟩
  ·obtain⟨w',z⟩:=I.cell y c e
   exact⟨w',z.sameBut hs (cne y c e)⟩
  ·obtain⟨e,n,ne,nf,d⟩:=I.pin p hp
   exact⟨(hs.2 p.1 ne).trans e,n,ne,nf,d⟩
 ·have hfn:X.fn x=true:=by
   rcases hf with z|z
   ·exact z
   ·rw[z]at hk;cases hk
  obtain⟨c,hc⟩:=I.ok.has x (.inl hk);obtain⟨w',z⟩:=I.cell x c hc;refine wpAny_storeName_cell I.ok.kind hk hc z (fun h' hc' hs=>?_)
  obtain⟨oc,hoc,hocd⟩:=id z;refine h {s with heap:=h'} ⟨I.ok,I.os,I.bare,⟨fun b o e n hb hx=>?_,fun b o e n hb hx=>?_,I.base.free,fun b o e hx=>?_,I.base.tups,I.base.frzs,I.base.tbls⟩,⟨m,hn.sameBut hs (Zh (cne x c hc)),fun j y v' e1 e2 e3=>?_⟩,fun y c' e=>?_,I.free,I.freeC,fun p hp=>?_,tracked ⟨oc,hoc,I.freeC x c hc⟩ hs,by simpa using I.len⟩ ⟨c,hs,.inr hc⟩
  ·exact(hs.2 b (Qi (Ql (Qu e) (I.ok.cab x c hfn hc)))).trans (I.base.keep b o e n hb hx)
  ·obtain⟨sl,e1⟩:=I.base.slot b o e n hb hx
   exact⟨sl,(hs.2 b (Qi (Ql (Qu e) (I.ok.cab x c hfn hc)))).trans e1⟩
  ·obtain⟨o',e1⟩:=I.base.there b o e hx
   exact⟨o',(hs.2 b (Qi (Ql (Qu e) (I.ok.cab x c hfn hc)))).trans e1⟩
  ·by_cases hj:j=i
   ·subst hj
    rw[hi]at e1;cases e1;rw[Zd hiσ]at e2;cases e2;exact⟨u,r,.inr ⟨.inl hk,c,hc,hc'⟩⟩
   ·rw[Qc (Zh hj)]at e2
    obtain⟨u',r',q⟩:=hl j y v' e1 e2 e3;refine⟨u',r',?_⟩
    rcases q with q|⟨k,c',e,z'⟩
    ·exact .inl q
    ·refine .inr ⟨k,c',e,z'.sameBut hs ?_⟩
     rintro rfl;exact hj (a6d hN e1 (I.ok.inj _ _ _ e hc ▸ hi))
  ·by_cases hcc:c'=c
   ·subst hcc;exact⟨_,hc'⟩
   ·obtain⟨w2,z2⟩:=I.cell y c' e
    exact⟨w2,z2.sameBut hs hcc⟩
  ·obtain⟨e,n,ne,nf,d⟩:=I.pin p hp
   refine⟨(hs.2 p.1 ?_).trans e,n,ne,nf,d⟩;intro q;rw[q,hoc]at e;have q':oc=p.2:=Yb e;exact d w' (by rw[←q'];exact hocd)
theorem a3X{M:Model}{A:Around}{E:OE}{i:Nat}{x:Str}{v:V}{u:Value}{Q:Unit->Shared->Prop}(I:Inv X pins σ H s)(hN:X.N.Nodup)(hi:X.N[i]? =some x)(hx:Loc X.env.scope x)(r:q9_ v u)
  (h:∀s',Inv X pins (σ.set i (some v)) H s'->Q () s')(hf:X.fn x=true∨X.env.scope.names.lookup x=some .local:=by first|exact .inl rfl|exact .inr rfl|assumption):wpAny M A (storeName X.env x u) Q E s:=
 a8L I hN hi hx r (fun s' I' _=>h s' I') hf
theorem Inv.call'{s':Shared}{ch:List Addr}(I:Inv X pins σ H s)(ho:s'.os=s.os)(u:Un (frs X.stack) ch H H' s.heap s'.heap)(hok:HOk X.prog X.w H' s'.heap)(hg:AllBare s'.gens)
  (hch:∀b∈ch,(b∈X.ex∨X.s₀.heap.objs.size≤b)/\b≠X.env.locals/\(∀x c,X.env.cells.lookup x=some c->c≠b)/\∀p∈X.pn++pins,p.1≠b):Inv X pins σ H' s':=by
 obtain⟨h',g',d',t',o'⟩:=s';have e:o'=s.os:=ho;subst e;exact I.call (g':=g') (t':=t') (d':=d') u hok hg hch
end
abbrev XK:=Value->Option Addr->Hp->Prop
abbrev St:=List (Option V)
abbrev VK:=V->Hp->Prop
abbrev TE:=St->Hp->VK->Prop
abbrev TT:=St->Hp->(Bool->Hp->Prop)->Prop
abbrev TA:=St->Hp->(List V->Hp->Prop)->Prop
structure Ends where
 nx:St->Hp->Prop
 rt:VK
 bk:St->Hp->Prop:=fun _ _=>False
 ct:St->Hp->Prop:=fun _ _=>False
abbrev TS:=Ends->St->Hp->Prop
def EP(X:Cx)(pins:OX)(σ:St)(Q:VK)(u:Value)(s':Shared):Prop:=∃v H',Inv X pins σ H' s'/\q9_ v u/\Q v H'
def TP(X:Cx)(pins:OX)(σ:St)(Q:Bool->Hp->Prop)(b:Bool)(s':Shared):Prop:=∃H',Inv X pins σ H' s'/\Q b H'
def AP(X:Cx)(pins:OX)(σ:St)(Q:List V->Hp->Prop)(us:List Value)(s':Shared):Prop:=∃vs H',Inv X pins σ H' s'/\q3_ vs us/\Q vs H'
def SP(X:Cx)(pins:OX)(D:Ends)(f:Flow)(s':Shared):Prop:=
 match f with
 |.next=>∃σ' H',Inv X pins σ' H' s'/\D.nx σ' H'
 |.brk=>∃σ' H',Inv X pins σ' H' s'/\D.bk σ' H'
 |.cont=>∃σ' H',Inv X pins σ' H' s'/\D.ct σ' H'
 |.ret u=>∃v σ' H',Inv X pins σ' H' s'/\q9_ v u/\D.rt v H'
def PE(X:Cx)(e:Expr)(t:TE):Prop:=
 ∀(pins:OX) (s:Shared) (σ:St) (H:Hp) (Q:VK),Inv X pins σ H s->t σ H Q->wpAny (model X.prog X.w) X.A (eval e X.env) (EP X pins σ Q) X.xe s
def PT(X:Cx)(e:Expr)(t:TT):Prop:=
 ∀(pins:OX) (s:Shared) (σ:St) (H:Hp) (Q:Bool->Hp->Prop),Inv X pins σ H s->t σ H Q->wpAny (model X.prog X.w) X.A (isTrue e X.env (eval e X.env)) (TP X pins σ Q) X.xe s
def PW(X:Cx)(e:Expr)(t:TT):Prop:=
 ∀(whole:Sem Value) (pins:OX) (s:Shared) (σ:St) (H:Hp) (Q:Bool->Hp->Prop),Inv X pins σ H s->t σ H Q->wpAny (model X.prog X.w) X.A (isTrue e X.env whole) (TP X pins σ Q) X.xe s
theorem PW.pt{X:Cx}{e:Expr}{t:TT}(h:PW X e t):PT X e t:=h _
def PA(X:Cx)(es:List Expr)(t:TA):Prop:=
 ∀(pos:Pos) (pins:OX) (s:Shared) (σ:St) (H:Hp) (Q:List V->Hp->Prop),Inv X pins σ H s->t σ H Q->wpAny (model X.prog X.w) X.A (spliced (backTo pos (starEach es X.env))) (AP X pins σ Q) X.xe s
def PS(X:Cx)(st:Stmt)(t:TS):Prop:=
 ∀(pins:OX) (s:Shared) (σ:St) (H:Hp) (D:Ends),Inv X pins σ H s->t D σ H->wpAny (model X.prog X.w) X.A (exec st X.env) (SP X pins D) X.xe s
def PSs(X:Cx)(st:List Stmt)(t:TS):Prop:=
 ∀(pins:OX) (s:Shared) (σ:St) (H:Hp) (D:Ends),Inv X pins σ H s->t D σ H->wpAny (model X.prog X.w) X.A (execs st X.env) (SP X pins D) X.xe s
theorem thn{α:Type}{t:Sem α}{Q Q':α->Shared->Prop}{M:Model}{A:Around}{E:OE}{s:Shared}(h:wpAny M A t Q E s)(hQ:∀a s,Q a s->Q' a s):wpAny M A t Q' E s:=Zp h hQ fun _ _ x=>x
section
variable{X:Cx}
theorem bin{a b:Expr}{ta tb:TE}(ha:PE X a ta)(hb:PE X b tb){pins:OX}{s:Shared}{σ:St}{H:Hp}{R:V->V->Hp->Prop}(I:Inv X pins σ H s)(h:ta σ H fun x H1=>tb σ H1 fun y H2=>R x y H2)
  {α:Type}{Q:α->Shared->Prop}{f:Value->Value->Sem α}
  (hf:∀v u s2 x y H2,Inv X pins σ H2 s2->q9_ x v->q9_ y u->R x y H2->wpAny (model X.prog X.w) X.A (f v u) Q X.xe s2):
  wpAny (model X.prog X.w) X.A (eval a X.env) (fun v s₁=>wpAny (model X.prog X.w) X.A (eval b X.env) (fun u s₂=>wpAny (model X.prog X.w) X.A (f v u) Q X.xe s₂) X.xe s₁) X.xe s:=by
 refine thn (ha pins s σ H _ I h) fun v s1 ⟨x,H1,I1,r1,q1⟩=>?_
 refine thn (hb pins s1 σ H1 _ I1 q1) fun u s2 ⟨y,H2,I2,r2,q2⟩=>?_
 exact hf v u s2 x y H2 I2 r1 r2 q2
def a0Q(i:Nat):TE:=fun σ H Q=>∃v,σ[i]? =some (some v)/\Q v H
def tC(v:V):TE:=fun _ H Q=>Q v H
theorem a6e{i:Nat}{x:Str}{pos:Pos}(hN:X.N[i]? =some x)(hv:Vis X.env.scope x)(hd:(x==("__debug__":Str))=false:=by decide)(hcd:(x==("__classdict__":Str))=false:=by decide):PE X (.Name x pos) (a0Q i):=by
 intro pins s σ H Q I h;obtain⟨v,e,h⟩:=h;obtain⟨m,hn,hl⟩:=I.loc;obtain⟨u,r,l⟩:=hl i x v hN e hv;have fin:EP X pins σ Q u s:=⟨v,H,I,r,h⟩
 rcases l with⟨hk,hm⟩|⟨hk,c,hc,hcell⟩
 ·exact wpAny_Name (wpAny_loadName_local I.ok.kind hk hn hm fin) hd
 ·rcases hk with hk|hk
  ·exact wpAny_Name (wpAny_loadName_cell I.ok.kind hk hc hcell fin) hd
  ·exact wpAny_Name (wpAny_loadName_free I.ok.kind hk hc hcell fin hcd) hd
theorem a3d{i j pos}:PE X (.Constant (.int i) j pos) (tC (.int i)):=fun _ _ _ H _ I h=>wpAny_Constant_int ⟨.int i,H,I.tok _,⟨_,rfl⟩,h⟩
theorem b3f{b j pos}:PE X (.Constant (.bool b) j pos) (tC (.bl b)):=fun _ _ _ H _ I h=>Constant_bool ⟨.bl b,H,I,rfl,h⟩
theorem a8M{j pos}:PE X (.Constant .none j pos) (tC .non):=fun _ _ _ H _ I h=>Constant_none ⟨.non,H,I,rfl,h⟩
theorem a2v{x j pos}:PE X (.Constant (.str x) j pos) (tC (.str x)):=fun _ _ _ H _ I h=>Calls.Constant_str ⟨.str x,H,I.tok _,⟨_,rfl⟩,h⟩
def Gl(X:Cx)(x:Str):Prop:=X.env.kindOf x=some .globalImplicit
theorem a3Y{E:OE}{pins:OX}{s:Shared}{σ:St}{H:Hp}{x:Str}{u:Value}{pos:Pos}{Q:OE}(I:Inv X pins σ H s)(hg:Gl X x)(hm:X.mg x=some u)(h:Q u s)
  (hd:(x==("__debug__":Str))=false:=by decide):wpAny (model X.prog X.w) X.A (eval (.Name x pos) X.env) Q E s:=
 Calls.Name_function_global I.ok.kind hg (Calls.loadGlobal_global (by rw[I.ok.glob];exact I.mod.glob.keeps I.bk) hm h) hd
theorem a3Z{E:OE}{pins:OX}{s:Shared}{σ:St}{H:Hp}{x:Str}{u:Value}{pos:Pos}{Q:OE}(I:Inv X pins σ H s)(hg:Gl X x)(hm:X.mg x=none)(hv:bootBuiltins x=some u)(h:Q u s)
  (hn:x≠"__name__":=by decide)(hd:(x==("__debug__":Str))=false:=by decide):wpAny (model X.prog X.w) X.A (eval (.Name x pos) X.env) Q E s:=by
 obtain⟨mb,h1,h2⟩:=I.mod.blt;exact Calls.Name_function_global I.ok.kind hg (Calls.loadGlobal_builtin (by rw[I.ok.glob];exact I.mod.glob.keeps I.bk) hm (by rw[I.ok.blt];exact h1.keeps I.bk) ((h2 x hn).trans hv) h) hd
theorem a4S{x:Str}{v:V}{u:Value}{pos:Pos}(hg:Gl X x)(hm:X.mg x=some u)(r:q9_ v u)(hd:(x==("__debug__":Str))=false:=by decide):PE X (.Name x pos) (tC v):=
 fun _ _ _ H _ I h=>a3Y I hg hm ⟨v,H,I,r,h⟩ hd
theorem a4T{x:Str}{v:V}{u:Value}{pos:Pos}(hg:Gl X x)(hm:X.mg x=none)(hv:bootBuiltins x=some u)(r:q9_ v u)(hn:x≠"__name__":=by decide)(hd:(x==("__debug__":Str))=false:=by decide):PE X (.Name x pos) (tC v):=
 fun _ _ _ H _ I h=>a3Z I hg hm hv ⟨v,H,I,r,h⟩ hn hd
variable{a b:Expr}{ta tb:TE}{pos:Pos}
def PC(X:Cx)(op:CmpOp)(a b:Expr)(t:TE):Prop:=
 ∀(pins:OX) (s:Shared) (σ:St) (H:Hp) (Q:VK),Inv X pins σ H s->t σ H Q->
  wpAny (model X.prog X.w) X.A (eval a X.env) (fun v s₁=>wpAny (model X.prog X.w) X.A (eval b X.env) (fun u s₂=>wpAny (model X.prog X.w) X.A (compareOp op v u) (EP X pins σ Q) X.xe s₂) X.xe s₁) X.xe s
theorem nobehind(b:Expr){op:CmpOp}(h:op≠.In)(h2:op≠.NotIn):behindInMarks op b=false:=by
 have e1:(op==CmpOp.In)=false:=by cases op<;>first|rfl|exact absurd rfl h
 have e2:(op==CmpOp.NotIn)=false:=by cases op<;>first|rfl|exact absurd rfl h2
 cases b<;>simp[behindInMarks,e1,e2]
def tB(t:TE):TT:=fun σ H Q=>t σ H fun x H1=>∃c,x=.bl c/\Q c H1
theorem b3g{op:CmpOp}{t:TE}(h:PC X op a b t)(h1:behindInMarks op b=false:=by first|exact nobehind _ (by decide) (by decide)|rfl):PE X (.Compare a [op] [b] pos) t:=fun pins s σ H Q I hw=>wpAny_Compare1 (h pins s σ H Q I hw) h1
theorem c0X{op:CmpOp}{t:TE}(h:PC X op a b t)(h1:behindInMarks op b=false:=by first|exact nobehind _ (by decide) (by decide)|rfl):PT X (.Compare a [op] [b] pos) (tB t):=by
 intro pins s σ H Q I hw;refine wpAny_isTrue_Compare1 (thn (h pins s σ H _ I hw) fun v s1 h1=>thn h1 fun u s2 h2=>thn h2 fun c s3 ⟨x,H1,I1,r1,q1⟩=>?_) h1
 obtain⟨d,rfl,q⟩:=q1;cases r1;exact Yq ⟨H1,I1,q⟩
theorem b3h{e:Expr}{t:TE}(h:PE X e t)(he:∀whole,isTrue e X.env whole=(do let v←whole;standAt e.pos;holding [v] (truthy v)):=by intro _;rfl):PT X e (tB t):=by
 intro pins s σ H Q I hw;refine isTrue_plain (thn (h pins s σ H _ I hw) fun v s1 ⟨x,H1,I1,r1,q1⟩=>?_) (he _)
 obtain⟨d,rfl,q⟩:=q1;cases r1;exact Yq ⟨H1,I1,q⟩
variable{tA tB':TT}{rest:List Expr}
def a8N(t u:TT):TT:=fun σ H Q=>t σ H fun c H1=>if c=true then u σ H1 Q else Q false H1
def tOr(t u:TT):TT:=fun σ H Q=>t σ H fun c H1=>if c=true then Q true H1 else u σ H1 Q
def b3i(t:TT):TT:=fun σ H Q=>t σ H fun c H1=>Q (!c) H1
theorem b3j(ha:PT X a tA):PW X (.BoolOp .And [a] pos) tA:=by
 intro wh pins s σ H Q I h;refine isTrue_and (thn (ha pins s σ H Q I h) fun c s1 e=>?_)
 cases c with
 |true=>exact isTrue_and_nil e
 |false=>exact e
theorem b3k(ha:PT X a tA):PW X (.BoolOp .Or [a] pos) tA:=by
 intro wh pins s σ H Q I h;refine isTrue_or (thn (ha pins s σ H Q I h) fun c s1 e=>?_)
 cases c with
 |false=>exact isTrue_or_nil e
 |true=>exact e
theorem b3l(ha:PT X a tA)(hb:PW X (.BoolOp .And (b::rest) pos) tB'):PW X (.BoolOp .And (a::b::rest) pos) (a8N tA tB'):=by
 intro wh pins s σ H Q I h;refine isTrue_and (thn (ha pins s σ H _ I h) fun c s1 ⟨H1,I1,q1⟩=>?_)
 cases c with
 |true=>exact hb wh pins s1 σ H1 Q I1 q1
 |false=>exact⟨H1,I1,q1⟩
theorem b3m(ha:PT X a tA)(hb:PW X (.BoolOp .Or (b::rest) pos) tB'):PW X (.BoolOp .Or (a::b::rest) pos) (tOr tA tB'):=by
 intro wh pins s σ H Q I h;refine isTrue_or (thn (ha pins s σ H _ I h) fun c s1 ⟨H1,I1,q1⟩=>?_)
 cases c with
 |true=>exact⟨H1,I1,q1⟩
 |false=>exact hb wh pins s1 σ H1 Q I1 q1
theorem b3n(ha:PT X a tA):PT X (.UnaryOp .Not a pos) (b3i tA):=by
 intro pins s σ H Q I h;exact isTrue_not (ha pins s σ H (fun c H1=>Q (!c) H1) I h)
def b3o(ta tb:TE):TE:=fun σ H Q=>ta σ H fun x H1=>∃c,x=.bl c/\if c=true then tb σ H1 Q else Q (.bl false) H1
def b3p(ta tb:TE):TE:=fun σ H Q=>ta σ H fun x H1=>∃c,x=.bl c/\if c=true then Q (.bl true) H1 else tb σ H1 Q
def b3q(ta:TE):TE:=fun σ H Q=>ta σ H fun x H1=>∃c,x=.bl c/\Q (.bl (!c)) H1
theorem b3r{op}{t:TE}(h:PE X a t):PE X (.BoolOp op [a] pos) t:=fun pins s σ H Q I hw=>BoolOp_one (h pins s σ H Q I hw)
theorem b3s(ha:PE X a ta)(hb:PE X (.BoolOp .And (b::rest) pos) tb):PE X (.BoolOp .And (a::b::rest) pos) (b3o ta tb):=by
 intro pins s σ H Q I h;refine BoolOp_and (thn (ha pins s σ H _ I h) fun v s1 ⟨x,H1,I1,r1,q1⟩=>?_)
 obtain⟨c,rfl,q1⟩:=q1;cases r1;refine Yq ?_
 cases c with
 |true=>exact hb pins s1 σ H1 Q I1 q1
 |false=>exact⟨.bl false,H1,I1,rfl,q1⟩
theorem a8O(ha:PE X a ta)(hb:PE X (.BoolOp .Or (b::rest) pos) tb):PE X (.BoolOp .Or (a::b::rest) pos) (b3p ta tb):=by
 intro pins s σ H Q I h;refine BoolOp_or (thn (ha pins s σ H _ I h) fun v s1 ⟨x,H1,I1,r1,q1⟩=>?_)
 obtain⟨c,rfl,q1⟩:=q1;cases r1;refine Yq ?_
 cases c with
 |false=>exact hb pins s1 σ H1 Q I1 q1
 |true=>exact⟨.bl true,H1,I1,rfl,q1⟩
theorem b3t(ha:PE X a ta):PE X (.UnaryOp .Not a pos) (b3q ta):=by
 intro pins s σ H Q I h;refine UnaryOp_ (thn (ha pins s σ H _ I h) fun v s1 ⟨x,H1,I1,r1,q1⟩=>?_)
 obtain⟨c,rfl,q1⟩:=q1;cases r1;exact not_of (Yq ⟨.bl (!c),H1,I1,rfl,q1⟩)
end
def SqL(K:Qq)(H:Hp)(a:Addr)(xs:List V):Prop:=
 Rd H a (.lst xs)∨
  ∃(o:Obj) (its:Array Value) (n:Nat),K.lookup a=some o/\o.cls=.type "list"/\o.dict=none/\o.data=.seq its n/\its.size≤sizeLine/\q3_ xs its.toList
def SqT(K:Qq)(H:Hp)(a:Addr)(xs:List V):Prop:=
 Rd H a (.tup xs)∨
  ∃(o:Obj) (its:Array Value) (n:Nat),K.lookup a=some o/\o.cls=.type "tuple"/\o.dict=none/\o.data=.seq its n/\its.size≤sizeLine/\q3_ xs its.toList
def b3u:Value->Option V
 |.none=>some .non
 |.bool b=>some (.bl b)
 |.int i _=>some (.int i)
 |.str x _=>some (.str x)
 |.bytes b _=>some (.byt b)
 |.float b _=>some (.flt b)
 |.ref a=>some (.ref a)
 |.type n=>some (.ty n)
 |_=>none
theorem q9_.abs{x:V}{u:Value}(r:q9_ x u):b3u u=some x:=by
 cases x with
 |non=>cases r;rfl
 |bl _=>cases r;rfl
 |int _=>obtain⟨t,rfl⟩:=r;rfl
 |str _=>obtain⟨t,rfl⟩:=r;rfl
 |byt _=>obtain⟨t,rfl⟩:=r;rfl
 |flt _=>obtain⟨t,rfl⟩:=r;rfl
 |ref _=>cases r;rfl
 |ty _=>cases r;rfl
theorem q9_.inj{x y:V}{u:Value}(r:q9_ x u)(q:q9_ y u):x=y:=Yb (r.abs.symm.trans q.abs)
theorem q3_.inj:∀{xs ys:List V}{us:List Value},q3_ xs us->q3_ ys us->xs=ys
 |_,_,_,.nil,.nil=>rfl
 |_,_,_,.cons r t,.cons r' t'=>by rw[r.inj r',q3_.inj t t']
section
variable{X:Cx}{pins:OX}{σ:St}{H:Hp}{s:Shared}{a:Addr}{xs ys:List V}
theorem SqL.of{K:Qq}(h:H a=some (.lst xs)):SqL K H a xs:=.inl (.inl h)
theorem SqT.of{K:Qq}(h:H a=some (.tup xs)):SqT K H a xs:=.inl (.inl h)
theorem Inv.list(I:Inv X pins σ H s)(h:SqL X.K H a xs):∃its:List Value,q3_ xs its/\PlainL s.heap a its.toArray/\xs.length≤sizeLine:=by
 rcases h with h|⟨o,its,n,hk,hc,hd,hs,hz,r⟩
 ·obtain⟨z,its,n,r,e⟩:=h.ok I.hok
  exact⟨its,r,⟨_,n,e,rfl,rfl,rfl⟩,z⟩
 ·refine⟨its.toList,r,⟨o,n,I.kIn a o hk,hc,hd,by simpa using hs⟩,?_⟩
  have e:=r.length
  simp only[Ur]at e
  omega
theorem Inv.tupleD(I:Inv X pins σ H s)(h:SqT X.K H a xs):∃its:List Value,q3_ xs its/\a0P s.heap a its.toArray/\xs.length≤sizeLine:=by
 rcases h with h|⟨o,its,n,hk,hc,hd,hs,hz,r⟩
 ·obtain⟨z,its,r,p⟩:=h.ok I.hok
  exact⟨its,r,p,z⟩
 ·refine⟨its.toList,r,⟨o,I.kIn a o hk,hc,hd,n,by simpa using hs⟩,?_⟩
  have e:=r.length
  simp only[Ur]at e
  omega
theorem Inv.tuple(I:Inv X pins σ H s)(h:SqT X.K H a xs):∃its:List Value,q3_ xs its/\IsTup s.heap a its.toArray/\xs.length≤sizeLine:=
 let ⟨its,r,p,z⟩:=I.tupleD h
 ⟨its,r,p.tup,z⟩
theorem Inv.list_inj(I:Inv X pins σ H s)(h:SqL X.K H a xs)(h':SqL X.K H a ys):xs=ys:=by
 obtain⟨its,r,⟨o,n,e,_,_,d⟩,_⟩:=I.list h;obtain⟨its',r',⟨o',n',e',_,_,d'⟩,_⟩:=I.list h';rw[e]at e';cases e';rw[d]at d';injection d' with d1 _
 have:its=its':=by simpa using Jr Array.toList d1
 subst this;exact r.inj r'
theorem Inv.tuple_inj(I:Inv X pins σ H s)(h:SqT X.K H a xs)(h':SqT X.K H a ys):xs=ys:=by
 obtain⟨its,r,⟨o,e,_,n,d⟩,_⟩:=I.tuple h;obtain⟨its',r',⟨o',e',_,n',d'⟩,_⟩:=I.tuple h';rw[e]at e';cases e';rw[d]at d';injection d' with d1 _
 have:its=its':=by simpa using Jr Array.toList d1
 subst this;exact r.inj r'
end
abbrev Cx.wish(X:Cx)(E:OE):Cx:={X with xe:=E}
abbrev Cx.nox(X:Cx):Cx:=X.wish fun _ _=>False
theorem Cx.Ok.wish{X:Cx}(ok:X.Ok)(E:OE):(X.wish E).Ok:=
 ⟨ok.mod,ok.kind,ok.glob,ok.blt,ok.above,ok.inj,ok.has,ok.cab,ok.hd,ok.frames,ok.stk,ok.exf,ok.bs,ok.bsz,ok.noex,ok.exfs,ok.funs,ok.frf⟩
theorem Cx.Ok.unwish{X:Cx}{E:OE}(ok:(X.wish E).Ok):X.Ok:=
 ⟨ok.mod,ok.kind,ok.glob,ok.blt,ok.above,ok.inj,ok.has,ok.cab,ok.hd,ok.frames,ok.stk,ok.exf,ok.bs,ok.bsz,ok.noex,ok.exfs,ok.funs,ok.frf⟩
section
variable{X:Cx}{pins:OX}{σ:St}{H:Hp}{s:Shared}{E:OE}
theorem Inv.wish(I:Inv X pins σ H s)(E:OE):Inv (X.wish E) pins σ H s:=⟨I.ok.wish E,I.os,I.bare,I.base,I.loc,I.cell,I.free,I.freeC,I.pin,I.hok,I.len⟩
theorem Inv.unwish(I:Inv (X.wish E) pins σ H s):Inv X pins σ H s:=⟨I.ok.unwish,I.os,I.bare,I.base,I.loc,I.cell,I.free,I.freeC,I.pin,I.hok,I.len⟩
theorem SP.unwish{D:Ends}{f:Flow}{s':Shared}(h:SP (X.wish E) pins D f s'):SP X pins D f s':=by
 cases f with
 |next=>obtain⟨σ',H',I,q⟩:=h;exact⟨σ',H',I.unwish,q⟩
 |brk=>obtain⟨σ',H',I,q⟩:=h;exact⟨σ',H',I.unwish,q⟩
 |cont=>obtain⟨σ',H',I,q⟩:=h;exact⟨σ',H',I.unwish,q⟩
 |ret u=>obtain⟨v,σ',H',I,r,q⟩:=h;exact⟨v,σ',H',I.unwish,r,q⟩
theorem PE.nox{e:Expr}{t:TE}(h:PE X.nox e t):PE X e t:=fun pins s σ H Q I hw=>
 Zp (h pins s σ H Q (I.wish _) hw) (fun _ _ ⟨v,H',I',r,q⟩=>⟨v,H',I'.unwish,r,q⟩) fun _ _ z=>False.elim z
theorem PT.nox{e:Expr}{t:TT}(h:PT X.nox e t):PT X e t:=fun pins s σ H Q I hw=>
 Zp (h pins s σ H Q (I.wish _) hw) (fun _ _ ⟨H',I',q⟩=>⟨H',I'.unwish,q⟩) fun _ _ z=>False.elim z
theorem PSs.nox{st:List Stmt}{t:TS}(h:PSs X.nox st t):PSs X st t:=fun pins s σ H D I hw=>
 Zp (h pins s σ H D (I.wish _) hw) (fun _ _ q=>q.unwish) fun _ _ z=>False.elim z
end
section
variable{X:Cx}{st:Stmt}{rest:List Stmt}{t u:TS}{e:Expr}{te:TE}{pos:Pos}
def b3v:TS:=fun D σ H=>D.nx σ H
def b3w(t u:TS):TS:=fun D σ H=>t {D with nx:=u D} σ H
theorem b3x:PSs X [] b3v:=fun _ _ σ H _ I h=>Us ⟨σ,H,I,h⟩
theorem a3e(h1:PS X st t)(h2:PSs X rest u):PSs X (st::rest) (b3w t u):=by
 intro pins s σ H D I h;refine wpAny_execs_cons (thn (h1 pins s σ H {D with nx:=u D} I h) fun f s1 q=>?_)
 cases f with
 |next=>
  obtain⟨σ',H',I',q⟩:=q;exact h2 pins s1 σ' H' D I' q
 |ret v=>exact q
 |brk=>exact q
 |cont=>exact q
theorem a8P(h1:PS X st t):PSs X [st] t:=by
 intro pins s σ H D I h;refine wpAny_execs_cons (thn (h1 pins s σ H D I h) fun f s1 q=>?_)
 cases f with
 |next=>exact Us q
 |ret v=>exact q
 |brk=>exact q
 |cont=>exact q
theorem Inv.quiet{pins:OX}{σ:St}{H:Hp}{s:Shared}(I:Inv X pins σ H s):interactive X.env=false:=by simp[interactive,I.ok.kind]
def b3y(te:TE):TS:=fun D σ H=>te σ H fun _ H1=>D.nx σ H1
theorem a6f(he:PE X e te)(hs:swapsWith e none pos.line X.env=pure false:=by rfl):PS X (.Expr e pos) (b3y te):=by
 intro pins s σ H D I h;exact wpAny_Expr_any (thn (he pins s σ H _ I h) fun v s1 ⟨x,H1,I1,r1,q1⟩=>⟨σ,H1,I1,q1⟩) I.quiet hs
def b3z(te:TE):TS:=fun D σ H=>te σ H D.rt
theorem a8Q(he:PE X e te):PS X (.Return (some e) pos) (b3z te):=by
 intro pins s σ H D I h;exact wpAny_Return_some (thn (he pins s σ H _ I h) fun v s1 ⟨x,H1,I1,r1,q1⟩=>⟨x,σ,H1,I1,r1,q1⟩)
def b3A(c:TT)(t u:TS):TS:=fun D σ H=>c σ H fun b H1=>if b=true then t D σ H1 else u D σ H1
theorem a8R{c:Expr}{a b:List Stmt}{tc:TT}(hc:PT X c tc)(ha:PSs X a t)(hb:PSs X b u):PS X (.If c a b pos) (b3A tc t u):=by
 intro pins s σ H D I h;refine wpAny_If (thn (hc pins s σ H _ I h) fun d s1 ⟨H1,I1,q1⟩=>?_)
 cases d with
 |true=>exact ha pins s1 σ H1 D I1 q1
 |false=>exact hb pins s1 σ H1 D I1 q1
def a8S:TS:=fun _ _ _=>False
theorem b3B:PS X st a8S:=fun _ _ _ _ _ _ h=>h.elim
theorem a8T{sts:List Stmt}:PSs X sts a8S:=fun _ _ _ _ _ _ h=>h.elim
end
abbrev TG:=V->St->Hp->(St->Hp->Prop)->Prop
abbrev TGs:=List V->St->Hp->(St->Hp->Prop)->Prop
def PG(X:Cx)(target:Expr)(t:TG):Prop:=
 ∀(pins:OX) (s:Shared) (σ:St) (H:Hp) (v:V) (u:Value) (Q:St->Hp->Prop),Inv X pins σ H s->q9_ v u->t v σ H Q->
  wpAny (model X.prog X.w) X.A (assign target X.env u) (fun _ s'=>∃σ' H',Inv X pins σ' H' s'/\Q σ' H') X.xe s
def PGs(X:Cx)(ts:List Expr)(t:TGs):Prop:=
 ∀(pins:OX) (s:Shared) (σ:St) (H:Hp) (vs:List V) (us:List Value) (Q:St->Hp->Prop),Inv X pins σ H s->q3_ vs us->t vs σ H Q->
  wpAny (model X.prog X.w) X.A (assignInOrder ((assignEach ts X.env).map (·.2)) us) (fun _ s'=>∃σ' H',Inv X pins σ' H' s'/\Q σ' H') X.xe s
abbrev a6g:=V->V->V->Hp->(Hp->Prop)->Prop
def a8U(X:Cx)(t:a6g):Prop:=
 ∀(pins:OX) (s:Shared) (σ:St) (H:Hp) (o i v:V) (ov iv u:Value) (Q:Hp->Prop),Inv X pins σ H s->q9_ o ov->q9_ i iv->q9_ v u->t o i v H Q->
  wpAny (model X.prog X.w) X.A (setItem ov iv u) (fun _ s'=>∃H',Inv X pins σ H' s'/\Q H') X.xe s
abbrev TIp:=V->V->Hp->VK->Prop
def PIp(X:Cx)(op:Operator)(t:TIp):Prop:=
 ∀(pins:OX) (s:Shared) (σ:St) (H:Hp) (x y:V) (v u:Value) (Q:VK),Inv X pins σ H s->q9_ x v->q9_ y u->t x y H Q->
  wpAny (model X.prog X.w) X.A (inplaceOp op v u) (EP X pins σ Q) X.xe s
section
variable{X:Cx}{pos:Pos}
def a6h(i:Nat):TG:=fun v σ H Q=>Q (σ.set i (some v)) H
theorem b3C{i:Nat}{x:Str}(hN:X.N.Nodup)(hi:X.N[i]? =some x)(hx:Loc X.env.scope x)(hf:X.fn x=true∨X.env.scope.names.lookup x=some .local:=by first|exact .inl rfl|exact .inr rfl|assumption):PG X (.Name x pos) (a6h i):=by
 intro pins s σ H v u Q I r h;exact wpAny_assign_Name (a3X I hN hi hx r (fun s' I'=>⟨_,H,I',h⟩) hf)
def b3D:TGs:=fun vs σ H Q=>vs=[]/\Q σ H
def b3E(t:TG)(u:TGs):TGs:=fun vs σ H Q=>∃v r,vs=v::r/\t v σ H fun σ' H'=>u r σ' H' Q
theorem b3F:PGs X [] b3D:=by
 intro pins s σ H vs us Q I r h;obtain⟨e,h⟩:=h;subst e;cases r;exact assignInOrder_nil ⟨σ,H,I,h⟩
theorem b3G{e:Expr}{es:List Expr}{t:TG}{u:TGs}(h1:PG X e t)(h2:PGs X es u)
  (hs:(assignEach (e::es) X.env).map (·.2)=assign e X.env::(assignEach es X.env).map (·.2):=by rfl):PGs X (e::es) (b3E t u):=by
 intro pins s σ H vs us Q I r h;obtain⟨v,vr,e1,h⟩:=h;subst e1;cases r with
 |cons r rr=>
  rw[hs];refine assignInOrder_cons (thn (h1 pins s σ H _ _ _ I r h) fun _ s1 ⟨σ1,H1,I1,q1⟩=>?_)
  exact h2 pins s1 σ1 H1 _ _ Q I1 rr q1
def b3H(K:Qq)(n:Nat)(t:TGs):TG:=fun v σ H Q=>∃a xs,v=.ref a/\SqT K H a xs/\xs.length=n/\t xs σ H Q
theorem b3I{es:List Expr}{k:Nat}{t:TGs}{n:Nat}(hc:X.calm=true)(h:PGs X es t)
  (hn:(assignEach es X.env).length=n:=by rfl)(hst:(assignEach es X.env).findIdx? (·.1)=none:=by rfl):PG X (.Tuple es k pos) (b3H X.K n t):=by
 intro pins s σ H v u Q I r hw;obtain⟨a,xs,e1,hq,hl,hw⟩:=hw;subst e1;cases r;obtain⟨its,rv,ht,hz⟩:=I.tuple hq;refine assign_Tuple_tuple (I.ok.hd hc) ht (by simp[hn,←hl,rv.length]) hst fun h' hx=>?_
 have I1:Inv X pins σ H {s with heap:=h'}:=I.kept (t':=s.toks) fun b o e=>hx b o (Qi (Qu e)) e
 exact h pins _ σ H xs _ Q I1 (by simpa using rv) hw
def b3J(to ti:TE)(t:a6g):TG:=fun v σ H Q=>to σ H fun o H1=>ti σ H1 fun i H2=>t o i v H2 fun H3=>Q σ H3
theorem b3K{o i:Expr}{to ti:TE}{t:a6g}(ho:PE X o to)(hi:PE X i ti)(hs:a8U X t)
  (ha:∀v,assign (.Subscript o i pos) X.env v=(do
   let ov←holding [v] (eval o X.env)
   let iv←holding [v,ov] (eval i X.env)
   standAt pos
   holding [v,ov,iv] (setItem ov iv v)
   release [v,ov,iv] []):=by intro _;rfl):PG X (.Subscript o i pos) (b3J to ti t):=by
 intro pins s σ H v u Q I r h;rw[ha];refine Qz (Vy (thn (ho pins s σ H _ I h) fun ov s1 ⟨x,H1,I1,r1,q1⟩=>?_))
 refine Qz (Vy (thn (hi pins s1 σ H1 _ I1 q1) fun iv s2 ⟨y,H2,I2,r2,q2⟩=>?_))
 refine Qz (wpAny_standAt (Qz (Vy (thn (hs pins s2 σ H2 x y v ov iv u _ I2 r1 r2 r q2) fun _ s3 ⟨H3,I3,q3⟩=>?_))))
 exact wpAny_release ⟨σ,H3,I3,q3⟩
def a6i(te:TE)(g:TG):TS:=fun D σ H=>te σ H fun x H1=>g x σ H1 D.nx
theorem b3L{tg e:Expr}{te:TE}{g:TG}(he:PE X e te)(hg:PG X tg g)(hs:swapsWithSole [tg] e pos.line X.env=pure false:=by rfl)(hw:swappedStores [tg] e X.env=pure none:=by rfl)
  (h1:(assignEach [tg] X.env).map (·.2)=[assign tg X.env]:=by rfl):PS X (.Assign [tg] e pos) (a6i te g):=by
 intro pins s σ H D I h;refine wpAny_Assign_stores (thn (he pins s σ H _ I h) fun v s1 ⟨x,H1,I1,r1,q1⟩=>?_) hs hw
 rw[h1];exact thn (hg pins s1 σ H1 x v _ I1 r1 q1) fun _ s2 q=>q
theorem a4U{i:Nat}{x:Str}{e:Expr}{te:TE}{pos':Pos}(hN:X.N.Nodup)(hi:X.N[i]? =some x)(hx:Loc X.env.scope x)(he:PE X e te)(hs:swapsWith e (some (.Name x pos')) pos.line X.env=pure false:=by rfl)(hf:X.fn x=true∨X.env.scope.names.lookup x=some .local:=by first|exact .inl rfl|exact .inr rfl|assumption):
  PS X (.Assign [.Name x pos'] e pos) (a6i te (a6h i)):=by
 intro pins s σ H D I h;refine wpAny_Assign_Name (thn (he pins s σ H _ I h) fun v s1 ⟨y,H1,I1,r1,q1⟩=>?_) hs
 exact a3X I1 hN hi hx r1 (fun s2 I2=>⟨_,H1,I2,q1⟩) hf
def b3M(i:Nat)(te:TE)(ti:TIp):TS:=fun D σ H=>∃x,σ[i]? =some (some x)/\te σ H fun y H1=>ti x y H1 fun z H2=>D.nx (σ.set i (some z)) H2
theorem b3N{i:Nat}{x:Str}{e:Expr}{te:TE}{op:Operator}{ti:TIp}{pos':Pos}(hN:X.N.Nodup)(hi:X.N[i]? =some x)(hx:Loc X.env.scope x)(he:PE X e te)(ho:PIp X op ti)(hf:X.fn x=true∨X.env.scope.names.lookup x=some .local:=by first|exact .inl rfl|exact .inr rfl|assumption):
  PS X (.AugAssign (.Name x pos') op e pos) (b3M i te ti):=by
 intro pins s σ H D I h;obtain⟨v,e1,h⟩:=h;obtain⟨m,hn,hl⟩:=I.loc;have vis:Vis X.env.scope x:=by rcases hx with k|k;exact .inl k;exact .inr (.inl k)
 obtain⟨u,r,l⟩:=hl i x v hi e1 vis;refine wpAny_AugAssign_Name ?_
 have go:wpAny (model X.prog X.w) X.A (eval e X.env) (fun w s₂=>wpAny (model X.prog X.w) X.A (inplaceOp op u w) (fun r s₃=>wpAny (model X.prog X.w) X.A (storeName X.env x r) (fun _=>SP X pins D .next) X.xe s₃) X.xe s₂) X.xe s:=by
  refine thn (he pins s σ H _ I h) fun w s1 ⟨y,H1,I1,r1,q1⟩=>?_
  refine thn (ho pins s1 σ H1 v y u w _ I1 r r1 q1) fun z s2 ⟨zv,H2,I2,r2,q2⟩=>?_
  exact a3X I2 hN hi hx r2 (fun s3 I3=>⟨_,H2,I3,q2⟩) hf
 rcases l with⟨hk,hm⟩|⟨hk,c,hc,hcell⟩
 ·exact wpAny_loadName_local I.ok.kind hk hn hm go
 ·rcases hk with hk|hk
  ·exact wpAny_loadName_cell I.ok.kind hk hc hcell go
  ·rcases hx with k|k
   ·have:X.env.scope.names.lookup x=some .free:=hk
    rw[k]at this;cases this
   ·have:X.env.scope.names.lookup x=some .free:=hk
    rw[k]at this;cases this
end
section
variable{X:Cx}{pos:Pos}
end
structure It where
 go:Nat->Hp->Prop
 yld:Nat->Hp->V->Hp->Prop
 stop:Nat->Hp->Prop
def a0n(X:Cx)(pins:OX)(H:Hp)(b:Addr):Prop:=
 H b=none/\b≠X.env.locals/\b∉X.fs/\(b∈X.ex∨X.s₀.heap.objs.size≤b)/\(∀x c,X.env.cells.lookup x=some c->c≠b)/\∀p∈X.pn++pins,p.1≠b
theorem Inv.fpOk{X:Cx}{pins:OX}{σ:St}{H H':Hp}{s:Shared}{b:Addr}(I:Inv X pins σ H s)(hb:s.heap.objs.size≤b)(hn:H' b=none):a0n X pins H' b:=by
 refine⟨hn,Xw (Ql I.lt hb),I.nofs hb,.inr (Qt I.sz hb),fun x c e z=>?_,fun p hp z=>?_⟩
 ·obtain⟨v,q⟩:=I.cell x c e
  exact absurd (Ql q.lt (by rw[z];exact hb)) (Yh _)
 ·exact absurd (Ql (Qu (I.pin p hp).1) (by rw[z];exact hb)) (Yh _)
structure Turn(P:Program)(w:World)(K:Qq)(tg:Expr)(J:It)(fp:List Addr)(it:Addr)(tn:Nat->Heap->Prop):Prop where
 mem:it∈fp
 obj:∀i h,tn i h->∀b∈fp,∃o,h.get? b=some o/\∀v,o.data≠.cell v
 keep:∀i h h',tn i h->(∀b∈fp,∀o,h.get? b=some o->h'.get? b=some o)->tn i h'
 item:∀(X:Cx),X.prog=P->X.w=w->X.K=K->X.calm=true->∀(i:Nat) (pins:OX) (s:Shared) (σ:St) (H:Hp) (E:OE),Inv X pins σ H s->(∀b∈fp,a0n X pins H b)->tn i s.heap->J.go i H->
  wpAny (model P w) X.A (pyNext (.ref it)) (fun r s1=>∃u,r=some u/\
   wpAny (model P w) X.A (letOwnedTupleGo tg (.ref it) u) (fun _ s2=>∃x H',Inv X pins σ H' s2/\q9_ x u/\J.yld i H x H'/\tn (i+1) s2.heap/\∀b∈fp,H' b=none) E s1) E s
 done:∀(X:Cx),X.prog=P->X.w=w->X.K=K->X.calm=true->∀(i:Nat) (pins:OX) (s:Shared) (σ:St) (H:Hp) (E:OE),Inv X pins σ H s->(∀b∈fp,a0n X pins H b)->tn i s.heap->J.stop i H->
  wpAny (model P w) X.A (pyNext (.ref it)) (fun r s1=>r=none/\Inv X pins σ H s1) E s
 self:∀(A:Around) (i:Nat) (s:Shared) (Q:OE) (E:OE),tn i s.heap->Q (.ref it) s->wpAny (model P w) A (pyIter (.ref it)) Q E s
abbrev TI:=St->Hp->(It->Hp->Prop)->Prop
def PIE(X:Cx)(pins:OX)(σ:St)(tg:Expr)(R:It->Hp->Prop)(itv:Value)(s2:Shared):Prop:=
 ∃(it:Addr) (fp:List Addr) (tn:Nat->Heap->Prop) (J:It) (H':Hp),itv=.ref it/\Inv X pins σ H' s2/\Turn X.prog X.w X.K tg J fp it tn/\tn 0 s2.heap/\(∀b∈fp,a0n X pins H' b)/\R J H'
def PI(X:Cx)(tg iter:Expr)(wi:TI):Prop:=
 ∀(pins:OX) (s:Shared) (σ:St) (H:Hp) (R:It->Hp->Prop),Inv X pins σ H s->wi σ H R->
  wpAny (model X.prog X.w) X.A (eval iter X.env) (fun v s1=>wpAny (model X.prog X.w) X.A (pyIter v) (PIE X pins σ tg R) X.xe s1) X.xe s
theorem a4V{M:Model}{A:Around}{E:OE}{s:Shared}{tg:Expr}{it:Addr}{u:Value}{o:Obj}{n:String}{vs:Array Value}{Q:Unit->Shared->Prop}(ho:s.heap.get? it=some o)(hc:o.cls=.type n)(hd:o.data=.fields vs)
    (hn:["enumerate","zip","dict_itemiterator","dict_reverseitemiterator","odict_iterator","itertools.zip_longest","itertools.pairwise"].contains n=false)(hQ:Q () s):wpAny M A (letOwnedTupleGo tg (.ref it) u) Q E s:=by
  unfold letOwnedTupleGo;cases tg<;>first
    |exact Qd hQ
    | (cases u<;>first
        |exact Qd hQ
        | (refine Qz (wpAny_load ho ?_)
           rw[hc,hd];show wpAny M A (if(["enumerate","zip","dict_itemiterator","dict_reverseitemiterator","odict_iterator","itertools.zip_longest","itertools.pairwise"].contains n&&vs[0]? ==some (rawInt _))=true then _ else _) Q E s
           rw[Qr (by intro h;rw[hn,Jk]at h;cases h)]
           exact Qd hQ))
def Itl(K:Qq)(a:Addr):It:=
 ⟨fun i H=>∃xs x,SqL K H a xs/\xs[i]? =some x,fun i H x H'=>H'=H/\∀xs,SqL K H a xs->xs[i]? =some x,fun i H=>∃xs,SqL K H a xs/\xs.length≤i⟩
def Itt(K:Qq)(a:Addr):It:=
 ⟨fun i H=>∃xs x,SqT K H a xs/\xs[i]? =some x,fun i H x H'=>H'=H/\∀xs,SqT K H a xs->xs[i]? =some x,fun i H=>∃xs,SqT K H a xs/\xs.length≤i⟩
def Itr(lo:Int)(n:Nat):It:=⟨fun i _=>i<n,fun i H x H'=>H'=H/\x=.int (lo+i),fun i _=>n≤i⟩
theorem b3O{P:Program}{w:World}{K:Qq}{tg:Expr}(a it:Addr):Turn P w K tg (Itl K a) [it] it (fun i h=>h.IsListIter it a i)where
 mem:=by simp
 obj:=fun i h st b hb=>by
  have e:b=it:=by simpa using hb
  subst e;obtain⟨o,e,c,d⟩:=st;exact⟨o,e,fun v z=>by rw[d]at z;cases z⟩
 keep:=fun i h h' st k=>st.at fun o e=>k it (by simp) o e
 item:=by
  intro X hP hw hK hc i pins s σ H E I hf st hg;subst hP hw hK;obtain⟨xs,x,hq,hx⟩:=hg;obtain⟨its,rv,p,hz⟩:=I.list hq;obtain⟨u,hu,ru⟩:=rv.get hx;obtain⟨f0,f1,f2,f3,f4,f5⟩:=hf it (by simp)
  refine wpAny_pyNext_list_item st p.isList (x:=u) (by simpa using hu) fun h' st' sb=>?_
  have I1:Inv X pins σ H {s with heap:=h'}:=I.turned (t':=s.toks) (fun b o hb e=>(sb.2 b hb).trans e) f0 f1 f3 f4 f5
  obtain⟨o,e,c,d⟩:=id st';exact⟨u,rfl,a4V (s:={s with heap:=h'}) e c d (by decide) ⟨x,H,I1,ru,⟨rfl,fun ys hy=>by rw[I.list_inj hy hq];exact hx⟩,st',fun b hb=>(hf b hb).1⟩⟩
 done:=by
  intro X hP hw hK hc i pins s σ H E I hf st hg;subst hP hw hK;obtain⟨xs,hq,hx⟩:=hg;obtain⟨its,rv,p,hz⟩:=I.list hq;obtain⟨f0,f1,f2,f3,f4,f5⟩:=hf it (by simp)
  have hl:=rv.length
  exact wpAny_pyNext_list_end (I.ok.hd hc) st p.isList (by simp;omega) fun h' eb=>⟨rfl,I.turned (t':=s.toks) (fun b o hb e=>eb b o hb e) f0 f1 f3 f4 f5⟩
 self:=fun _ _ _ _ _ st h=>wpAny_pyIter_listiter st h
theorem b3P{P:Program}{w:World}{K:Qq}{tg:Expr}(a it:Addr):Turn P w K tg (Itt K a) [it] it (fun i h=>h.IsTupleIter it a i)where
 mem:=by simp
 obj:=fun i h st b hb=>by
  have e:b=it:=by simpa using hb
  subst e;obtain⟨o,e,c,d⟩:=st;exact⟨o,e,fun v z=>by rw[d]at z;cases z⟩
 keep:=fun i h h' st k=>st.at fun o e=>k it (by simp) o e
 item:=by
  intro X hP hw hK hc i pins s σ H E I hf st hg;subst hP hw hK;obtain⟨xs,x,hq,hx⟩:=hg;obtain⟨its,rv,p,hz⟩:=I.tuple hq;obtain⟨u,hu,ru⟩:=rv.get hx;obtain⟨f0,f1,f2,f3,f4,f5⟩:=hf it (by simp)
  refine wpAny_pyNext_tuple_item st (show s.heap.IsTuple a its.toArray from p) (x:=u) (by simpa using hu) fun h' st' sb=>?_
  have I1:Inv X pins σ H {s with heap:=h'}:=I.turned (t':=s.toks) (fun b o hb e=>(sb.2 b hb).trans e) f0 f1 f3 f4 f5
  obtain⟨o,e,c,d⟩:=id st';exact⟨u,rfl,a4V (s:={s with heap:=h'}) e c d (by decide) ⟨x,H,I1,ru,⟨rfl,fun ys hy=>by rw[I.tuple_inj hy hq];exact hx⟩,st',fun b hb=>(hf b hb).1⟩⟩
 done:=by
  intro X hP hw hK hc i pins s σ H E I hf st hg;subst hP hw hK;obtain⟨xs,hq,hx⟩:=hg;obtain⟨its,rv,p,hz⟩:=I.tuple hq;obtain⟨f0,f1,f2,f3,f4,f5⟩:=hf it (by simp)
  have hl:=rv.length
  exact wpAny_pyNext_tuple_end (I.ok.hd hc) st (show s.heap.IsTuple a its.toArray from p) (by simp;omega) fun h' eb=>⟨rfl,I.turned (t':=s.toks) (fun b o hb e=>eb b o hb e) f0 f1 f3 f4 f5⟩
 self:=fun _ _ _ _ _ st h=>wpAny_pyIter_tupleiter st h
theorem b3Q{P:Program}{w:World}{K:Qq}{tg:Expr}(it:Addr)(lo:Int)(n:Nat):Turn P w K tg (Itr lo n) [it] it (fun i h=>IsRangeIter h it (lo+(i:Nat) * 1) ((n:Int)-(i:Nat)) 1)where
 mem:=by simp
 obj:=fun i h st b hb=>by
  have e:b=it:=by simpa using hb
  subst e;exact⟨_,st,fun v z=>by
   have z':Data.fields _=Data.cell v:=z
   cases z'⟩
 keep:=fun i h h' st k=>k it (by simp) _ st
 item:=by
  intro X hP hw hK hc i pins s σ H E I hf st hg;subst hP hw hK;obtain⟨f0,f1,f2,f3,f4,f5⟩:=hf it (by simp)
  have W:=Walks.range (prog:=X.prog) (w:=X.w) (I.ok.hd hc) it lo 1 n
  refine W.item i s _ _ hg st fun v h' tk hv st' kk=>?_
  obtain⟨t,rfl⟩:=hv;have I1:Inv X pins σ H {s with heap:=h',toks:=tk}:=I.turned (fun b o hb e=>kk b o (by simpa using hb) e) f0 f1 f3 f4 f5
  refine⟨_,rfl,a4V (s:={s with heap:=h',toks:=tk}) (n:="range_iterator") st' rfl rfl (by decide) ⟨.int (lo+i),H,I1,⟨t,?_⟩,⟨rfl,rfl⟩,st',fun b hb=>(hf b hb).1⟩⟩
  rw[Int.mul_one]
 done:=by
  intro X hP hw hK hc i pins s σ H E I hf st hg;subst hP hw hK;obtain⟨f0,f1,f2,f3,f4,f5⟩:=hf it (by simp)
  exact wpAny_pyNext_range_end (I.ok.hd hc) st (by have:n≤i:=hg;omega) fun h' eb=>⟨rfl,I.turned (t':=s.toks) (fun b o hb e=>eb b o hb e) f0 f1 f3 f4 f5⟩
 self:=fun _ _ _ _ _ st h=>wpAny_pyIter_rangeiter st h
section
variable{X:Cx}{tg:Expr}
theorem b3R{pins:OX}{σ:St}{H:Hp}{s:Shared}{R:It->Hp->Prop}{E:OE}{lo hi:Int}{t u v:Tok}{tk:Nat}(I:Inv X pins σ H s)(h1: -(2^62)≤lo)(h2:lo<2^62)(h3: -(2^62)≤hi)(h4:hi<2^62)
  (q:R (Itr lo (hi-lo).toNat) H):wpAny (model X.prog X.w) X.A (pyIter (.ref s.heap.objs.size)) (PIE X pins σ tg R) E {s with heap:=s.heap.push {cls:=.type "range",data:=.fields #[.int lo t,.int hi u,.int 1 v]},toks:=tk}:=by
 refine wpAny_pyIter_range (IsRange.new ..) (small_one h1 h2 h3 h4) ?_
 have I1:Inv X pins σ H {s with heap:=s.heap.push {cls:=.type "range",data:=.fields #[.int lo t,.int hi u,.int 1 v]},toks:=tk}:=I.kept fun b o e=>Qj _ e
 refine⟨(s.heap.push {cls:=.type "range",data:=.fields #[.int lo t,.int hi u,.int 1 v]}).objs.size,[(s.heap.push {cls:=.type "range",data:=.fields #[.int lo t,.int hi u,.int 1 v]}).objs.size],_,_,H,rfl,
  I1.kept (t':=tk) fun b o e=>Qj _ e,b3Q _ lo (hi-lo).toNat,?_,fun b hb=>?_,q⟩
 ·have e1:lo+((0:Nat):Int) * 1=lo:=by simp
  have e2:(((hi-lo).toNat:Nat):Int)-((0:Nat):Int)=Builtin.Range.rangeSize lo hi 1:=by rw[rangeSize_one];split<;>omega
  show IsRangeIter _ _ (lo+((0:Nat):Int) * 1) ((((hi-lo).toNat:Nat):Int)-((0:Nat):Int)) 1;rw[e1,e2];exact Qh _ rfl
 ·have e:b=(s.heap.push {cls:=.type "range",data:=.fields #[.int lo t,.int hi u,.int 1 v]}).objs.size:=by simpa using hb
  subst e;exact I1.fpOk (Qw _) (I1.hok.fresh (Qw _))
def b3S(ta:TA):TI:=fun σ H R=>ta σ H fun vs H1=>∃j:Int,vs=[.int j]/\ -(2^62)≤j/\j<2^62/\R (Itr 0 j.toNat) H1
theorem b3T{a:Expr}{ta:TA}{p pos:Pos}(hg:Gl X "range")(hm:X.mg "range"=none)(ha:PA X [a] ta)(hs:starEach [a] X.env=[(false,eval a X.env)]:=by rfl):PI X tg (.Call (.Name "range" p) [a] [] pos) (b3S ta):=by
 intro pins s σ H R I h;refine Call_ (a3Z I hg hm boot_range (Uf (thn (ha pos pins s σ H _ I h) fun us s1 ⟨vs,H1,I1,r1,q1⟩=>?_) hs rfl))
 obtain⟨j,e,q1,q2,q⟩:=q1;subst e;cases r1 with
 |cons r rr=>
  cases rr;obtain⟨t,rfl⟩:=r;exact call_range_1 (b3R I1 (by omega) (by omega) q1 q2 (by simpa using q))
def b3U(wi:TI)(g:TG)(tb:TS):TS:=fun D σ H=>wi σ H fun J H1=>∃W:Nat->Nat->St->Hp->Prop,(∃m,W 0 m σ H1)/\∀i m σ H,W i m σ H->
 (J.stop i H/\D.nx σ H)∨(J.go i H/\∃N:St->Hp->Prop,(∀σ' H',N σ' H'->∃m',m'<m/\W (i+1) m' σ' H')/\∀x H',J.yld i H x H'->g x σ H' fun σ2 H2=>tb {D with nx:=N,ct:=N,bk:=D.nx} σ2 H2)
def a4a(fp:List Addr)(h:Heap):OX:=fp.filterMap fun b=>(h.get? b).map fun o=>(b,o)
theorem a4W{fp:List Addr}{h:Heap}{b:Addr}{o:Obj}(hb:b∈fp)(e:h.get? b=some o):(b,o)∈a4a fp h:=Ys.mpr ⟨b,hb,by rw[e];rfl⟩
theorem b3V{fp:List Addr}{h:Heap}{p:Addr×Obj}(hp:p∈a4a fp h):p.1∈fp/\h.get? p.1=some p.2:=by
 obtain⟨b,hb,e⟩:=Ys.mp hp;cases q:h.get? b with
 |none=>rw[q]at e;cases e
 |some o=>
  rw[q]at e;have e':(b,o)=p:=Yb e;subst e';exact⟨hb,q⟩
theorem Inv.pinned{pins:OX}{σ:St}{H:Hp}{s:Shared}{fp:List Addr}(I:Inv X pins σ H s)(hf:∀b∈fp,a0n X pins H b)(ho:∀b∈fp,∃o,s.heap.get? b=some o/\∀v,o.data≠.cell v):Inv X (pins++a4a fp s.heap) σ H s:=
 I.pins_of fun p hp=>(Yx.mp hp).elim (fun z=>I.pin p (Zm _ z)) fun z=>by
  obtain⟨hb,e⟩:=b3V z;obtain⟨f0,f1,f2,_⟩:=hf p.1 hb;obtain⟨o,e',d⟩:=ho p.1 hb;rw[e]at e';cases e';exact⟨e,f0,f1,f2,d⟩
theorem Inv.unpinned{pins pl:OX}{σ:St}{H:Hp}{s:Shared}(I:Inv X (pins++pl) σ H s):Inv X pins σ H s:=I.pins_of fun p hp=>I.pin p (Zm _ (List.mem_append_left _ hp))
theorem b3W{iter:Expr}{body:List Stmt}{wi:TI}{g:TG}{tb:TS}{pos:Pos}(hp:PassesOwn (model X.prog X.w) X.A X.env X.xe)(hc:X.calm=true)(hi:PI X tg iter wi)(hg:PG X tg g)(hb:PSs X body tb)
  (hs:∀x,foldedSetIterable iter X.env x=pure x:=by intro _;rfl):PS X (.For tg iter body [] pos) (b3U wi g tb):=by
 intro pins s σ H D I h;refine wpAny_For (thn (hi pins s σ H _ I h) fun v s1 h1=>thn h1 fun itv s2 h2=>?_) hs
 obtain⟨it,fp,tn,J,H2,e,I2,T,st2,f2,W,⟨m0,w0⟩,turn⟩:=h2;subst e;have stat:∀{H':Hp},(∀b∈fp,H' b=none)->∀b∈fp,a0n X pins H' b:=fun hn b hb=>⟨hn b hb,(f2 b hb).2⟩
 refine codeAny_forLoop_any (fun n s'=>∃i σ' H',Inv X pins σ' H' s'/\tn i s'.heap/\(∀b∈fp,H' b=none)/\W i n σ' H') ?_ m0 ⟨0,σ,H2,I2,st2,fun b hb=>(f2 b hb).1,w0⟩
 rintro n s3 ⟨i,σ3,H3,I3,st3,fr3,w3⟩
 rcases turn i n σ3 H3 w3 with⟨stop,qn⟩|⟨go,N,hN,step⟩
 ·refine Ui hp (thn (T.done X rfl rfl rfl hc i pins s3 σ3 H3 X.xe I3 (stat fr3) st3 stop) fun r s4 ⟨hr,I4⟩=>?_)
  subst hr;exact Us ⟨σ3,H3,I4,qn⟩
 ·refine Ui hp (thn (T.item X rfl rfl rfl hc i pins s3 σ3 H3 X.xe I3 (stat fr3) st3 go) fun r s4 ⟨u,hr,h4⟩=>?_)
  subst hr;refine Ui hp (thn h4 fun _ s5 ⟨x,H5,I5,r5,y5,st5,fr5⟩=>?_)
  have I5':=I5.pinned (stat fr5) (T.obj _ _ st5)
  refine Ui hp (thn (hg _ s5 σ3 H5 x u _ I5' r5 (step x H5 y5)) fun _ s6 ⟨σ6,H6,I6,q6⟩=>?_)
  refine Ui hp (thn (hb _ s6 σ6 H6 _ I6 q6) fun f s7 q7=>?_)
  have again:∀{σ7:St}{H7:Hp},Inv X (pins++a4a fp s5.heap) σ7 H7 s7->N σ7 H7->∃m,m<n/\∃i σ' H',Inv X pins σ' H' s7/\tn i s7.heap/\(∀b∈fp,H' b=none)/\W i m σ' H':=fun{σ7 H7} I7 n7=>by
   obtain⟨m',hm,w7⟩:=hN σ7 H7 n7;refine⟨m',hm,i+1,σ7,H7,I7.unpinned,T.keep _ _ _ st5 fun b hb o e=>(I7.pin (b,o) (Zm _ (Zm _ (a4W hb e)))).1,fun b hb=>?_,w7⟩
   obtain⟨o,e,d⟩:=T.obj _ _ st5 b hb;exact(I7.pin (b,o) (Zm _ (Zm _ (a4W hb e)))).2.1
  cases f with
  |next=>obtain⟨σ7,H7,I7,n7⟩:=q7;exact again I7 n7
  |cont=>obtain⟨σ7,H7,I7,n7⟩:=q7;exact again I7 n7
  |brk=>obtain⟨σ7,H7,I7,q7⟩:=q7;exact⟨σ7,H7,I7.unpinned,q7⟩
  |ret v=>obtain⟨x7,σ7,H7,I7,r7,q7⟩:=q7;exact⟨x7,σ7,H7,I7.unpinned,r7,q7⟩
end
abbrev R2:=V->V->Hp->VK->Prop
def OpR(X:Cx)(f:Value->Value->Sem Value)(r:R2):Prop:=
 ∀(pins:OX) (s:Shared) (σ:St) (H:Hp) (x y:V) (v u:Value) (Q:VK),Inv X pins σ H s->q9_ x v->q9_ y u->r x y H Q->
  wpAny (model X.prog X.w) X.A (f v u) (EP X pins σ Q) X.xe s
def UnR(X:Cx)(f:Value->Sem Value)(r:V->Hp->VK->Prop):Prop:=
 ∀(pins:OX) (s:Shared) (σ:St) (H:Hp) (x:V) (v:Value) (Q:VK),Inv X pins σ H s->q9_ x v->r x H Q->
  wpAny (model X.prog X.w) X.A (f v) (EP X pins σ Q) X.xe s
def k3_(X:Cx)(f:Value)(r:List V->Hp->VK->Prop):Prop:=
 ∀(pins:OX) (s:Shared) (σ:St) (H:Hp) (xs:List V) (us:List Value) (Q:VK),Inv X pins σ H s->q3_ xs us->r xs H Q->
  wpAny (model X.prog X.w) X.A (call f us) (EP X pins σ Q) X.xe s
def tOp(r:R2)(ta tb:TE):TE:=fun σ H Q=>ta σ H fun x H1=>tb σ H1 fun y H2=>r x y H2 Q
def tUn(r:V->Hp->VK->Prop)(ta:TE):TE:=fun σ H Q=>ta σ H fun x H1=>r x H1 Q
def rI(C:Int->Int->Prop)(g:Int->Int->V):R2:=fun x y H Q=>∃i j,x=.int i/\y=.int j/\C i j/\Q (g i j) H
def rI0(g:Int->Int->V):R2:=fun x y H Q=>∃i j,x=.int i/\y=.int j/\Q (g i j) H
def rU(g:Int->V):V->Hp->VK->Prop:=fun x H Q=>∃i,x=.int i/\Q (g i) H
section
variable{X:Cx}{a b c:Expr}{ta tb tc:TE}{pos:Pos}
theorem a6j(ha:PE X a ta)(hb:PE X b tb){pins:OX}{s:Shared}{σ:St}{H:Hp}{R:V->V->Hp->Prop}(I:Inv X pins σ H s)
  (h:ta σ H fun x H1=>tb σ H1 fun y H2=>R x y H2){Q:OE}{f:Value->Value->Sem Value}
  (hf:∀v u s2 x y H2,Inv X pins σ H2 s2->q9_ x v->q9_ y u->R x y H2->wpAny (model X.prog X.w) X.A (f v u) Q X.xe s2):
  wpAny (model X.prog X.w) X.A (eval a X.env) (fun v s₁=>wpAny (model X.prog X.w) X.A (eval b X.env) (fun u s₂=>wpAny (model X.prog X.w) X.A (f v u) Q X.xe s₂) X.xe s₁) X.xe s:=by
 refine thn (ha pins s σ H _ I h) fun v s1 ⟨x,H1,I1,r1,q1⟩=>?_
 refine thn (hb pins s1 σ H1 _ I1 q1) fun u s2 ⟨y,H2,I2,r2,q2⟩=>?_
 exact hf v u s2 x y H2 I2 r1 r2 q2
theorem a8V{op:Operator}{r:R2}(ho:OpR X (binaryOp op) r)(ha:PE X a ta)(hb:PE X b tb):PE X (.BinOp a op b pos) (tOp r ta tb):=by
 intro pins s σ H Q I h;exact wpAny_BinOp (a6j ha hb I h fun v u s2 x y H2 I2 rx ry q=>ho pins s2 σ H2 x y v u Q I2 rx ry q)
theorem a8W{op:UnaryOp}{r:V->Hp->VK->Prop}(ho:UnR X (unaryOp op) r)(ha:PE X a ta):PE X (.UnaryOp op a pos) (tUn r ta):=by
 intro pins s σ H Q I h;exact UnaryOp_ (thn (ha pins s σ H _ I h) fun v s1 ⟨x,H1,I1,r1,q1⟩=>ho pins s1 σ H1 x v Q I1 r1 q1)
theorem opI{f:Value->Value->Sem Value}{C:Int->Int->Prop}{g:Int->Int->Int}
  (rule:∀(i j:Int) (t u:Tok) (s:Shared) (Q:OE) (E:OE),C i j->Q (.int (g i j) s.toks) {s with toks:=s.toks+1}->wpAny (model X.prog X.w) X.A (f (.int i t) (.int j u)) Q E s):
  OpR X f (rI C fun i j=>.int (g i j)):=by
 intro pins s σ H x y v u Q I rx ry h;obtain⟨i,j,rfl,rfl,hc,q⟩:=h;obtain⟨t,rfl⟩:=rx;obtain⟨t',rfl⟩:=ry;exact rule i j t t' s _ _ hc ⟨.int (g i j),H,I.tok _,⟨_,rfl⟩,q⟩
theorem a6k{f:Value->Value->Sem Value}{g:Int->Int->Int}
  (rule:∀(i j:Int) (t u:Tok) (s:Shared) (Q:OE) (E:OE),Q (.int (g i j) s.toks) {s with toks:=s.toks+1}->wpAny (model X.prog X.w) X.A (f (.int i t) (.int j u)) Q E s):
  OpR X f (rI0 fun i j=>.int (g i j)):=by
 intro pins s σ H x y v u Q I rx ry h;obtain⟨i,j,rfl,rfl,q⟩:=h;obtain⟨t,rfl⟩:=rx;obtain⟨t',rfl⟩:=ry;exact rule i j t t' s _ _ ⟨.int (g i j),H,I.tok _,⟨_,rfl⟩,q⟩
theorem a6l{f:Value->Value->Sem Value}{g:Int->Int->Bool}
  (rule:∀(i j:Int) (t u:Tok) (s:Shared) (Q:OE) (E:OE),Q (.bool (g i j)) s->wpAny (model X.prog X.w) X.A (f (.int i t) (.int j u)) Q E s):
  OpR X f (rI0 fun i j=>.bl (g i j)):=by
 intro pins s σ H x y v u Q I rx ry h;obtain⟨i,j,rfl,rfl,q⟩:=h;obtain⟨t,rfl⟩:=rx;obtain⟨t',rfl⟩:=ry;exact rule i j t t' s _ _ ⟨.bl (g i j),H,I,rfl,q⟩
def a6m(i j:Int):Prop:=0<j/\j<1073741824
def a6n(i j:Int):Prop:=0≤j/\j≤1000000/\i.natAbs<2^64
def a2w(i j:Int):Prop:=(-(2^64)<i/\i<2^64)∨(-(2^64)<j/\j<2^64)
theorem a2w.ok{i j:Int}(h:a2w i j):IntMulOk i j:=by
 rcases h with⟨h1,h2⟩|⟨h1,h2⟩
 ·exact .of_left (intBits_le_64 h1 h2)
 ·exact .of_right (intBits_le_64 h1 h2)
theorem b3X:OpR X (binaryOp .Add) (rI0 fun i j=>.int (i+j)):=a6k fun _ _ _ _ _ _ _ q=>add_int q
theorem a6o:OpR X (binaryOp .Sub) (rI0 fun i j=>.int (i-j)):=a6k fun _ _ _ _ _ _ _ q=>sub_int q
theorem b3Y:OpR X (binaryOp .Mult) (rI a2w fun i j=>.int (i * j)):=opI fun _ _ _ _ _ _ _ hc q=>mul_int q hc.ok
theorem a8X:OpR X (binaryOp .FloorDiv) (rI a6m fun i j=>.int (i/j)):=opI fun i j _ _ _ _ _ hc q=>by
 have h1:(0:Int)<j:=hc.1
 have h2:j<1073741824:=hc.2
 exact floordiv_int (by omega) (by rw[Int.fdiv_eq_ediv_of_nonneg i (by omega)];exact q) (.inl (PyProof.noPylong_small (by omega)))
theorem a1N:OpR X (binaryOp .Mod) (rI (fun _ j=>0<j) fun i j=>.int (i%j)):=opI fun i j _ _ _ _ _ hc q=>by
 have h1:(0:Int)<j:=hc
 exact mod_int' (by omega) (by rw[Int.fmod_eq_emod_of_nonneg i (by omega)];exact q)
theorem a8Y:OpR X (binaryOp .Pow) (rI a6n fun i j=>.int (i^j.toNat)):=opI fun _ _ _ _ _ _ _ hc q=>pow_int_small hc.1 hc.2.1 hc.2.2 q
theorem b3Z:OpR X (inplaceOp .Add) (rI0 fun i j=>.int (i+j)):=a6k fun _ _ _ _ _ _ _ q=>iadd_int q
theorem unI{f:Value->Sem Value}{g:Int->Int}
  (rule:∀(i:Int) (t:Tok) (s:Shared) (Q:OE) (E:OE),Q (.int (g i) s.toks) {s with toks:=s.toks+1}->wpAny (model X.prog X.w) X.A (f (.int i t)) Q E s):
  UnR X f (rU fun i=>.int (g i)):=by
 intro pins s σ H x v Q I rx h;obtain⟨i,rfl,q⟩:=h;obtain⟨t,rfl⟩:=rx;exact rule i t s _ _ ⟨.int (g i),H,I.tok _,⟨_,rfl⟩,q⟩
theorem a8Z:UnR X (unaryOp .USub) (rU fun i=>.int (-i)):=unI fun _ _ _ _ _ q=>neg_int q
end
section
variable{X:Cx}{a b c:Expr}{ta tb tc:TE}{pos:Pos}
theorem b4a{pins:OX}{σ:St}{H:Hp}{s:Shared}{Q:VK}{k k':Bool}(I:Inv X pins σ H s)(q:Q (.bl k) H)(e:k=k'):EP X pins σ Q (.bool k') s:=by
 subst e;exact⟨.bl k,H,I,rfl,q⟩
theorem a9a:OpR X (compareOp .Lt) (rI0 fun i j=>.bl (decide (i<j))):=a6l fun _ _ _ _ _ _ _ q=>lt_int q
theorem a1e:OpR X (compareOp .LtE) (rI0 fun i j=>.bl (decide (i≤j))):=a6l fun _ _ _ _ _ _ _ q=>le_int q
theorem b4b:OpR X (compareOp .GtE) (rI0 fun i j=>.bl (decide (j≤i))):=a6l fun _ _ _ _ _ _ _ q=>ge_int q
theorem a9b:OpR X (compareOp .Is) (fun x y H Q=>y=.non/\Q (.bl (decide (x=.non))) H):=by
 intro pins s σ H x y v u Q I rx ry h;obtain⟨rfl,q⟩:=h;cases ry;refine is_none_gen (b4a I q ?_);cases x<;>first
  |(cases rx;rfl)
  |(obtain⟨t,rfl⟩:=rx;rfl)
theorem OpR.or{f:Value->Value->Sem Value}{r r':R2}(h:OpR X f r)(h':OpR X f r'):OpR X f (fun x y H Q=>r x y H Q∨r' x y H Q):=by
 intro pins s σ H x y v u Q I rx ry q
 rcases q with q|q
 ·exact h pins s σ H x y v u Q I rx ry q
 ·exact h' pins s σ H x y v u Q I rx ry q
theorem nomark(b:Expr){op:CmpOp}(h:op≠.In:=by decide)(h2:op≠.NotIn:=by decide):behindInMarks op b=false:=by
 have e1:(op==CmpOp.In)=false:=by cases op<;>first|rfl|exact absurd rfl h
 have e2:(op==CmpOp.NotIn)=false:=by cases op<;>first|rfl|exact absurd rfl h2
 cases b<;>simp[behindInMarks,e1,e2]
theorem b4c{op:CmpOp}{r:R2}(ho:OpR X (compareOp op) r)(ha:PE X a ta)(hb:PE X b tb)(hm:behindInMarks op b=false):PE X (.Compare a [op] [b] pos) (tOp r ta tb):=by
 intro pins s σ H Q I h;exact wpAny_Compare1 (a6j ha hb I h fun v u s2 x y H2 I2 rx ry q=>ho pins s2 σ H2 x y v u Q I2 rx ry q) hm
def a9c(t:TE):TT:=fun σ H Q=>t σ H fun x H'=>∃k,x=.bl k/\Q k H'
theorem b4d{op:CmpOp}{r:R2}(ho:OpR X (compareOp op) r)(ha:PE X a ta)(hb:PE X b tb)(hm:behindInMarks op b=false):PT X (.Compare a [op] [b] pos) (a9c (tOp r ta tb)):=by
 intro pins s σ H Q I h;refine wpAny_isTrue_Compare1 (thn (ha pins s σ H _ I h) fun v s1 ⟨x,H1,I1,r1,q1⟩=>thn (hb pins s1 σ H1 _ I1 q1) fun u s2 ⟨y,H2,I2,r2,q2⟩=>
  thn (ho pins s2 σ H2 x y v u _ I2 r1 r2 q2) fun c s3 ⟨z,H3,I3,r3,k,e,q3⟩=>?_) hm
 subst e;cases r3;exact Yq ⟨H3,I3,q3⟩
def a6p(r r':R2)(ta tb tc:TE):TE:=fun σ H Q=>ta σ H fun x H1=>tb σ H1 fun y H2=>r x y H2 fun z H3=>∃k,z=.bl k/\
 (if k=true then tc σ H3 fun w' H4=>r' y w' H4 Q else Q (.bl false) H3)
theorem b4e{op op':CmpOp}{r r':R2}(ho:OpR X (compareOp op) r)(ho':OpR X (compareOp op') r')(ha:PE X a ta)(hb:PE X b tb)(hc:PE X c tc)
  (hm:lastMarks [op,op'] [b,c]=false:=by with_unfolding_all rfl):PE X (.Compare a [op,op'] [b,c] pos) (a6p r r' ta tb tc):=by
 intro pins s σ H Q I h;refine Compare_chain (thn (ha pins s σ H _ I h) fun v s1 ⟨x,H1,I1,r1,q1⟩=>chain_link (thn (hb pins s1 σ H1 _ I1 q1) fun u s2 ⟨y,H2,I2,r2,q2⟩=>
  thn (ho pins s2 σ H2 x y v u _ I2 r1 r2 q2) fun d s3 ⟨z,H3,I3,r3,k,e,q3⟩=>?_)) hm
 subst e;cases r3;refine Yq ?_
 cases k with
 |false=>exact ite_ff ⟨.bl false,H3,I3,rfl,q3⟩
 |true=>exact ite_tt (chain_last (thn (hc pins s3 σ H3 _ I3 q3) fun w' s4 ⟨z',H4,I4,r4,q4⟩=>ho' pins s4 σ H4 y z' u w' Q I4 r2 r4 q4))
theorem b4f{op op':CmpOp}{r r':R2}(ho:OpR X (compareOp op) r)(ho':OpR X (compareOp op') r')(ha:PE X a ta)(hb:PE X b tb)(hc:PE X c tc)
  (hm:lastMarks [op,op'] [b,c]=false:=by with_unfolding_all rfl):PT X (.Compare a [op,op'] [b,c] pos) (a9c (a6p r r' ta tb tc)):=by
 intro pins s σ H Q I h;refine isTrue_chain (thn (ha pins s σ H _ I h) fun v s1 ⟨x,H1,I1,r1,q1⟩=>test_link (thn (hb pins s1 σ H1 _ I1 q1) fun u s2 ⟨y,H2,I2,r2,q2⟩=>
  thn (ho pins s2 σ H2 x y v u _ I2 r1 r2 q2) fun d s3 ⟨z,H3,I3,r3,k,e,q3⟩=>?_)) hm
 subst e;cases r3;refine Yq ?_
 cases k with
 |false=>
  obtain⟨k',e',q'⟩:=q3;cases e';exact ite_ff ⟨H3,I3,q'⟩
 |true=>
  refine ite_tt (test_last (thn (hc pins s3 σ H3 _ I3 q3) fun w' s4 ⟨z',H4,I4,r4,q4⟩=>thn (ho' pins s4 σ H4 y z' u w' _ I4 r2 r4 q4) fun d' s5 ⟨z2,H5,I5,r5,k2,e2,q5⟩=>?_))
  subst e2;cases r5;exact Yq ⟨H5,I5,q5⟩
theorem a3f:(sizeLine:Nat)<2^63:=by rw[Jl];decide
theorem b4g:OpR X (binaryOp .Add) (fun x y H Q=>∃i j,x=.str i/\y=.str j/\i.length+j.length≤sizeLine/\Q (.str (i++j)) H):=by
 intro pins s σ H x y v u Q I rx ry h;obtain⟨i,j,rfl,rfl,hz,q⟩:=h;obtain⟨t,rfl⟩:=rx;obtain⟨t',rfl⟩:=ry;exact add_str (fun t' tk=>⟨.str (i++j),H,I.tok _,⟨_,rfl⟩,q⟩) hz
theorem a1x{x:V}{us:List Value}(r:q3_ [x] us):∃u,us=[u]/\q9_ x u:=by
 cases r with
 |cons r1 r2=>cases r2;exact⟨_,rfl,r1⟩
theorem a1O{x y:V}{us:List Value}(r:q3_ [x,y] us):∃u w',us=[u,w']/\q9_ x u/\q9_ y w':=by
 cases r with
 |cons r1 r2=>
  cases r2 with
  |cons r3 r4=>cases r4;exact⟨_,_,rfl,r1,r3⟩
theorem b4h(hc:X.calm=true):k3_ X (.builtin "max") (fun xs H Q=>∃i j,xs=[.int i,.int j]/\Q (.int (if j>i then j else i)) H):=by
 intro pins s σ H xs us Q I r h;obtain⟨i,j,rfl,q⟩:=h;obtain⟨u,w',rfl,⟨t,rfl⟩,⟨t',rfl⟩⟩:=a1O r;refine max_two_ints (I.ok.hd hc) fun h' tk k=>⟨_,H,I.kept k,?_,q⟩
 by_cases hj:j>i
 ·rw[Qn hj,Qn hj];exact⟨_,rfl⟩
 ·rw[Qr hj,Qr hj];exact⟨_,rfl⟩
theorem b4i(hc:X.calm=true):k3_ X (.builtin "min") (fun xs H Q=>∃i j,xs=[.int i,.int j]/\Q (.int (if j<i then j else i)) H):=by
 intro pins s σ H xs us Q I r h;obtain⟨i,j,rfl,q⟩:=h;obtain⟨u,w',rfl,⟨t,rfl⟩,⟨t',rfl⟩⟩:=a1O r;refine min_two_ints (I.ok.hd hc) fun h' tk k=>⟨_,H,I.kept k,?_,q⟩
 by_cases hj:j<i
 ·rw[Qn hj,Qn hj];exact⟨_,rfl⟩
 ·rw[Qr hj,Qr hj];exact⟨_,rfl⟩
theorem b4j:k3_ X (.type "int") (fun xs H Q=>(∃i,xs=[.int i]/\Q (.int i) H)∨ ∃k,xs=[.bl k]/\Q (.int (if k then 1 else 0)) H):=by
 intro pins s σ H xs us Q I r h
 rcases h with⟨i,rfl,q⟩|⟨k,rfl,q⟩
 ·obtain⟨u,rfl,t,rfl⟩:=a1x r
  exact call_int_int ⟨.int i,H,I,⟨_,rfl⟩,q⟩
 ·obtain⟨u,rfl,r1⟩:=a1x r
  cases r1;exact call_int_bool ⟨.int (if k then 1 else 0),H,I.tok _,⟨_,rfl⟩,q⟩
end
structure ObjM(h:Heap)(x dx C:Addr)(mA:OU):Prop where
 obj:h.get? x=some (PySem.W.instObj C dx)
 ns:h.Ns1 dx mA
 ne:dx≠x
theorem b4k{h:Heap}{dx:Addr}{mA:OU}(n:h.Ns1 dx mA):∃od,h.get? dx=some od/\∀name,PySem.W.lookIn name od=some (mA name):=by
 obtain⟨o,es,ep,ho,hd,hk,_,hm⟩:=n;refine⟨o,ho,fun name=>?_⟩
 have e:=hm name
 unfold nsFind findBy at e;rw[←Array.find?_toList]at e;unfold PySem.W.lookIn;rw[hd];dsimp only;split
 ·rename_i y q
  rw[q]at e;exact Jr some e
 ·rename_i q
  rw[q]at e;have a:es.toList.any (·.refKey)=false:=by
   rw[List.any_eq_false];intro y hy;obtain⟨z,t,hkey⟩:=hk y (Array.mem_toList_iff.mp hy)
   simp[DictEntry.refKey,hkey]
  have a':¬ es.toList.any (·.refKey)=true:=by rw[a];exact Yv
  rw[Qr a'];exact Jr some e
theorem ObjM.look{h:Heap}{x dx C:Addr}{mA:OU}(I:ObjM h x dx C mA):∃od,PySem.W.InstAt h x (PySem.W.instObj C dx) C (some od)/\∀name,PySem.W.lookIn name od=some (mA name):=
 let ⟨od,ho,hl⟩:=b4k I.ns
 ⟨od,⟨I.obj,rfl,rfl,ho⟩,hl⟩
section
variable{prog:Program}{w:World}{A:Around}{E:OE}{s:Shared}{K:Qq}{x dx C f:Addr}{mA:OU}{name:Str}{v:Value}
end
theorem a0m.some_of{v:V}{o:Option Value}(r:a0m (some v) o):∃u,o=some u/\q9_ v u:=by
 cases o with
 |none=>exact(show False from r).elim
 |some u=>exact⟨u,rfl,r⟩
section
variable{P:Program}{w:World}{H H':Hp}{h h':Heap}{a C dx:Addr}{fs fs':List (Str×V)}
theorem b4l(hok:HOk P w H h)(e:H a=some (.ins C dx fs)):∃mA,ObjM h a dx C mA/\(∀f,a0m (fs.lookup f) (mA f))/\PySem.Within mA (fs.map (·.1))/\fs.length≤1000/\H dx=some (.own a):=by
 obtain⟨d,z,ne,ob,mA,n,r,q⟩:=(show x5_ P w H h a (.ins C dx fs)from hok a _ e)
 exact⟨mA,⟨ob,n,ne⟩,r,q,z,d⟩
end
structure Cls(K:Qq)(C:Addr):Prop where
 pg:PySem.W.plainGet K C Str.empty=true
 hd:PySem.W.hasDictIn K C=true
 po:PySem.W.plainOver K C=true
 sa:PySem.W.findIn K (.ref C) "__setattr__"=some (some (.builtin "object.__setattr__"))
theorem Cls.get{K:Qq}{C:Addr}(c:Cls K C)(f:Str):PySem.W.plainGet K C f=true:=c.pg
structure Con(K:Qq)(C:Addr)(f:Str)(v:V)(u:Value):Prop where
 at_:PySem.W.findIn K (.ref C) f=some (some u)
 rel:q9_ v u
 get:PySem.W.specialIn K u "__get__"=some none
 cp:PySem.W.copiedNames.contains f=false
structure Meth(K:Qq)(C:Addr)(m:Str)(f:Addr):Prop where
 at_:PySem.W.findIn K (.ref C) m=some (some (.ref f))
 fn:PySem.W.isFn K (.ref f)=true
 kp:PySem.W.keepIn K (.ref f)=true
section
variable{X:Cx}{pins:OX}{σ:St}{H:Hp}{s:Shared}{a C dx:Addr}{fs:List (Str×V)}{f:Str}{v:V}{A:Around}{E:OE}
theorem Inv.made(I:Inv X pins σ H s):Inv X pins σ (upd (upd H s.heap.objs.size (.own (s.heap.objs.size+1))) (s.heap.objs.size+1) (.ins C s.heap.objs.size []))
  {s with heap:=(s.heap.push PySem.W.emptyDict).push (PySem.W.instObj C s.heap.objs.size)}:=by
 have e1:(s.heap.push PySem.W.emptyDict).get? s.heap.objs.size=some PySem.W.emptyDict:=Qh s.heap rfl
 have e2:((s.heap.push PySem.W.emptyDict).push (PySem.W.instObj C s.heap.objs.size)).get? (s.heap.objs.size+1)=some (PySem.W.instObj C s.heap.objs.size):=by
  have:=Qh (s.heap.push PySem.W.emptyDict) (o:=PySem.W.instObj C s.heap.objs.size) rfl;rwa [Zt]at this
 have e3:(s.heap.push PySem.W.emptyDict).Ns s.heap.objs.size (fun _=>none):=⟨PySem.W.emptyDict,#[],_,e1,rfl,(fun e he=>absurd he (by simp)),fun _=>rfl⟩
 have I1:=I.laid (a:=s.heap.objs.size) (o:=.own (s.heap.objs.size+1)) (h':=s.heap.push PySem.W.emptyDict) (t':=s.toks) (fun b u q=>Qj _ q) (Qw _) ⟨_,e1⟩
 refine I1.laid (a:=s.heap.objs.size+1) (o:=.ins C s.heap.objs.size []) (t':=s.toks) (fun b u q=>Qj _ q) (Xy (Zt _ _)) ?_
 have ne:s.heap.objs.size≠s.heap.objs.size+1:=Qi (Nat.lt_succ_self _)
 refine⟨by rw[q4_ ne,y3_],Jd _,ne,e2,fun _=>none,(Heap.Ns1.of_empty e3).at fun o q=>Qj _ q,fun _=>True.intro,fun y hy=>absurd rfl hy⟩
end
section
variable{X:Cx}{o e value:Expr}{f:Str}{pos pos' tpos:Pos}{ta tv:TE}
end
section
variable{X:Cx}{pins:OX}{σ:St}{H:Hp}{s:Shared}{A:Around}{E:OE}{Q:OE}{c:Value}{b:Bool}
inductive TyOf (K:Qq) (H:Hp):V->Value->Prop where
 |non:TyOf K H .non (.type "NoneType")
 |bl (x:Bool):TyOf K H (.bl x) (.type "bool")
 |int (i:Int):TyOf K H (.int i) (.type "int")
 |str (x:Str):TyOf K H (.str x) (.type "str")
 |flt (x:UInt64):TyOf K H (.flt x) (.type "float")
 |lst {a:Addr}{xs:List V}(e:H a=some (.lst xs)):TyOf K H (.ref a) (.type "list")
 |frz {a:Addr}{o:Obj}{xs:List V}(e:H a=some (.frz o (.lst xs))):TyOf K H (.ref a) (.type "list")
 |tup {a:Addr}{xs:List V}(e:H a=some (.tup xs)):TyOf K H (.ref a) (.type "tuple")
 |dK {a:Addr}{kvs:List (Key×V)}(e:H a=some (.dK kvs)):TyOf K H (.ref a) (.type "dict")
 |dT {a:Addr}{C:Addr->List Key->Prop}{kvs:List (List Key×V)}(e:H a=some (.dT C kvs)):TyOf K H (.ref a) (.type "dict")
 |ins {a C dx:Addr}{fs:List (Str×V)}(e:H a=some (.ins C dx fs)) (cl:Cls K C) (ha:PySem.W.findIn K (.ref C) "__class__"=some (some (.builtin "object.__class__")))
   (hn:PySem.W.specialIn K (.builtin "object.__class__") "__get__"=some (some (.builtin "getset_descriptor.__get__"))) (htk:PySem.W.takesIn K (.builtin "object.__class__")=some true)
   (hm:PySem.W.mroIn K C (.type "object")=some true):TyOf K H (.ref a) (.ref C)
theorem a3g{x:V}{u t:Value}(I:Inv X pins σ H s)(rx:q9_ x u)(ty:TyOf X.K H x t)(e:PySem.W.kitOne X.K t c=some b)(h:∀tk,Q (.bool b) {s with toks:=tk}):
  wpAny (model X.prog X.w) A (call (.builtin "isinstance") [u,c]) Q E s:=by
 cases ty with
 |non=>cases (show u=Value.none from rx);exact Zu PySem.W.kitx_none I.kIn True.intro e (fun z=>nomatch z) h
 |bl y=>cases (show u=Value.bool y from rx);exact Zu PySem.W.kitx_bool I.kIn True.intro e (fun z=>nomatch z) h
 |int i=>obtain⟨t,q⟩:=(show∃t,u=Value.int i t from rx);cases q;exact Zu PySem.W.kitx_int I.kIn True.intro e (fun z=>nomatch z) h
 |str y=>obtain⟨t,q⟩:=(show∃t,u=Value.str y t from rx);cases q;exact Zu PySem.W.kitx_str I.kIn True.intro e (fun z=>nomatch z) h
 |flt y=>obtain⟨t,q⟩:=(show∃t,u=Value.float y t from rx);cases q;exact Zu PySem.W.kitx_float I.kIn True.intro e (fun z=>nomatch z) h
 |@lst a xs ea=>
  cases (show u=Value.ref a from rx)
  obtain⟨_,_,n,_,h1⟩:=(show x5_ X.prog X.w H s.heap a (.lst xs)from I.hok a _ ea)
  exact Zu Vq I.kIn ⟨_,h1,rfl⟩ e (fun z=>nomatch z) h
 |@frz a ob xs ea=>
  cases (show u=Value.ref a from rx)
  obtain⟨_,_,_,n,_,h1⟩:=(show x5_ X.prog X.w H s.heap a (.frz ob (.lst xs))from I.hok a _ ea)
  exact Zu Vq I.kIn ⟨_,h1,rfl⟩ e (fun z=>nomatch z) h
 |@tup a xs ea=>
  cases (show u=Value.ref a from rx)
  obtain⟨_,_,_,p⟩:=(show x5_ X.prog X.w H s.heap a (.tup xs)from I.hok a _ ea)
  obtain⟨o,h1,h2,_⟩:=p;exact Zu Vo I.kIn ⟨o,h1,h2⟩ e (fun z=>nomatch z) h
 |@dK a kvs ea=>
  cases (show u=Value.ref a from rx)
  obtain⟨_,_,vs,_,p⟩:=(show x5_ X.prog X.w H s.heap a (.dK kvs)from I.hok a _ ea)
  obtain⟨o,es,ep,h1,h2,_⟩:=p;exact Zu Jg I.kIn ⟨o,h1,h2.1⟩ e (fun z=>nomatch z) h
 |@dT a C kvs ea=>
  cases (show u=Value.ref a from rx)
  obtain⟨_,_,xs,_,o,es,ep,h1,h2,_⟩:=(show x5_ X.prog X.w H s.heap a (.dT C kvs)from I.hok a _ ea)
  exact Zu Jg I.kIn ⟨o,h1,h2.1⟩ e (fun z=>nomatch z) h
 |@ins a C dx fs ea cl ha hn htk hm=>
  cases (show u=Value.ref a from rx)
  obtain⟨mA,O,_⟩:=b4l I.hok ea;obtain⟨od,J,_⟩:=O.look;exact Zu (PySem.W.kitx_own (cl.get _) cl.hd ha hn htk hm) I.kIn J e (fun z=>nomatch z) h
end
structure Room(k:Nat)(A:Around):Prop where
 hd:A.handled=none
 dp:A.depth+3 * k+5<recursionLimit
 un:A.units+16 * k+200<cLine
theorem Room.mono{j k:Nat}{A:Around}(r:Room k A)(h:j≤k):Room j A:=⟨r.hd,by have:=r.dp;omega,by have:=r.un;omega⟩
theorem Room.deeper{k:Nat}{A:Around}(r:Room (k+1) A)(env:Env):Room k (A.deeper env):=
 ⟨r.hd,by have:=r.dp;show A.depth+1+3 * k+5<_;omega,by have:=r.un;show A.units+3+16 * k+200<_;omega⟩
theorem Room.in1{k:Nat}{A:Around}(r:Room (k+1) A):Room k A.in1:=
 ⟨r.hd,by have:=r.dp;show A.depth+3 * k+5<_;omega,by have:=r.un;show A.units+1+16 * k+200<_;omega⟩
theorem Room.depth{k:Nat}{A:Around}(r:Room k A):A.depth<recursionLimit:=by have:=r.dp;omega
theorem Room.units{k:Nat}{A:Around}(r:Room k A):A.units+64<cLine:=by have:=r.un;omega
def a9d:TA:=fun _ H Q=>Q [] H
def a6q(ta:TE)(tr:TA):TA:=fun σ H Q=>ta σ H fun x H1=>tr σ H1 fun xs H2=>Q (x::xs) H2
section
variable{X:Cx}{e:Expr}{es:List Expr}{te:TE}{t:TA}{pos:Pos}
theorem a0R:PA X [] a9d:=fun _ _ _ _ H Q I h=>Calls.spliced_nil ⟨[],H,I,.nil,h⟩
theorem u0_(ha:PE X e te)(hr:PA X es t)(hs:starEach (e::es) X.env=(false,eval e X.env)::starEach es X.env:=by rfl):PA X (e::es) (a6q te t):=by
 intro pos pins s σ H Q I h;rw[hs];show wpAny _ _ (spliced ((false,eval e X.env)::backTo pos (starEach es X.env))) _ _ s;refine Calls.spliced_cons (thn (ha pins s σ H _ I h) fun u s1 ⟨x,H1,I1,r1,q1⟩=>?_)
 exact thn (hr pos pins s1 σ H1 _ I1 q1) fun us s2 ⟨xs,H2,I2,r2,q2⟩=>⟨x::xs,H2,I2,.cons r1 r2,q2⟩
def a9e(t:TA):TE:=fun σ H Q=>t σ H fun xs H1=>xs.length≤sizeLine/\∀p,H1 p=none->Q (.ref p) (upd H1 p (.tup xs))
def b4m(t:TA):TE:=fun σ H Q=>t σ H fun xs H1=>xs.length≤sizeLine/\∀p,H1 p=none->Q (.ref p) (upd H1 p (.lst xs))
theorem a9f{x1}(h:PA X es t):PE X (.Tuple es x1 pos) (a9e t):=by
 intro pins s σ H Q I hq;refine wpAny_Tuple_spliced (thn (h pos pins s σ H _ I hq) fun us s1 ⟨xs,H1,I1,r,z,q⟩=>⟨by rw[←r.length];exact z,?_⟩)
 have hf:H1 s1.heap.objs.size=none:=I1.hok.fresh (Qw _)
 refine⟨.ref s1.heap.objs.size,upd H1 s1.heap.objs.size (.tup xs),I1.laid (t':=s1.toks) (fun b u e=>Qj _ e) (Qw _) ?_,rfl,q _ hf⟩
 exact⟨z,us,r,⟨_,Qh _ rfl,rfl,rfl,_,rfl⟩⟩
theorem b4n(h:PA X es t):PE X (.List es pos) (b4m t):=by
 intro pins s σ H Q I hq;refine wpAny_List_spliced (thn (h pos pins s σ H _ I hq) fun us s1 ⟨xs,H1,I1,r,z,q⟩=>⟨by rw[←r.length];exact z,?_⟩)
 have hf:H1 s1.heap.objs.size=none:=I1.hok.fresh (Qw _)
 refine⟨.ref s1.heap.objs.size,upd H1 s1.heap.objs.size (.lst xs),I1.laid (t':=s1.toks) (fun b u e=>Qj _ e) (Qw _) ?_,rfl,q _ hf⟩
 exact⟨z,us,0,r,Qh _ rfl⟩
end
abbrev Sp:=List V->Hp->VK->XK->Prop
abbrev CXT:=List Env->Hp->Shared->XK->OE
structure Env0(P:Program)(w:World)(K:Qq)(mg:OU)(base:Heap)(A:Around)(outer:List Env)(s:Shared)(H:Hp):Prop where
 frames:A.frames=some outer
 mod:Mod K mg base
 bs:∀b o,base.get? b=some o->s.heap.get? b=some o/\H b=none
 bsz:base.objs.size≤s.heap.objs.size
 funs:s.heap.FunFrames base outer
 frf:∀b∈frs outer,H b=none
 hok:HOk P w H s.heap
 bare:AllBare s.gens
def CE(outer:List Env)(P:Program)(w:World)(H:Hp)(s:Shared)(Q:VK)(u:Value)(s':Shared):Prop:=
 ∃v H',s'.os=s.os/\AllBare s'.gens/\Un (frs outer) [] H H' s.heap s'.heap/\HOk P w H' s'.heap/\q9_ v u/\Q v H'
def CR(CX:CXT)(outer:List Env)(P:Program)(w:World)(H:Hp)(s:Shared)(Q:VK)(E:XK)(r:Result)(s':Shared):Prop:=
 match r with
 |.ok (.ret u)=>CE outer P w H s Q u s'
 |.ok _=>False
 |.error e=>CX outer H s E e s'
structure FnOk(P:Program)(w:World)(K:Qq)(mg:OU)(base:Heap)(CX:CXT)(k:Nat)(f:Addr)(fd:FuncData)(ps:List Str)(sp:Sp):Prop where
 len:∀vs H Q E,sp vs H Q E->vs.length=ps.length
 run:∀(A:Around) (outer:List Env) (s:Shared) (H:Hp) (args:Args) (us:List Value) (vs:List V) (Q:VK) (E:XK),Room k A->Env0 P w K mg base A outer s H->BindsTo s fd args (ps.zip us)->q3_ vs us->sp vs H Q E->
  codeAny (model P w) A (.call (.ref f) args) (CR CX outer P w H s Q E) s
theorem FnOk.mono{P:Program}{w:World}{K:Qq}{mg:OU}{base:Heap}{CX:CXT}{j k:Nat}{f:Addr}{fd:FuncData}{ps:List Str}{sp:Sp}(F:FnOk P w K mg base CX j f fd ps sp)(h:j≤k):
  FnOk P w K mg base CX k f fd ps sp:=⟨F.len,fun A outer s H args us vs Q E hr=>F.run A outer s H args us vs Q E (hr.mono h)⟩
theorem FnOk.imp{P:Program}{w:World}{K:Qq}{mg:OU}{base:Heap}{CX:CXT}{k:Nat}{f:Addr}{fd:FuncData}{ps:List Str}{sp sp':Sp}(F:FnOk P w K mg base CX k f fd ps sp)
  (h:∀vs H Q E,sp' vs H Q E->sp vs H Q E):FnOk P w K mg base CX k f fd ps sp':=
 ⟨fun vs H Q E q=>F.len vs H Q E (h _ _ _ _ q),fun A outer s H args us vs Q E hr he hb hv hs=>F.run A outer s H args us vs Q E hr he hb hv (h _ _ _ _ hs)⟩
theorem Env0.in1{P:Program}{w:World}{K:Qq}{mg:OU}{base:Heap}{A:Around}{outer:List Env}{s:Shared}{H:Hp}(e:Env0 P w K mg base A outer s H):
  Env0 P w K mg base A.in1 outer s H:=⟨e.frames,e.mod,e.bs,e.bsz,e.funs,e.frf,e.hok,e.bare⟩
section
variable{X:Cx}{pins:OX}{σ:St}{H:Hp}{s s':Shared}
theorem Inv.env0(I:Inv X pins σ H s):Env0 X.prog X.w X.K X.mg X.base X.A X.stack s H:=
 ⟨I.ok.frames,I.ok.mod,I.bs,Qt I.ok.bsz I.sz,I.stack,I.stkFree,I.hok,I.bare⟩
theorem Inv.after{Q:VK}{u:Value}(I:Inv X pins σ H s)(h:CE X.stack X.prog X.w H s Q u s'):EP X pins σ Q u s':=by
 obtain⟨v,H',os,bare,un,hok,r,q⟩:=h;obtain⟨hh,g,d,t,os'⟩:=s';obtain rfl:os'=s.os:=os;exact⟨v,H',I.call (h':=hh) (g':=g) (d':=d) (t':=t) (ch:=[]) un hok bare (fun b z=>absurd z (by simp)),r,q⟩
end
def a9g(sp:Sp)(dvs:List V)(E:XK)(t:TA):TE:=fun σ H Q=>t σ H fun vs H1=>sp (vs++dvs) H1 Q E
def a0w(K:Qq)(fd:FuncData)(ps:List Str)(ds:List Value):Prop:=
 ∀(s:Shared) (us:List Value),K.In s.heap->(us++ds).length=ps.length->BindsTo s fd ⟨us,[]⟩ (ps.zip (us++ds))
theorem a0w.all{K:Qq}{fd:FuncData}{ps:List Str}(h:∀us:List Value,us.length=ps.length->bindArgs fd ⟨us,[]⟩=pure (ps.zip us)):a0w K fd ps []:=fun s us _ hl=>by
 rw[Je]at hl ⊢;exact .of_eq (h us hl)
def a4X(CX:CXT)(X:Cx)(E:XK):Prop:=∀(pins:OX) (σ:St) (H:Hp) (s:Shared) (e:Value) (s':Shared),Inv X pins σ H s->CX X.stack H s E e s'->X.xe e s'
section
variable{X:Cx}{CX:CXT}{k:Nat}{f C:Addr}{fd:FuncData}{ps:List Str}{sp:Sp}{dvs:List V}{ds:List Value}{E:XK}{x m:Str}{p pos apos:Pos}{e o:Expr}{es:List Expr}{ta:TE}{t:TA}
theorem b4o{pins:OX}{σ:St}{H:Hp}{s:Shared}{Q:VK}{us:List Value}{vs:List V}(F:FnOk X.prog X.w X.K X.mg X.base CX k f fd ps sp)(hr:Room k X.A)(hb:a0w X.K fd ps ds)(hd:q3_ dvs ds)(hx:a4X CX X E)
  (I:Inv X pins σ H s)(r:q3_ vs us)(h:sp (vs++dvs) H Q E):wpAny (model X.prog X.w) X.A (call (.ref f) us) (EP X pins σ Q) X.xe s:=by
 have r2:q3_ (vs++dvs) (us++ds):=r.append hd
 have hl:(us++ds).length=ps.length:=by rw[←r2.length];exact F.len _ _ _ _ h
 refine wpAny_call (Vh (F.run X.A X.stack s H ⟨us,[]⟩ (us++ds) (vs++dvs) Q E hr I.env0 (hb s us I.kIn hl) r2 h) fun r s' hq=>?_)
 cases r with
 |error e=>exact hx pins σ H s e s' I hq
 |ok fl=>
  cases fl with
  |ret u=>exact I.after hq
  |next=>exact False.elim hq
  |brk=>exact False.elim hq
  |cont=>exact False.elim hq
theorem a6r(F:FnOk X.prog X.w X.K X.mg X.base CX k f fd ps sp)(hr:Room k X.A)(hg:Gl X x)(hm:X.mg x=some (.ref f))(hk:PySem.W.keepIn X.K (.ref f)=true)(hb:a0w X.K fd ps ds)(hd:q3_ dvs ds)(hx:a4X CX X E)
  (ha:PA X (e::es) t)(hdb:(x==("__debug__":Str))=false:=by decide)(he:starEach (e::es) X.env=(false,eval e X.env)::starEach es X.env:=by rfl)(hpl:(backTo pos (starEach es X.env)).any (·.1)=false:=by rfl):
  PE X (.Call (.Name x p) (e::es) [] pos) (a9g sp dvs E t):=by
 intro pins s σ H Q I h;refine Jo (a3Y I hg hm ?_ hdb);refine PySem.W.callWith_K (h₀:=X.base) I.ok.mod.kin hk (thn (ha pos pins s σ H _ I h) fun us s1 ⟨vs,H1,I1,r,q⟩=>⟨I1.kIn,?_⟩) he hpl
 exact b4o F hr hb hd hx I1 r q
structure Mk(K:Qq)(C f:Addr):Prop where
 makes:PySem.W.makesIn K C=true
 init:PySem.W.findIn K (.ref C) "__init__"=some (some (.ref f))
 fn:PySem.W.isFn K (.ref f)=true
 kp:PySem.W.keepIn K (.ref C)=true
end
section
variable{X:Cx}{CX:CXT}{k:Nat}{f C:Addr}{fd:FuncData}{ps ks:List Str}{sp:Sp}{E:XK}{x m:Str}{p pos apos kpos:Pos}{e o:Expr}{es:List Expr}{kws:List Keyword}{te ta:TE}{t tk:TA}{nm:Option Str}
structure KBinds(K:Qq)(fd:FuncData)(ps ks:List Str)(g:List Value->List Value->List Value)(gV:List V->List V->List V):Prop where
 to:∀(s:Shared) (us ws:List Value),K.In s.heap->(g us ws).length=ps.length->BindsTo s fd ⟨us,ks.zip ws⟩ (ps.zip (g us ws))
 rel:∀{vs:List V}{us:List Value}{zs:List V}{ws:List Value},q3_ vs us->q3_ zs ws->q3_ (gV vs zs) (g us ws)
variable{g:List Value->List Value->List Value}{gV:List V->List V->List V}
end
structure FnScope(N P:List Str)(sc:Scope):Prop where
 kind:sc.kind=.function
 co:sc.isCoroutine=false
 gen:sc.isGenerator=false
 nd:N.Nodup
 pre:N.take P.length=P
 par:∀x∈P,sc.names.lookup x=some .local∨sc.names.lookup x=some .cell
 nofree:∀y∈sc.names,y.2≠.free
theorem a9h{kindOf:Str->Option NameKind}{x:Str}:∀{binds:List (Str×Value)}{m:OU},(∀v,(x,v)∉binds)->bindL kindOf binds m x=m x
 |[],_,_=>rfl
 |(n,v)::r,m,h=>by
  unfold bindL;rw[a9h fun w hw=>h w (Qe _ hw)]
  split
  ·have:x≠n:=by rintro rfl;exact h v Zz
   simp[this]
  ·rfl
theorem a9i{kindOf:Str->Option NameKind}{x:Str}:∀{binds:List (Str×Value)}{m:OU},(∀v,(x,v)∉binds)->bindC kindOf binds m x=m x
 |[],_,_=>rfl
 |(n,v)::r,m,h=>by
  unfold bindC;rw[a9i fun w hw=>h w (Qe _ hw)]
  split
  ·rfl
  ·have:x≠n:=by rintro rfl;exact h v Zz
   simp[this]
theorem a9j{kindOf:Str->Option NameKind}{x:Str}{v:Value}:∀{P:List Str}{vs:List Value}{i:Nat}{m:OU},P.Nodup->P[i]? =some x->vs[i]? =some v->kindOf x=some .local->
  bindL kindOf (P.zip vs) m x=some v
 |[],_,_,_,_,h,_,_=>by simp at h
 |_::_,[],_,_,_,_,h,_=>by simp at h
 |p::P,w::vs,0,m,nd,h1,h2,hk=>by
  simp at h1 h2;subst h1;subst h2
  show bindL kindOf ((p,w)::P.zip vs) m p=_;unfold bindL;rw[a9h fun v hv=>(Vm.mp nd).1 (Vn hv).1,Qn hk]
  simp
 |p::P,w::vs,i+1,m,nd,h1,h2,hk=>by
  show bindL kindOf ((p,w)::P.zip vs) m x=_;unfold bindL;exact a9j (i:=i) (Vm.mp nd).2 (by simpa using h1) (by simpa using h2) hk
theorem a9k{kindOf:Str->Option NameKind}{x:Str}{v:Value}:∀{P:List Str}{vs:List Value}{i:Nat}{m:OU},P.Nodup->P[i]? =some x->vs[i]? =some v->kindOf x≠some .local->
  bindC kindOf (P.zip vs) m x=some v
 |[],_,_,_,_,h,_,_=>by simp at h
 |_::_,[],_,_,_,_,h,_=>by simp at h
 |p::P,w::vs,0,m,nd,h1,h2,hk=>by
  simp at h1 h2;subst h1;subst h2
  show bindC kindOf ((p,w)::P.zip vs) m p=_;unfold bindC;rw[a9i fun v hv=>(Vm.mp nd).1 (Vn hv).1,Qr hk]
  simp
 |p::P,w::vs,i+1,m,nd,h1,h2,hk=>by
  show bindC kindOf ((p,w)::P.zip vs) m x=_;unfold bindC;exact a9k (i:=i) (Vm.mp nd).2 (by simpa using h1) (by simpa using h2) hk
def start(N:List Str)(vs:List V):St:=vs.map some++List.replicate (N.length-vs.length) none
def w4_(CX:CXT)(P:Program)(w:World)(K:Qq)(mg:OU)(base:Heap)(N:List Str)(qual:Str)(scope:Scope)(f:Addr)(cd:Value)(A:Around)(outer:List Env)(s:Shared)(H:Hp)(E:XK):Cx where
 prog:=P
 w:=w
 K:=K
 mg:=mg
 base:=base
 A:=A.deeper (envOfC qual scope s.heap.objs.size f cd)
 N:=N
 s₀:=s
 H₀:=H
 env:=envOfC qual scope s.heap.objs.size f cd
 outer:=outer
 stack:=envOfC qual scope s.heap.objs.size f cd::outer
 ex:=[]
 calm:=true
 fn:=fun _=>true
 pn:=[]
 xe:=fun e s'=>wpAny (model P w) (A.deeper (envOfC qual scope s.heap.objs.size f cd)) (leaving (envOfC qual scope s.heap.objs.size f cd) e) (fun _ s''=>CX outer H s E e s'') (fun e' s''=>CX outer H s E e' s'') s'
theorem a9l{sc:Scope}{n:Nat}{x:Str}(h:sc.names.lookup x=some .cell):∃c,(cellsFrom n sc.names []).lookup x=some c:=by
 have q:=Uv sc.names n [] (.inl h)
 exact Yz.mp q
theorem a9m{CX:CXT}{P:Program}{w:World}{K:Qq}{mg:OU}{base:Heap}{N ps:List Str}{qual:Str}{scope:Scope}{f:Addr}{cd:Value}{A:Around}{outer:List Env}{s s1:Shared}{H:Hp}{E:XK}{us:List Value}{vs:List V}
  (S:FnScope N ps scope)(hd:A.handled=none)(e0:Env0 P w K mg base A outer s H)(hl:vs.length=ps.length)(r:q3_ vs us)
  (x:InCallC s s.heap.objs.size (bindL (envOfC qual scope s.heap.objs.size f cd).kindOf (ps.zip us) fun _=>none) (cellsFrom (s.heap.objs.size+1) scope.names []) (bindC (envOfC qual scope s.heap.objs.size f cd).kindOf (ps.zip us) fun _=>none) s1):
  Inv (w4_ CX P w K mg base N qual scope f cd A outer s H E) [] (start N vs) H s1:=by
 have hpl:ps.length≤N.length:=by have:=Jr List.length S.pre;rw[Yw]at this;omega
 obtain⟨h1,tk,rfl,hk⟩:=x.done;have noA:∀b:Addr,b∉(w4_ CX P w K mg base N qual scope f cd A outer s H E).ex:=fun b z=>absurd (show b∈([]:List Addr)from z) (by simp)
 refine⟨⟨e0.mod,S.kind,rfl,rfl,Qw _,fun y z c h1 h2=>?_,fun y hy=>?_,fun y c _ h=>?_,fun _=>hd,Around.frames_deeper e0.frames,.inr ⟨rfl,rfl⟩,fun b z=>absurd z (noA b),e0.bs,e0.bsz,fun b _ _=>noA b,fun b z=>absurd z (noA b),e0.funs,e0.frf⟩,
  rfl,e0.bare,Un.kept hk,⟨_,x.toInCall.ns,fun i y v h1 h2 h3=>?_⟩,fun y c h=>⟨_,x.cell y c h⟩,e0.hok.fresh (Qw _),fun y c h=>?_,fun p hp=>absurd (show p∈([]:OX)from hp) (by simp),e0.hok.kept hk,?_⟩
 ·exact name_of_addr x.apart (Zj h1) (Zj h2)
 ·have hy:scope.names.lookup y=some .cell∨scope.names.lookup y=some .free:=hy
  rcases hy with hy|hy
  ·exact a9l hy
  ·exact absurd rfl (S.nofree _ (Zj hy))
 ·exact Ye (x.above y c (Zj h))
 ·have hi:i<vs.length:=by
   unfold start at h2
   by_cases hi:i<vs.length
   ·exact hi
   ·rw[List.getElem?_append_right (by simpa using hi)]at h2
    rw[Jx]at h2;split at h2<;>cases h2
  have ha:vs[i]? =some v:=by
   unfold start at h2;rw[Yt (by simpa using hi),Zi]at h2
   cases e:vs[i]? with
   |none=>rw[e]at h2;cases h2
   |some a=>rw[e]at h2;cases h2;rfl
  obtain⟨u,hu,rv⟩:=r.get ha;have hp:ps[i]? =some y:=by
   rw[←S.pre,List.getElem?_take_of_lt (by omega)];exact h1
  have ndP:ps.Nodup:=by rw[←S.pre];exact S.nd.sublist (List.take_sublist _ _)
  refine⟨u,rv,?_⟩
  rcases S.par y (Jn hp)with k|k
  ·exact .inl ⟨k,a9j ndP hp hu k⟩
  ·obtain⟨c,e⟩:=a9l (n:=s.heap.objs.size+1) k
   refine .inr ⟨.inl k,c,e,?_⟩;have q:=x.cell y c e;rw[a9k ndP hp hu (by show scope.names.lookup y≠_;rw[k];decide)]at q
   exact q
 ·exact e0.hok.fresh (Ye (x.above y c (Zj h)))
 ·unfold start
  show _=N.length;rw[Qs,Qk,Zr]
  omega
theorem a6s{CX:CXT}{P:Program}{w:World}{K:Qq}{mg:OU}{base:Heap}{k:Nat}{f:Addr}{name qual:Str}{params:Arguments}{body:List Stmt}{scope:Scope}{dV kV doc pm cdv ct oc:Value}{an od:Option Addr}
  {osl:Array (Option Value)}{N ps:List Str}{sp:Sp}(lk:K.lookup f=some ⟨oc,od,.func (PySem.W.fnOf name qual params body scope dV kV doc pm an cdv ct),osl⟩)(hcd:PySem.W.codeIn K cdv qual=true)(S:FnScope N ps scope)
  (len:∀vs H Q E,sp vs H Q E->vs.length=ps.length)
  (hbody:∀(A:Around) (outer:List Env) (s:Shared) (H:Hp) (vs:List V) (Q:VK) (E:XK),Room k (A.deeper (envOfC qual scope s.heap.objs.size f cdv))->sp vs H Q E->
   ∃t,PSs (w4_ CX P w K mg base N qual scope f cdv A outer s H E) body t/\t {nx:=fun _ H'=>Q .non H',rt:=Q} (start N vs) H):
  FnOk P w K mg base CX (k+1) f (PySem.W.fnOf name qual params body scope dV kV doc pm an cdv ct) ps sp:=by
 refine⟨len,fun A outer s H args us vs Q E hr e0 hb r hsp=>?_⟩
 have hl:=len _ _ _ _ hsp
 have KX:K.In s.heap:=e0.mod.kin.keeps fun b o e=>(e0.bs b o e).1
 have lim:s.heap.NoLimit:=e0.mod.nolimit.keeps fun b o e=>(e0.bs b o e).1
 have hkind:∀y∈ps.zip us,scope.names.lookup y.1=some .local∨(scope.names.lookup y.1=some .cell/\((cellsFrom (s.heap.objs.size+1) scope.names []).lookup y.1).isSome=true):=fun⟨n,v⟩ hy=>by
  rcases S.par n (Vn hy).1 with q|q
  ·exact .inl q
  ·exact .inr ⟨q,Uv _ _ _ (.inl q)⟩
 refine codeAny_call_function hr.depth (KX _ _ lk) rfl S.co S.gen rfl (PySem.W.codeRec_of KX hcd) (hb _ _ _ _ ?_);refine wpAny_newFunctionEnv_cells S.kind hkind fun env he s1 x=>?_
 subst he;refine⟨lim.keeps x.toInCall.keep,codeAny_func ?_⟩;obtain⟨t,ht,hq⟩:=hbody A outer s H vs Q E (hr.deeper _) hsp;have I:Inv (w4_ CX P w K mg base N qual scope f cdv A outer s H E) [] (start N vs) H s1:=a9m S hr.hd e0 hl r x;refine Zp (ht [] s1 (start N vs) H _ I hq) (fun fl s' hs=>?_) fun e s' hs=>hs
 have fin:∀{σ':St}{H':Hp}{v:V}{u:Value},Inv (w4_ CX P w K mg base N qual scope f cdv A outer s H E) [] σ' H' s'->q9_ v u->Q v H'->CE outer P w H s Q u s':=
  fun{σ' H' v u} J rv q=>⟨v,H',J.os,J.bare,J.base,J.hok,rv,q⟩
 cases fl with
 |ret u=>
  obtain⟨v,σ',H',J,rv,q⟩:=hs;exact fin J rv q
 |next=>
  obtain⟨σ',H',J,q⟩:=hs;exact fin (v:=V.non) (u:=Value.none) J rfl q
 |brk=>
  obtain⟨_,_,_,q⟩:=hs;exact False.elim q
 |cont=>
  obtain⟨_,_,_,q⟩:=hs;exact False.elim q
section
variable{X:Cx}{x:Str}{p pos:Pos}{e:Expr}{es:List Expr}{t:TA}{id T:String}{r:List V->Hp->VK->Prop}
def tCB(r:List V->Hp->VK->Prop)(t:TA):TE:=fun σ H Q=>t σ H fun vs H1=>r vs H1 Q
theorem a2x(hc:k3_ X (.builtin id) r)(hg:Gl X x)(hm:X.mg x=none)(hv:bootBuiltins x=some (.builtin id))(ha:PA X (e::es) t)(hn:x≠"__name__":=by decide)(hdb:(x==("__debug__":Str))=false:=by decide)
  (he:starEach (e::es) X.env=(false,eval e X.env)::starEach es X.env:=by rfl)(hpl:(backTo pos (starEach es X.env)).any (·.1)=false:=by rfl):PE X (.Call (.Name x p) (e::es) [] pos) (tCB r t):=by
 intro pins s σ H Q I h;refine Jo (a3Z I hg hm hv ?_ hn hdb);exact PyProof.Rows.callWith_builtin1 (thn (ha pos pins s σ H _ I h) fun us s1 ⟨vs,H1,I1,r1,q1⟩=>hc pins s1 σ H1 vs us Q I1 r1 q1) he hpl
theorem b4p(hc:k3_ X (.type T) r)(hg:Gl X x)(hm:X.mg x=none)(hv:bootBuiltins x=some (.type T))(ha:PA X (e::es) t)(hn:x≠"__name__":=by decide)(hdb:(x==("__debug__":Str))=false:=by decide)
  (he:starEach (e::es) X.env=(false,eval e X.env)::starEach es X.env:=by rfl)(hpl:(backTo pos (starEach es X.env)).any (·.1)=false:=by rfl):PE X (.Call (.Name x p) (e::es) [] pos) (tCB r t):=by
 intro pins s σ H Q I h;refine Jo (a3Z I hg hm hv ?_ hn hdb);exact Uf (thn (ha pos pins s σ H _ I h) fun us s1 ⟨vs,H1,I1,r1,q1⟩=>hc pins s1 σ H1 vs us Q I1 r1 q1) he hpl
end
end L2
namespace HT
open PySem PyProof.Rows
def lexLt:List Int->List Int->Bool
 |[],[]=>false
 |[],_::_=>true
 |_::_,[]=>false
 |x::xs,y::ys=>if x=y then lexLt xs ys else decide (x<y)
theorem lexLt_cons(x y:Int)(xs ys:List Int):lexLt (x::xs) (y::ys)=if x=y then lexLt xs ys else decide (x<y):=rfl
section
open PySem.SeqAt
open PySem.AutoSeq1 (wpAny_loadPart')
open PySem.MeetsSeq PySem.MeetsSeq2 PySem.MeetsSeq3
end
section
variable{prog:Program}{w:World}{A:Around}{E:OE}{s:Shared}
def sIx(n d:Nat):Option Int->Nat
 |none=>d
 |some v=>if v<0 then(v+(n:Int)).toNat else min v.toNat n
end
end HT
namespace L2
open PySem PySem.Spec PyProof.Rows
abbrev TO:=St->Hp->(Option Int->Hp->Prop)->Prop
def PO(X:Cx)(e:Option Expr)(t:TO):Prop:=
 ∀(pins:OX) (s:Shared) (σ:St) (H:Hp) (Q:Option Int->Hp->Prop),Inv X pins σ H s->t σ H Q->
  wpAny (model X.prog X.w) X.A (evalPart e X.env) (fun u s'=>∃o H',Inv X pins σ H' s'/\IsPart u o/\Q o H') X.xe s
def b4q:TO:=fun _ H Q=>Q none H
def b4r(t:TE):TO:=fun σ H Q=>t σ H fun x H1=>∃i,x=.int i/\Q (some i) H1
theorem a6t{ns:List Int}:∀{us:List Value},q3_ (ns.map V.int) us->IntsAre us ns:=by
 induction ns with
 |nil=>intro us r;rw[List.map_nil]at r;cases r;exact .nil
 |cons n ns ih=>
  intro us r;rw[Qg]at r;cases r with
  |cons r1 r2=>
   obtain⟨t,e⟩:=r1;subst e;exact .cons n t (ih r2)
section
variable{X:Cx}{e:Expr}{te:TE}{lo hi:Option Expr}{tl th:TO}{pos p2:Pos}
theorem b4s:PO X none b4q:=by
 intro pins s σ H Q I h;rw[evalPart_none];exact Qd ⟨none,H,I,.none,h⟩
theorem b4t(h:PE X e te):PO X (some e) (b4r te):=by
 intro pins s σ H Q I hw;rw[evalPart_some];refine thn (h pins s σ H _ I hw) fun u s1 ⟨x,H1,I1,r1,q1⟩=>?_
 obtain⟨i,rfl,q⟩:=q1;obtain⟨t,rfl⟩:=r1;exact⟨some i,H1,I1,.int i t,q⟩
def SlR(X:Cx)(r:V->Option Int->Option Int->Hp->VK->Prop):Prop:=
 ∀(pins:OX) (s:Shared) (σ:St) (H:Hp) (x:V) (v vl vu:Value) (lo hi:Option Int) (sl:Addr) (Q:VK),Inv X pins σ H s->q9_ x v->s.heap.IsSliceOf sl vl vu .none->IsPart vl lo->IsPart vu hi->r x lo hi H Q->
  ∃T id,typeLookup (.type T) "__getitem__"=pure (some (.builtin id))/\s.TypeIs v T/\wpAny (model X.prog X.w) X.A (getItem v (.ref sl)) (EP X pins σ Q) X.xe s
theorem SlR.or{r r':V->Option Int->Option Int->Hp->VK->Prop}(h:SlR X r)(h':SlR X r'):SlR X (fun x lo hi H Q=>r x lo hi H Q∨r' x lo hi H Q):=by
 intro pins s σ H x v vl vu lo hi sl Q I rx hs pl pu q
 rcases q with q|q
 ·exact h pins s σ H x v vl vu lo hi sl Q I rx hs pl pu q
 ·exact h' pins s σ H x v vl vu lo hi sl Q I rx hs pl pu q
def tSl(r:V->Option Int->Option Int->Hp->VK->Prop)(te:TE)(tl th:TO):TE:=fun σ H Q=>te σ H fun x H1=>tl σ H1 fun l H2=>th σ H2 fun u H3=>r x l u H3 Q
theorem b4u{r:V->Option Int->Option Int->Hp->VK->Prop}(hr:SlR X r)(he:PE X e te)(hl:PO X lo tl)(hu:PO X hi th):PE X (.Subscript e (.Slice lo hi none p2) pos) (tSl r te tl th):=by
 intro pins s σ H Q I h;refine Subscript_ (thn (he pins s σ H _ I h) fun v s1 ⟨x,H1,I1,r1,q1⟩=>?_)
 refine wpAny_Slice (thn (hl pins s1 σ H1 _ I1 q1) fun vl s2 ⟨l,H2,I2,pl,q2⟩=>thn (hu pins s2 σ H2 _ I2 q2) fun vu s3 ⟨u,H3,I3,pu,q3⟩=>?_)
 rw[evalPart_none];refine Qd ?_
 have I4:Inv X pins σ H3 {s3 with heap:=s3.heap.push {cls:=.type "slice",data:=.fields #[vl,vu,.none]}}:=I3.kept (t':=s3.toks) fun b ob q=>Qj _ q
 obtain⟨T,id,hT,ht,hg⟩:=hr pins {s3 with heap:=s3.heap.push {cls:=.type "slice",data:=.fields #[vl,vu,.none]}} σ H3 x v vl vu l u s3.heap.objs.size Q I4 r1 (Heap.IsSliceOf.new ..) pl pu q3
 show wpAny (model X.prog X.w) X.A (subscriptTail e (.Slice lo hi none p2) v (.ref s3.heap.objs.size)) (EP X pins σ Q) X.xe {s3 with heap:=s3.heap.push {cls:=.type "slice",data:=.fields #[vl,vu,.none]}}
 exact tail_any (ops:=[.ref s3.heap.objs.size,v]) ht hT hg (by with_unfolding_all rfl)
def a3h(xs:List V)(lo hi:Option Int):List V:=(xs.drop (HT.sIx xs.length 0 lo)).take (HT.sIx xs.length xs.length hi-HT.sIx xs.length 0 lo)
theorem b4v(xs:List V)(lo hi:Option Int):(a3h xs lo hi).length≤xs.length:=by
 unfold a3h;rw[Yw,Vb]
 omega
theorem q3_.nil_iff{xs:List V}{us:List Value}(r:q3_ xs us):us=[]↔xs=[]:=by
 cases r with
 |nil=>simp
 |cons _ _=>simp
end
def ixN(n:Nat)(i:Int):Option Nat:=if 0≤i then(if i<n then some i.toNat else none)else if-(n:Int)≤i then some (i+n).toNat else none
def atI{α:Type}(xs:List α)(i:Int):Option α:=(ixN xs.length i).bind fun j=>xs[j]?
theorem a6u{n:Nat}{i:Int}{j:Nat}(h:ixN n i=some j):seqIndex? i n=some j/\j<n/\ -(n:Int)≤i/\i<n:=by
 unfold ixN at h
 by_cases h0:0≤i
 ·rw[Qn h0]at h
  by_cases h1:i<n
  ·rw[Qn h1]at h
   have e:i.toNat=j:=Yb h
   exact⟨by rw[seqIndex_of h0 h1,e],by omega,by omega,h1⟩
  ·rw[Qr h1]at h;cases h
 ·rw[Qr h0]at h
  by_cases h1: -(n:Int)≤i
  ·rw[Qn h1]at h
   have e:(i+n).toNat=j:=Yb h
   exact⟨by rw[seqIndex_neg (by omega) h1,e],by omega,h1,by omega⟩
  ·rw[Qr h1]at h;cases h
theorem a6v{α:Type}{xs:List α}{i:Int}{v:α}(h:atI xs i=some v):∃j,seqIndex? i xs.length=some j/\xs[j]? =some v/\j<xs.length/\ -(xs.length:Int)≤i/\i<xs.length:=by
 unfold atI at h;cases e:ixN xs.length i with
 |none=>rw[e]at h;cases h
 |some j=>
  rw[e]at h;obtain⟨h1,h2,h3,h4⟩:=a6u e;exact⟨j,h1,h,h2,h3,h4⟩
theorem a1y{α:Type}{xs:List α}{j:Nat}{v:α}(h:xs[j]? =some v):atI xs (j:Int)=some v:=by
 have hj:j<xs.length:=(Qb.mp h).1
 have e:ixN xs.length (j:Int)=some j:=by
  unfold ixN;rw[Qn (by omega),Qn (by omega)];simp
 unfold atI;rw[e];exact h
def a3i(b:Expr):Prop:=∀o i,subscripted b false o i=operate [o,i] (getItem o i)
def IxR(X:Cx)(r:R2):Prop:=
 ∀(value slice:Expr) (pins:OX) (s:Shared) (σ:St) (H:Hp) (x y:V) (v u:Value) (Q:VK),Inv X pins σ H s->q9_ x v->q9_ y u->r x y H Q->
  subscripted slice false v u=operate [v,u] (getItem v u)->wpAny (model X.prog X.w) X.A (subscriptTail value slice v u) (EP X pins σ Q) X.xe s
def MtR(X:Cx)(id:String)(r:V->List V->Hp->VK->Prop):Prop:=
 ∀(pins:OX) (s:Shared) (σ:St) (H:Hp) (x:V) (xs:List V) (v:Value) (us:List Value) (Q:VK),Inv X pins σ H s->q9_ x v->q3_ xs us->r x xs H Q->
  wpAny (model X.prog X.w) X.A (call (.builtin id) (v::us)) (EP X pins σ Q) X.xe s
section
variable{X:Cx}{a b:Expr}{ta tb:TE}{pos:Pos}
theorem IxR.or{r r':R2}(h:IxR X r)(h':IxR X r'):IxR X (fun x y H Q=>r x y H Q∨r' x y H Q):=by
 intro value slice pins s σ H x y v u Q I rx ry q hs
 rcases q with q|q
 ·exact h value slice pins s σ H x y v u Q I rx ry q hs
 ·exact h' value slice pins s σ H x y v u Q I rx ry q hs
theorem MtR.or{id:String}{r r':V->List V->Hp->VK->Prop}(h:MtR X id r)(h':MtR X id r'):MtR X id (fun x xs H Q=>r x xs H Q∨r' x xs H Q):=by
 intro pins s σ H x xs v us Q I rx rs q
 rcases q with q|q
 ·exact h pins s σ H x xs v us Q I rx rs q
 ·exact h' pins s σ H x xs v us Q I rx rs q
theorem a6w{r:R2}(hr:IxR X r)(ha:PE X a ta)(hb:PE X b tb)(hs:a3i b):PE X (.Subscript a b pos) (tOp r ta tb):=by
 intro pins s σ H Q I h;exact Subscript_ (a6j ha hb I h fun v u s2 x y H2 I2 rx ry q=>hr a b pins s2 σ H2 x y v u Q I2 rx ry q (hs _ _))
def a9n(K:Qq):R2:=fun x y H Q=>∃p xs i v,x=.ref p/\y=.int i/\SqL K H p xs/\atI xs i=some v/\Q v H
def a9o(K:Qq):R2:=fun x y H Q=>∃p xs i v,x=.ref p/\y=.int i/\SqT K H p xs/\atI xs i=some v/\Q v H
def a6x:R2:=fun x y H Q=>∃z i c,x=.str z/\y=.int i/\z.length≤sizeLine/\atI z.cps.toList i=some c/\Q (.str ⟨#[c]⟩) H
theorem a9p:IxR X (a9n X.K):=by
 intro value slice pins s σ H x y v u Q I rx ry h hs;obtain⟨p,xs,i,z,rfl,rfl,hq,he,q⟩:=h;cases rx;obtain⟨t,rfl⟩:=ry;obtain⟨its,r,pl,hz⟩:=I.list hq;obtain⟨j,h1,h2,h3,h4,h5⟩:=a6v he;obtain⟨w,ew,rw'⟩:=r.get h2;have hl:=r.length;have hn:=a3f;have fin:EP X pins σ Q w s:=⟨z,H,I,rw',q⟩
 by_cases h0:0≤i
 ·have hj:i.toNat=j:=by
   rw[seqIndex_of h0 h5]at h1;exact Yb h1
  exact item_listR pl.isList h0 (by omega) (by rw[hj];simpa using ew) fin hs
 ·have hj:(i+(its.toArray.size:Int)).toNat=j:=by
   rw[seqIndex_neg (by omega) h4]at h1
   rw[Qp,←hl];exact Yb h1
  exact subscriptTail_builtinR (x:=w) pl.isList.typeIs slot_list_getitem.lookup
   (wpAny_getItem_list_neg (Q:=fun r s'=>r=w/\EP X pins σ Q r s') pl.isList (by omega) (by rw[Qp]<;>omega) (by omega) (by rw[hj];simpa using ew) ⟨rfl,fin⟩) hs
theorem b4w:IxR X (a9o X.K):=by
 intro value slice pins s σ H x y v u Q I rx ry h hs;obtain⟨p,xs,i,z,rfl,rfl,hq,he,q⟩:=h;cases rx;obtain⟨t,rfl⟩:=ry;obtain⟨its,r,pl,hz⟩:=I.tuple hq;obtain⟨j,h1,h2,h3,h4,h5⟩:=a6v he;obtain⟨w,ew,rw'⟩:=r.get h2;have hl:=r.length;have hn:=a3f;have fin:EP X pins σ Q w s:=⟨z,H,I,rw',q⟩;exact subscriptTail_builtinR (x:=w) pl.typeIs slot_tuple_getitem.lookup
  (getItem_tuple (j:=j) (Q:=fun r s'=>r=w/\EP X pins σ Q r s') pl (by omega) (by omega) (by rw[Qp,←hl];exact h1) (by simpa using ew) ⟨rfl,fin⟩) hs
theorem a9q:IxR X a6x:=by
 intro value slice pins s σ H x y v u Q I rx ry h hs;obtain⟨z,i,c,rfl,rfl,hz,he,q⟩:=h;obtain⟨t,rfl⟩:=rx;obtain⟨t',rfl⟩:=ry;obtain⟨j,h1,h2,h3,h4,h5⟩:=a6v he;have hl:z.cps.toList.length=z.length:=by simp[Str.length]
 rw[hl]at h1 h4 h5;have hn:=a3f;exact tail_any (typeIs_str s z t) slot_str_getitem.lookup (getItem_str (c:=c) (by
  have e1:decide (i< -(2^63:Int))=false:=Zk (by omega)
  have e2:decide (i ≥ 2^63)=false:=Zk (by omega)
  rw[e1,e2,Bool.or_false]) (by rw[h1];simpa using h2) ⟨.str ⟨#[c]⟩,H,I.tok _,⟨_,rfl⟩,q⟩) hs
def rIx(K:Qq):R2:=fun x y H Q=>a9n K x y H Q∨a9o K x y H Q∨a6x x y H Q
theorem a9r:IxR X (rIx X.K):=a9p.or (b4w.or a9q)
theorem b4x(its:List Value)(n j:Nat)(u:Value):Obj.mapSeq (·.setIfInBounds j u) {cls:=.type "list",data:=.seq its.toArray n}={cls:=.type "list",data:=.seq (its.set j u).toArray n}:=by
 simp[Obj.mapSeq]
theorem Inv.lst{pins:OX}{σ:St}{H:Hp}{s:Shared}{p:Addr}{xs:List V}(I:Inv X pins σ H s)(h:H p=some (.lst xs)):
  ∃(its:List Value) (n:Nat),q3_ xs its/\s.heap.get? p=some {cls:=.type "list",data:=.seq its.toArray n}/\xs.length≤sizeLine:=by
 obtain⟨z,its,n,r,e⟩:=I.hok p _ h;exact⟨its,n,r,e,z⟩
theorem Inv.lstUpd{pins:OX}{σ:St}{H:Hp}{s:Shared}{p:Addr}{xs ys:List V}{its its':List Value}{n n':Nat}{f:Obj->Obj}(I:Inv X pins σ H s)(h:H p=some (.lst xs))
  (ho:s.heap.get? p=some {cls:=.type "list",data:=.seq its.toArray n})(hf:f {cls:=.type "list",data:=.seq its.toArray n}={cls:=.type "list",data:=.seq its'.toArray n'})(r:q3_ ys its')(hz:ys.length≤sizeLine)(t:Nat):
  Inv X pins σ (upd H p (.lst ys)) {s with heap:=s.heap.update p f,toks:=t}:=by
 have e:(s.heap.update p f).get? p=some {cls:=.type "list",data:=.seq its'.toArray n'}:=by
  rw[Heap.get?_update_self f ho (by rw[hf]<;>rfl),hf]
 refine I.write (x:=p) (e:=p) (by rw[h];trivial) (.inl rfl) (fun b u hb q=>(Heap.get?_update_other _ _ (Zh hb)).trans q) ⟨_,e⟩ ?_
 exact⟨hz,its',n',r,e⟩
def b4y:V->V->V->Hp->(Hp->Prop)->Prop:=fun o i v H Q=>∃p xs k j,o=.ref p/\i=.int k/\H p=some (.lst xs)/\ixN xs.length k=some j/\Q (upd H p (.lst (xs.set j v)))
theorem b4z:a8U X b4y:=by
 intro pins s σ H o i v ov iv u Q I ro ri rv h;obtain⟨p,xs,k,j,rfl,rfl,hp,hj,q⟩:=h;cases ro;obtain⟨t,rfl⟩:=ri;obtain⟨its,n,r,ho,hz⟩:=I.lst hp;obtain⟨h1,h2,h3,h4⟩:=a6u hj;have hl:=r.length;have hn:=a3f;have I':Inv X pins σ (upd H p (.lst (xs.set j v))) {s with heap:=s.heap.update p (Obj.mapSeq (·.setIfInBounds j u))}:=
  I.lstUpd hp ho (b4x its n j u) (r.set rv j) (by rw[Zv];exact hz) s.toks
 by_cases h0:0≤k
 ·have hk:k.toNat=j:=by
   rw[seqIndex_of h0 h4]at h1;exact Yb h1
  exact PySem.W.ki_setAt ho h0 (by omega) (by rw[Qp,←hl];exact h4) (by rw[hk];exact⟨_,I',q⟩)
 ·have hk:(k+(its.toArray.size:Int)).toNat=j:=by
   rw[seqIndex_neg (by omega) h3]at h1
   rw[Qp,←hl];exact Yb h1
  exact PySem.W.ki_setBack ho (by omega) (by rw[Qp,←hl];exact h3) (by omega) (by rw[hk];exact⟨_,I',q⟩)
theorem b4A(lo hi:Option Int)(n:Nat):(sliceBounds lo hi none n).1=((HT.sIx n 0 lo:Nat):Int)/\(sliceBounds lo hi none n).2.1=((HT.sIx n n hi:Nat):Int)/\(sliceBounds lo hi none n).2.2=1:=by
 refine⟨?_,?_,rfl⟩
 ·cases lo with
  |none=>simp[sliceBounds,HT.sIx]
  |some i=>
   simp only[sliceBounds,HT.sIx,Option.getD_none,show(1:Int)>0 by decide,Zs]
   by_cases h:i<0
   ·simp only[h,Zs]<;>omega
   ·simp only[h,Jv]<;>omega
 ·cases hi with
  |none=>simp[sliceBounds,HT.sIx]
  |some i=>
   simp only[sliceBounds,HT.sIx,Option.getD_none,show(1:Int)>0 by decide,Zs]
   by_cases h:i<0
   ·simp only[h,Zs]<;>omega
   ·simp only[h,Jv]<;>omega
theorem b4B(its:List Value)(lo hi:Option Int):slicePick its.toArray lo hi none=((its.drop (HT.sIx its.length 0 lo)).take (HT.sIx its.length its.length hi-HT.sIx its.length 0 lo)).toArray:=by
 obtain⟨h1,h2,h3⟩:=b4A lo hi its.toArray.size;unfold slicePick;rw[h1,h2,h3];simp only[sliceRange_one,pick_run,Qp]<;>rfl
def b4C(K:Qq):V->Option Int->Option Int->Hp->VK->Prop:=fun x lo hi H Q=>∃a xs,x=.ref a/\SqL K H a xs/\∀p,H p=none->Q (.ref p) (upd H p (.lst (a3h xs lo hi)))
theorem c0Y:SlR X (b4C X.K):=by
 intro pins s σ H x v vl vu lo hi sl Q I rx hs pl pu h;obtain⟨a,xs,rfl,hx,q⟩:=h;cases rx;obtain⟨its,r,ht,hz⟩:=I.list hx;have hlen:=r.length;refine⟨"list",_,slot_list_getitem.lookup,ht.isList.typeIs,?_⟩;refine wpAny_getItem_list_slice ht.isList hs pl pu .none (by simp) ?_ (by rw[Qp]<;>omega)
 rw[b4B,←hlen];refine⟨.ref s.heap.objs.size,_,I.laid (t':=s.toks) (o:=.lst (a3h xs lo hi)) (fun b ob q=>Qj _ q) (Qw _) ?_,rfl,q _ (I.hok.fresh (Qw _))⟩
 exact⟨Qt (b4v xs lo hi) hz,_,0,(r.drop (HT.sIx xs.length 0 lo)).take (HT.sIx xs.length xs.length hi-HT.sIx xs.length 0 lo),Qh _ rfl⟩
def a0E:V->Bool
 |.non=>true
 |.bl _=>true
 |.int _=>true
 |.str _=>true
 |_=>false
def eqV:V->V->Bool
 |.non,.non=>true
 |.bl a,.bl b=>a==b
 |.bl a,.int b=>(if a then 1 else 0)==b
 |.int a,.bl b=>a==(if b then 1 else 0)
 |.int a,.int b=>a==b
 |.str a,.str b=>a==b
 |_,_=>false
theorem b4D{A:Around}{s:Shared}{y x:V}{u v:Value}(ry:q9_ y u)(rx:q9_ x v)(fy:a0E y=true)(fx:a0E x=true):SeqAt.EqAt A s u v (eqV y x):=by
 cases y with
 |non=>
  cases ry;cases x with
  |non=>cases rx;exact SeqAt.EqAt.same _
  |bl b=>cases rx;exact SeqAt.EqAt.none_bool b
  |int b=>obtain⟨t,rfl⟩:=rx;exact SeqAt.EqAt.none_int b t
  |str b=>obtain⟨t,rfl⟩:=rx;exact SeqAt.EqAt.none_str b t
  |_=>exact absurd (show false=true from fx) Yv
 |bl a=>
  cases ry;cases x with
  |non=>cases rx;exact SeqAt.EqAt.bool_none a
  |bl b=>cases rx;exact SeqAt.EqAt.bool_bool a b
  |int b=>obtain⟨t,rfl⟩:=rx;exact SeqAt.EqAt.bool_int a b t
  |str b=>obtain⟨t,rfl⟩:=rx;exact SeqAt.EqAt.bool_str a b t
  |_=>exact absurd (show false=true from fx) Yv
 |int a=>
  obtain⟨t',rfl⟩:=ry;cases x with
  |non=>cases rx;exact SeqAt.EqAt.int_none a t'
  |bl b=>cases rx;exact SeqAt.EqAt.int_bool a t' b
  |int b=>obtain⟨t,rfl⟩:=rx;exact SeqAt.EqAt.int_int a t' b t
  |str b=>obtain⟨t,rfl⟩:=rx;exact SeqAt.EqAt.int_str a t' b t
  |_=>exact absurd (show false=true from fx) Yv
 |str a=>
  obtain⟨t',rfl⟩:=ry;cases x with
  |non=>cases rx;exact SeqAt.EqAt.str_none a t'
  |bl b=>cases rx;exact SeqAt.EqAt.str_bool a t' b
  |int b=>obtain⟨t,rfl⟩:=rx;exact SeqAt.EqAt.str_int a t' b t
  |str b=>obtain⟨t,rfl⟩:=rx;exact SeqAt.EqAt.str_str a t' b t
  |_=>exact absurd (show false=true from fx) Yv
 |_=>exact absurd (show false=true from fy) Yv
def eqU(x:V)(u:Value):Bool:=match u with
 |.none=>eqV .non x
 |.bool b=>eqV (.bl b) x
 |.int i _=>eqV (.int i) x
 |.str z _=>eqV (.str z) x
 |_=>false
theorem a9s{x y:V}{u:Value}(r:q9_ y u)(f:a0E y=true):eqU x u=eqV y x:=by
 cases y with
 |non=>cases r;rfl
 |bl b=>cases r;rfl
 |int i=>obtain⟨t,rfl⟩:=r;rfl
 |str z=>obtain⟨t,rfl⟩:=r;rfl
 |_=>exact absurd (show false=true from f) Yv
theorem a4b{x:V}:∀{xs:List V}{us:List Value},q3_ xs us->xs.all a0E=true->us.any (eqU x)=xs.any fun y=>eqV y x
 |_,_,.nil,_=>rfl
 |y::xs,u::us,.cons r t,f=>by
  rw[Za,Qy]at f;rw[Xj,Xj,a9s r f.1,a4b t f.2]
theorem a3j{A:Around}{s:Shared}{x:V}{v:Value}(rx:q9_ x v)(fx:a0E x=true):∀{xs:List V}{us:List Value},q3_ xs us->xs.all a0E=true->∀u∈us,SeqAt.EqAt A s u v (eqU x u)
 |_,_,.nil,_=>fun u hu=>by cases hu
 |y::xs,u::us,.cons r t,f=>fun u' hu=>by
  rw[Za,Qy]at f
  rcases Qm.mp hu with rfl|hu
  ·rw[a9s r f.1];exact b4D r rx f.1 fx
  ·exact a3j rx fx t f.2 u' hu
def inV(x:V)(xs:List V):Bool:=xs.any fun y=>eqV y x
def rIn(K:Qq)(neg:Bool):R2:=fun x y H Q=>∃p xs,y=.ref p/\(SqL K H p xs∨SqT K H p xs)/\a0E x=true/\xs.all a0E=true/\Q (.bl (if neg then !inV x xs else inV x xs)) H
theorem b4E:OpR X (compareOp .In) (rIn X.K false):=by
 intro pins s σ H x y v u Q I rx ry h;obtain⟨p,xs,rfl,hq,fx,fs,q⟩:=h;cases ry
 rcases hq with hq|hq
 ·obtain⟨its,r,pl,hz⟩:=I.list hq
  refine SeqAt.in_listAt (eqU x) pl.isList (fun w hw=>a3j rx fx r fs w (by simpa using hw)) ⟨.bl _,H,I,rfl,?_⟩
  rw[show its.toArray.any (eqU x)=its.any (eqU x) by simp,a4b r fs]
  exact q
 ·obtain⟨its,r,pl,hz⟩:=I.tuple hq
  refine SeqAt.in_tupleAt (eqU x) pl (fun w hw=>a3j rx fx r fs w (by simpa using hw)) ⟨.bl _,H,I,rfl,?_⟩
  rw[show its.toArray.any (eqU x)=its.any (eqU x) by simp,a4b r fs]
  exact q
theorem b4F:OpR X (compareOp .NotIn) (rIn X.K true):=by
 intro pins s σ H x y v u Q I rx ry h;obtain⟨p,xs,rfl,hq,fx,fs,q⟩:=h;cases ry
 rcases hq with hq|hq
 ·obtain⟨its,r,pl,hz⟩:=I.list hq
  refine SeqAt.notIn_listAt (eqU x) pl.isList (fun w hw=>a3j rx fx r fs w (by simpa using hw)) ⟨.bl _,H,I,rfl,?_⟩
  rw[show its.toArray.any (eqU x)=its.any (eqU x) by simp,a4b r fs]
  exact q
 ·obtain⟨its,r,pl,hz⟩:=I.tuple hq
  refine SeqAt.notIn_tupleAt (eqU x) pl (fun w hw=>a3j rx fx r fs w (by simpa using hw)) ⟨.bl _,H,I,rfl,?_⟩
  rw[show its.toArray.any (eqU x)=its.any (eqU x) by simp,a4b r fs]
  exact q
theorem g2_:k3_ X (.builtin "len") (fun xs H Q=>∃p ys,xs=[.ref p]/\(SqL X.K H p ys∨SqT X.K H p ys)/\Q (.int ys.length) H):=by
 intro pins s σ H xs us Q I r h;obtain⟨p,ys,rfl,hq,q⟩:=h;obtain⟨u,rfl,rx⟩:=a1x r;cases rx;have hn:=a3f
 rcases hq with hq|hq
 ·obtain⟨its,r',pl,hz⟩:=I.list hq
  have hlen:=r'.length
  exact Calls.call_len_list pl.isList (by simp only[Qp]<;>omega) ⟨.int ys.length,H,I.tok _,⟨s.toks+1,by rw[Qp,hlen]⟩,q⟩
 ·obtain⟨its,r',pl,hz⟩:=I.tuple hq
  have hlen:=r'.length
  exact len_tuple pl (by simp only[Qp]<;>omega) ⟨.int ys.length,H,I.tok _,⟨s.toks+1,by rw[Qp,hlen]⟩,q⟩
theorem a9t:k3_ X (.builtin "len") (fun xs H Q=>∃z,xs=[.str z]/\z.length≤sizeLine/\Q (.int z.length) H):=by
 intro pins s σ H xs us Q I r h;obtain⟨z,rfl,hz,q⟩:=h;obtain⟨u,rfl,t,rfl⟩:=a1x r;have hn:=a3f;exact len_str (by omega) ⟨.int z.length,H,I.tok _,⟨_,rfl⟩,q⟩
theorem k3_.or{f:Value}{r r':List V->Hp->VK->Prop}(h:k3_ X f r)(h':k3_ X f r'):k3_ X f (fun xs H Q=>r xs H Q∨r' xs H Q):=by
 intro pins s σ H xs us Q I rs q
 rcases q with q|q
 ·exact h pins s σ H xs us Q I rs q
 ·exact h' pins s σ H xs us Q I rs q
theorem a1P:k3_ X (.type "tuple") (fun xs H Q=>∃p ys,xs=[.ref p]/\((SqL X.K H p ys/\∀l,H l=none->Q (.ref l) (upd H l (.tup ys)))∨(SqT X.K H p ys/\Q (.ref p) H))):=by
 intro pins s σ H xs us Q I r h;obtain⟨p,ys,rfl,h⟩:=h;obtain⟨u,rfl,rx⟩:=a1x r;cases rx
 rcases h with⟨hq,q⟩|⟨hq,q⟩
 ·obtain⟨its,r',pl,hz⟩:=I.list hq
  have hlen:=r'.length
  refine call_tuple_list pl.isList (fun h' kp=>?_) (by simp only[Qp]<;>omega)
  have I1:Inv X pins σ H {s with heap:=h'}:=I.kept (t':=s.toks) kp
  have I2:Inv X pins σ (upd H h'.objs.size (.tup ys)) {s with heap:=h'.push {cls:=.type "tuple",data:=.seq its.toArray}}:=
   I1.laid (t':=s.toks) (fun b o e=>Qj _ e) (Qw _) (show x5_ X.prog X.w _ _ _ (.tup ys)from⟨hz,its,r',a0P.new _ _⟩)
  exact⟨.ref h'.objs.size,_,I2,rfl,q _ (I1.hok.fresh (Qw _))⟩
 ·obtain⟨its,r',pl,hz⟩:=I.tuple hq
  exact call_tuple_same pl ⟨.ref p,H,I,rfl,q⟩
def tyV(K:Qq)(T:String)(x:V)(H:Hp):Prop:=match x with
 |.str _=>T="str"
 |.int _=>T="int"
 |.ref p=>(T="list"/\ ∃xs,SqL K H p xs)∨(T="tuple"/\ ∃o,K.lookup p=some o/\o.cls=.type "tuple"/\o.dict=none)∨
   (T="dict"/\((∃kvs,H p=some (.dK kvs))∨ ∃C kvs,H p=some (.dT C kvs)))∨(T="set"/\ ∃S n,H p=some (.set S n))
 |_=>False
theorem b4G{pins:OX}{σ:St}{H:Hp}{s:Shared}{T:String}{x:V}{v:Value}(I:Inv X pins σ H s)(r:q9_ x v)(ty:tyV X.K T x H):
  s.TypeIs v T/\∀a,v=.ref a->∃ob,s.heap.get? a=some ob/\ob.dict=none:=by
 cases x with
 |str z=>
  obtain⟨t,rfl⟩:=r;cases (show T="str" from ty)
  exact⟨typeIs_str s z t,fun _ e=>nomatch e⟩
 |int i=>
  obtain⟨t,rfl⟩:=r;cases (show T="int" from ty)
  exact⟨typeIs_int s i t,fun _ e=>nomatch e⟩
 |ref p=>
  cases r
  rcases ty with⟨rfl,xs,hq⟩|⟨rfl,o,hk,hc,hd⟩|⟨rfl,hk⟩|⟨rfl,S,n,hk⟩
  ·obtain⟨its,_,pl,_⟩:=I.list hq
   refine⟨pl.isList.typeIs,fun a e=>?_⟩
   cases e;obtain⟨o,n,e,c,hd,_⟩:=pl;exact⟨o,e,hd⟩
  ·refine⟨⟨o,I.kIn p o hk,hc⟩,fun a e=>?_⟩
   cases e;exact⟨o,I.kIn _ o hk,hd⟩
  ·have z:∃o,s.heap.get? p=some o/\o.ExactDict:=by
    rcases hk with⟨kvs,hk⟩|⟨C,kvs,hk⟩
    ·obtain⟨_,_,_,_,o,_,_,e,ex,_⟩:=I.hok p _ hk
     exact⟨o,e,ex⟩
    ·obtain⟨_,_,_,_,o,_,_,e,ex,_⟩:=I.hok p _ hk
     exact⟨o,e,ex⟩
   obtain⟨o,e,ex⟩:=z;refine⟨⟨o,e,ex.1⟩,fun a e2=>?_⟩
   cases e2;exact⟨o,e,ex.2.1⟩
  ·obtain⟨o,_,_,_,e,ex,_⟩:=I.hok p _ hk
   refine⟨⟨o,e,ex.1⟩,fun a e2=>?_⟩
   cases e2;exact⟨o,e,ex.2.1⟩
 |_=>exact False.elim ty
def tBM(K:Qq)(T:String)(r:V->List V->Hp->VK->Prop)(to:TE)(t:TA):TE:=fun σ H Q=>to σ H fun x H1=>tyV K T x H1/\t σ H1 fun xs H2=>r x xs H2 Q
variable{o e:Expr}{es:List Expr}{to:TE}{t:TA}{name:Str}{apos cpos:Pos}{T id:String}{r:V->List V->Hp->VK->Prop}
theorem a4c(pa:PlainAttrs T)(slot:Slot T name id)(hty:typeOf (.builtin id)=pure (.type "method_descriptor"))(hm:MtR X id r)(ho:PE X o to)(ha:PA X (e::es) t)
  (hbase:attributeBase o name X.env (eval o X.env)=eval o X.env:=by rfl)
  (hfew:((backTo cpos (starEach (e::es) X.env)).all (fun x=>!x.1)&&(backToKw cpos (keywordEach [] X.env)).all (fun x=>x.1.isSome)
   &&decide ((e::es).length+([]:List Keyword).length+(if([]:List Keyword).isEmpty then 0 else 1)<30))=true:=by rfl)
  (hline:(apos.endLine==cpos.line)=true:=by rfl)(hs:starEach (e::es) X.env=(false,eval e X.env)::starEach es X.env:=by rfl)(hplain:(backTo cpos (starEach es X.env)).any (·.1)=false:=by rfl):
  PE X (.Call (.Attribute o name apos) (e::es) [] cpos) (tBM X.K T r to t):=by
 intro pins s σ H Q I h;refine Vx hbase hfew hline rfl (thn (ho pins s σ H _ I h) fun v s1 ⟨x,H1,I1,r1,ty,q1⟩=>?_)
 obtain⟨h1,h2⟩:=b4G I1 r1 ty;refine⟨T,id,pa,slot,hty,h1,h2,?_⟩;have hA:=ha cpos pins s1 σ H1 _ I1 q1;rw[hs]at hA ⊢;refine Vk (by show(false||(backTo cpos (starEach es X.env)).any (·.1))=false;rw[hplain]<;>rfl) (Um ?_)
 exact thn hA fun us s2 ⟨vs,H2,I2,r2,q2⟩=>hm pins s2 σ H2 x vs v us Q I2 r1 r2 q2
end
def MtM(X:Cx)(id:String)(r:V->List V->Hp->VK->Prop):Prop:=
 ∀(pins:OX) (s:Shared) (σ:St) (H:Hp) (x:V) (xs:List V) (v:Value) (us:List Value) (Q:VK),Inv X pins σ H s->q9_ x v->q3_ xs us->r x xs H Q->
  wpAny (model X.prog X.w) X.A (call (.builtin id) (v::us)) (EP X pins σ Q) X.xe s
theorem q3_.one:∀{x:V}{us:List Value},q3_ [x] us->∃u,us=[u]/\q9_ x u
 |_,_,.cons r .nil=>⟨_,rfl,r⟩
theorem q3_.two:∀{x y:V}{us:List Value},q3_ [x,y] us->∃u v,us=[u,v]/\q9_ x u/\q9_ y v
 |_,_,_,.cons r (.cons q .nil)=>⟨_,_,rfl,r,q⟩
theorem q3_.zero:∀{us:List Value},q3_ [] us->us=[]
 |_,.nil=>rfl
theorem q3_.eraseIdx:∀{xs:List V}{us:List Value}(i:Nat),q3_ xs us->q3_ (xs.eraseIdx i) (us.eraseIdx i)
 |_,_,_,.nil=>.nil
 |_,_,0,.cons _ t=>t
 |_,_,i+1,.cons r t=>.cons r (q3_.eraseIdx i t)
theorem q3_.rep{xs:List V}{us:List Value}(h:q3_ xs us):∀k:Nat,q3_ (List.replicate k xs).flatten (List.replicate k us).flatten
 |0=>.nil
 |k+1=>by
  rw[Zo,Zo,Uy,Uy];exact q3_.append h (q3_.rep h k)
theorem a9u{α:Type}:∀(l:List α) (i:Nat),(l.eraseIdx i).length≤l.length
 |[],_=>Qw _
 |_::_,0=>Nat.le_succ _
 |_::r,i+1=>Nat.succ_le_succ (a9u r i)
theorem a9v(its:List Value):∀(k:Nat) (acc:List Value),
  List.foldl (fun x1 x2=>x1++x2) acc.toArray (List.replicate k its.toArray)=(acc++(List.replicate k its).flatten).toArray
 |0,acc=>by simp
 |k+1,acc=>by
  have e:acc.toArray++its.toArray=(acc++its).toArray:=by simp
  have e2:(acc++its)++(List.replicate k its).flatten=acc++(List.replicate (k+1) its).flatten:=by
   rw[Zo,Uy,Jf]
  rw[←e2,←a9v its k (acc++its),←e,Zo,Xf]
section
variable{X:Cx}{pins:OX}{σ:St}{H:Hp}{s:Shared}{l b:Addr}{xs ys zs:List V}
theorem Inv.lset{its its':List Value}{n:Nat}{f:Array Value->Array Value}{t':Nat}(I:Inv X pins σ H s)(hH:H l=some (.lst xs))
  (e:s.heap.get? l=some {cls:=.type "list",data:=.seq its.toArray n})(hf:f its.toArray=its'.toArray)(hv:q3_ ys its')(hz:ys.length≤sizeLine):
  Inv X pins σ (upd H l (.lst ys)) {s with heap:=s.heap.update l (Obj.mapSeq f),toks:=t'}:=by
 have q:=PySem.IsL.update e f
 rw[hf]at q;refine I.write (x:=l) (e:=l) (by rw[hH];exact trivial) (.inl rfl) (fun b' u hb hu=>(Heap.get?_update_other s.heap (Obj.mapSeq f) (Zh hb)).trans hu) ⟨_,q⟩ ?_
 exact⟨hz,its',_,hv,q⟩
theorem Inv.lnew{its:List Value}{t':Nat}(I:Inv X pins σ H s)(hv:q3_ ys its)(hz:ys.length≤sizeLine):
  Inv X pins σ (upd H s.heap.objs.size (.lst ys)) {s with heap:=s.heap.push {cls:=.type "list",data:=.seq its.toArray},toks:=t'}:=
 I.laid (fun _ _ q=>Qj _ q) (Qw _) ⟨hz,its,0,hv,Qh _ rfl⟩
theorem Inv.fresh(I:Inv X pins σ H s):H s.heap.objs.size=none:=I.hok.fresh (Qw _)
theorem Inv.lstM(I:Inv X pins σ H s)(hH:H l=some (.lst xs)):xs.length≤sizeLine/\∃(its:List Value) (n:Nat),q3_ xs its/\xs.length=its.length/\s.heap.get? l=some {cls:=.type "list",data:=.seq its.toArray n}:=by
 obtain⟨z,its,n,r,e⟩:=I.hok l _ hH;exact⟨z,its,n,r,r.length,e⟩
end
section
variable{X:Cx}
def b4H:V->List V->Hp->VK->Prop:=fun x vs H Q=>∃l xs y,x=.ref l/\vs=[y]/\H l=some (.lst xs)/\xs.length<sizeLine/\Q .non (upd H l (.lst (xs++[y])))
theorem a9w:MtM X "list.append" b4H:=by
 intro pins s σ H x vs v us Q I rx rv h;obtain⟨l,xs,y,rfl,rfl,hH,hz,q⟩:=h;cases rx;obtain⟨u,rfl,ru⟩:=rv.one;obtain⟨z,its,n,r,hl,e⟩:=I.lstM hH;refine Uc F.slot_list_append ⟨_,e,rfl⟩ F.entry_list_append (F.args_list_append_2 _ _) (PySem.list_append l its.toArray n u (by rw[Qp];omega)) ⟨e,?_⟩
 refine⟨.non,_,I.lset (its':=its++[u]) hH e (by simp) (r.append (.cons ru .nil)) ?_,rfl,q⟩
 rw[Qs,List.length_singleton]
 omega
def b4I:V->List V->Hp->VK->Prop:=fun x vs H Q=>∃l xs i k y,x=.ref l/\vs=[.int i]/\H l=some (.lst xs)/\ -(2^63)≤i/\i<2^63/\seqIndex? i xs.length=some k/\xs[k]? =some y/\Q y (upd H l (.lst (xs.eraseIdx k)))
theorem b4J:MtM X "list.pop" b4I:=by
 intro pins s σ H x vs v us Q I rx rv h;obtain⟨l,xs,i,k,y,rfl,rfl,hH,h1,h2,hk,hy,q⟩:=h;cases rx;obtain⟨u,rfl,ru⟩:=rv.one;obtain⟨t,rfl⟩:=ru;obtain⟨z,its,n,r,hl,e⟩:=I.lstM hH;obtain⟨w,hw,rw'⟩:=r.get hy;refine Uc F.slot_list_pop ⟨_,e,rfl⟩ F.entry_list_pop (F.args_list_pop_2 _ _)
  (MeetsSeq.list_pop_at l its.toArray n i t k w (fitsIndex_both h1 h2) (by rw[Qp,←hl];exact hk) (by rw[←Array.getElem?_toList];exact hw) (by rw[Qp];omega)) ⟨e,?_⟩
 refine⟨y,_,I.lset (its':=its.eraseIdx k) hH e ?_ (r.eraseIdx k) ?_,rw',q⟩
 ·show its.toArray.eraseIdxIfInBounds k=(its.eraseIdx k).toArray
  rw[List.eraseIdxIfInBounds_toArray]
 ·have:=a9u xs k
  omega
theorem a9x{α:Type}(xs:List α)(k:Nat):(List.replicate k xs).flatten.length=k * xs.length:=by
 induction k with
 |zero=>simp
 |succ k ih=>rw[Zo,Uy,Qs,ih,Nat.succ_mul,Nat.add_comm]
end
section
variable{prog:Program}{w:World}{A:Around}{E:OE}{s:Shared}
set_option maxRecDepth 100000 in
end
section
variable{X:Cx}
end
end L2
namespace Att
open PySem PySem.W PySem.Calls PyProof.Rows
theorem ints_of_wellAll{P:Params}{h:Heap}:∀(ns:List Int) (vs:List Value),WellAll P h vs (ns.map WData.int)->IntsAre vs ns:=by
 intro ns
 induction ns with
 |nil=>
  intro vs w;rw[List.map_nil]at w;cases w;exact .nil
 |cons n ns ih=>
  intro vs w;rw[Qg]at w;cases w with
  |cons a b=>
   cases a;exact .cons _ _ (ih _ b)
theorem script_of{l:OpenLaw}{n:Nat}(hn:l.most=some n){P:Params}{h:Heap}{args:List WData}{vals:List Value}
  (hpre:l.row.toRowW.claim.pre args=true)(hwl:WellAll P h vals args):
  ∃a vs ns,vals=[Value.ref a]/\args=[WData.list (ns.map WData.int)]/\h.get? a=some {cls:=.type "list",data:=.seq vs.toArray}/\IntsAre vs ns/\ns.length≤n:=by
 have hsh:WShape.hasAll [] args [.list .int]=true:=(pre_splitW hpre).1
 have hc:l.pre.holds [] {args:=args}=true:=(pre_splitW hpre).2
 obtain⟨d,r,rfl,h1,h2⟩:=hasAllW_cons hsh;obtain rfl:=hasAllW_nil h2;obtain⟨xs,rfl,h3⟩:=hasW_list h1;obtain⟨ns,rfl⟩:=items_int h3;have hlen:ns.length≤n:=by
  unfold OpenLaw.pre at hc;have h4:(WTm.not (.lt (.lit (.int (n:Int))) (.len (.arg 0)))).holds [] {args:=[.list (ns.map .int)]}=true:=by
   have h4:=(holds_andW hc).1
   rw[hn]at h4;exact h4
  have h5:=condW_of h4 (w_not (w_lt w_lit (w_len_list (w_arg rfl))))
  rw[Qk]at h5;refine Nat.le_of_not_lt fun q=>?_
  have q':(n:Int)<((ns.length:Nat):Int):=by omega
  first
   |(rw[Yj q']at h5;exact absurd h5 (by decide))
   |(simp at h5;omega)
 cases hwl with
 |cons w1 w2=>
  cases w2;cases w1 with
  |list ho hall=>exact⟨_,_,ns,rfl,rfl,ho,ints_of_wellAll ns _ hall,hlen⟩
theorem post_true(l:OpenLaw)(args:List WData):l.row.toRowW.claim.post args (.bool true) args=true:=
 postW_of (r:=l.row.toRowW) (X:=(true==true))
  (show WShape.has [] (.bool true) .bool=true by first|rfl|decide|simp[WShape.has,WShape.arms,WShape.armsAll])
  (show(WTm.eq .res (.lit (.bool true))).value [] {args:=args,res:=some (.bool true),after:=args}=some (.bool (true==true))from w_eq_bool (w_res rfl) w_lit) rfl
theorem attach_call{l:OpenLaw}{n:Nat}{q:Program}{loose:List Str}{XP:(OU)->Heap->Prop}{YP:World->Heap->Prop}{d:DefRec}
  (hn:l.most=some n)(hdf:d.params.defaults=[])
  (call:∀(w:World) (s₀ s₁:Shared) (mg mb:OU) (fa:Addr) (o:Obj) (pm cd doc:Value) (a:Addr) (vs:List Value) (ns:List Int),
   Ground q loose [] XP w s₀ mg mb s₁.heap->YP w s₁.heap->
   s₁.heap.get? fa=some o->o.data=.func (docDef d.name d.params d.body d.scope pm cd doc)->s₁.heap.CodeRec cd d.name->mg d.name=some (.ref fa)->
   s₁.heap.get? a=some {cls:=.type "list",data:=.seq vs.toArray}->IntsAre vs ns->ns.length≤n->s₁.gens= #[]->
   codeAny (model l.prog w) callerA (.call (.ref fa) ⟨[.ref a],[]⟩) (fun r s'=>r=.ok (.ret (.bool true))/\OldK s₁.heap s'.heap/\s'.os=s₁.os/\AllBare s'.gens) s₁):
  WalkO q loose XP YP l.row.toRowW d [] (fun f vs=>PySem.call f vs):=by
 intro w s₀ s₁ mg mb G Y fa o pm cd doc dV kV ho hd hcd hD hmg hg args vals as hpre hlay hrd hwl hlo;obtain rfl:dV=.none:=Dflts.none hD hdf;obtain rfl:kV=.none:=Dflts.noKw hD;obtain⟨a,vs,ns,rfl,rfl,hobj,hints,hlen⟩:=script_of hn hpre hwl;refine enter_call (Vh (call w s₀ s₁ mg mb fa o pm cd doc a vs ns G Y ho (fd_plain hd) hcd hmg hobj hints hlen hg) fun r s' hq=>?_)
 obtain⟨rfl,h2,h3,h4⟩:=hq;exact⟨.inl ⟨.bool true,.bool true,[],rfl,fun _=>rfl,.bool true,post_true l _,fun _=>⟨List.Pairwise.nil,fun _ hm=>(nomatch hm)⟩⟩,h2,h3,h4⟩
section
variable{prog:Program}{w:World}{A:Around}{E:OE}{s:Shared}{K:Frag}
end
end Att
namespace L2
open PySem PySem.Spec PyProof.Rows
theorem a9y:∀{vs:List Value}{ns:List Int},IntsAre vs ns->q3_ (ns.map V.int) vs
 |_,_,.nil=>.nil
 |_,_,.cons n t h=>.cons ⟨t,rfl⟩ (a9y h)
def a2y(s:Stmt):Arguments:=match s with
 |.FunctionDef _ a _ _ _ _ _ _ _ _=>a
 |_=>{posonlyargs:=[],args:=[],vararg:=none,kwonlyargs:=[],kw_defaults:=[],kwarg:=none,defaults:=[]}
def a0F(s:Stmt):List Stmt:=match s with
 |.FunctionDef _ _ b _ _ _ _ _ _ _=>b
 |_=>[]
def v7_(s:Stmt):Scope:=match s with
 |.FunctionDef _ _ _ _ _ _ sc _ _ _=>sc
 |_=>{kind:=.function,names:=[],isGenerator:=false,isCoroutine:=false}
abbrev CX0:CXT:=fun _ _ _ _ _ _=>False
abbrev E0:XK:=fun _ _ _=>False
theorem a9z{X:Cx}:a4X CX0 X E0:=fun _ _ _ _ _ _ _ h=>h.elim
structure Fun(K:Qq)(x qual:Str)(st:Stmt)(f:Addr)(fd:FuncData):Prop where
 ex:∃(oc:Value) (od:Option Addr) (kV doc pm:Value) (an:Option Addr) (cdv ct:Value) (osl:Array (Option Value)),
  fd=PySem.W.fnOf x qual (a2y st) (a0F st) (v7_ st) .none kV doc pm an cdv ct/\K.lookup f=some ⟨oc,od,.func fd,osl⟩/\PySem.W.codeIn K cdv qual=true
 kp:PySem.W.keepIn K (.ref f)=true
section
variable{P:Program}{w:World}{K:Qq}{mg:OU}{base:Heap}
theorem Fun.ok{x qual:Str}{st:Stmt}{f:Addr}{fd:FuncData}{N ps:List Str}{k:Nat}{sp:Sp}(F:Fun K x qual st f fd)(S:FnScope N ps (v7_ st))(len:∀vs H Q E,sp vs H Q E->vs.length=ps.length)
  (hbody:∀(cdv:Value) (A:Around) (outer:List Env) (s:Shared) (H:Hp) (vs:List V) (Q:VK) (E:XK),Room k (A.deeper (envOfC qual (v7_ st) s.heap.objs.size f cdv))->sp vs H Q E->
   ∃t,PSs (w4_ CX0 P w K mg base N qual (v7_ st) f cdv A outer s H E).nox (a0F st) t/\t {nx:=fun _ H'=>Q .non H',rt:=Q} (start N vs) H):FnOk P w K mg base CX0 (k+1) f fd ps sp:=by
 obtain⟨oc,od,kV,doc,pm,an,cdv,ct,osl,rfl,lk,hcd⟩:=F.ex;refine a6s lk hcd S len fun A outer s H vs Q E hr hsp=>?_
 obtain⟨t,h,q⟩:=hbody cdv A outer s H vs Q E hr hsp;exact⟨t,h.nox,q⟩
theorem Fun.binds{x qual:Str}{st:Stmt}{f:Addr}{fd:FuncData}{ps:List Str}(F:Fun K x qual st f fd)
  (h:∀(kV doc pm:Value) (an:Option Addr) (cdv ct:Value) (us:List Value),us.length=ps.length->bindArgs (PySem.W.fnOf x qual (a2y st) (a0F st) (v7_ st) .none kV doc pm an cdv ct) ⟨us,[]⟩=pure (ps.zip us)):a0w K fd ps []:=by
 obtain⟨oc,od,kV,doc,pm,an,cdv,ct,osl,rfl,lk,hcd⟩:=F.ex;exact .all (h kV doc pm an cdv ct)
theorem b4K{x qual:Str}{st:Stmt}{f:Addr}{oc:Value}{od an:Option Addr}{osl:Array (Option Value)}{kV doc pm cdv ct:Value}(l:K.lookup f=some ⟨oc,od,.func (PySem.W.fnOf x qual (a2y st) (a0F st) (v7_ st) .none kV doc pm an cdv ct),osl⟩)
  (c:PySem.W.codeIn K cdv qual=true)(k:PySem.W.keepIn K (.ref f)=true):Fun K x qual st f (PySem.W.fnOf x qual (a2y st) (a0F st) (v7_ st) .none kV doc pm an cdv ct):=⟨⟨oc,od,kV,doc,pm,an,cdv,ct,osl,rfl,l,c⟩,k⟩
end
theorem a3k{n:Nat}(h:n≤1000):n<sizeLine:=Xq h (by decide)
section
variable{X:Cx}
theorem pv(i:Nat){x:Str}{pos:Pos}(hN:X.N[i]? =some x:=by rfl)(hv:Vis X.env.scope x:=by first|exact Or.inl rfl|exact Or.inr (Or.inl rfl)|exact Or.inr (Or.inr rfl))(hd:(x==("__debug__":Str))=false:=by decide)
  (hcd:(x==("__classdict__":Str))=false:=by decide):PE X (.Name x pos) (a0Q i):=a6e hN hv hd hcd
end
def a1f(H H':Hp):Prop:=∀b o,H b=some o->H' b=some o
theorem a1f.refl(H:Hp):a1f H H:=fun _ _ h=>h
theorem a1f.trans{H H1 H2:Hp}(a:a1f H H1)(b:a1f H1 H2):a1f H H2:=fun c o h=>b c o (a c o h)
theorem a1f.free{H H':Hp}(e:a1f H H'){l:Addr}(h:H' l=Option.none):H l=Option.none:=by
 cases q:H l with
 |none=>rfl
 |some o=>
  rw[e l o q]at h;cases h
theorem a1f.seq{K:Qq}{H H':Hp}{a:Addr}{xs:List V}(e:a1f H H')(h:SqL K H a xs):SqL K H' a xs:=by
 rcases h with(h|⟨o,h⟩)|h
 ·exact .inl (.inl (e _ _ h))
 ·exact .inl (.inr ⟨o,e _ _ h⟩)
 ·exact .inr h
section
variable{κ:Type}[DecidableEq κ]
def a2z(kvs:List (κ×V))(k:κ):Option V:=(kvs.find? fun kv=>decide (kv.1=k)).map (·.2)
def a9A(kvs:List (κ×V))(k:κ)(v:V):List (κ×V):=
 if(kvs.any fun kv=>decide (kv.1=k))=true then kvs.map (fun kv=>if kv.1=k then(kv.1,v)else kv)else kvs++[(k,v)]
theorem a9B{p:κ×V}{r:List (κ×V)}{k:κ}(e:p.1=k):a2z (p::r) k=some p.2:=by simp[a2z,Yo,e]
theorem a9C{p:κ×V}{r:List (κ×V)}{k:κ}(e:¬ p.1=k):a2z (p::r) k=a2z r k:=by simp[a2z,Yo,e]
theorem a9D(k:κ):∀kvs:List (κ×V),(kvs.any fun kv=>decide (kv.1=k))=(a2z kvs k).isSome
 |[]=>rfl
 |p::r=>by
  rw[Xj]
  by_cases e:p.1=k
  ·simp only[a9B e,Yj e,Bool.true_or,Option.isSome_some]
  ·rw[a9C e,Zk e,Xx];exact a9D k r
end
theorem a0m.isSome_eq{o:Option V}{u:Option Value}(r:a0m o u):o.isSome=u.isSome:=by
 cases o with
 |none=>cases u with
  |none=>rfl
  |some _=>exact(show False from r).elim
 |some _=>cases u with
  |none=>exact(show False from r).elim
  |some _=>rfl
theorem a1g{P:Program}{w:World}{k:Key}{u:Value}(r:q9_ (kV k) u):(g9_ P w).is k u=true:=by
 cases k with
 |inl i=>obtain⟨t,e⟩:=(show∃t,u=Value.int i t from r);subst e;exact b2Z P w i t
 |inr x=>obtain⟨t,e⟩:=(show∃t,u=Value.str x t from r);subst e;exact b3a P w x t
abbrev KT(C:Addr->List Key->Prop)(H:Hp):List (List Key×V)->List (List Key×Addr×Value)->Prop:=Paired fun p q=>p.1=q.1/\(H q.2.1=some (.tup (p.1.map kV))∨C q.2.1 p.1)/\q9_ p.2 q.2.2
theorem KT.val{C:Addr->List Key->Prop}{H:Hp}{kvs:List (List Key×V)}{xs:List (List Key×Addr×Value)}(r:KT C H kvs xs)(k:List Key):a0m (a2z kvs k) ((atKey xs k).map (·.2)):=by
 induction r with
 |nil=>exact True.intro
 |@cons p q ps qs h t ih=>
  obtain⟨h1,_,h2⟩:=h
  by_cases e:p.1=k
  ·have e':q.1=k:=h1.symm.trans e
   have b:atKey (q::qs) k=some q.2:=by simp[atKey,Yo,e']
   rw[a9B e,b];exact h2
  ·have e':¬ q.1=k:=fun z=>e (h1.trans z)
   have b:atKey (q::qs) k=atKey qs k:=by simp[atKey,Yo,e']
   rw[a9C e,b];exact ih
theorem KT.repl{C:Addr->List Key->Prop}{H:Hp}{kvs:List (List Key×V)}{xs:List (List Key×Addr×Value)}(r:KT C H kvs xs)(k:List Key){y:V}{u:Value}(ry:q9_ y u):
  KT C H (kvs.map fun kv=>if kv.1=k then(kv.1,y)else kv) (xs.map (putAt k u)):=by
 induction r with
 |nil=>exact .nil
 |@cons p q ps qs h t ih=>
  rw[Qg,Qg];refine .cons ?_ ih;obtain⟨h1,h2,h3⟩:=h;unfold putAt
  by_cases e:p.1=k
  ·rw[Qn e,Qn (h1.symm.trans e)];exact⟨h1,h2,ry⟩
  ·rw[Qr e,Qr (fun z=>e (h1.trans z))];exact⟨h1,h2,h3⟩
theorem KT.put{C:Addr->List Key->Prop}{H:Hp}{kvs:List (List Key×V)}{xs:List (List Key×Addr×Value)}(r:KT C H kvs xs)(k:List Key){b:Addr}{y:V}{u:Value}(hb:H b=some (.tup (k.map kV))∨C b k)(ry:q9_ y u):
  KT C H (a9A kvs k y) (storedH xs k b u):=by
 have e:(kvs.any fun kv=>decide (kv.1=k))=(atKey xs k).isSome:=by
  rw[a9D,(r.val k).isSome_eq,Option.isSome_map]
 unfold a9A storedH;rw[e]
 by_cases q:(atKey xs k).isSome=true
 ·rw[Qn q,Qn q];exact r.repl k ry
 ·rw[Qr q,Qr q];exact Paired.snoc r ⟨rfl,hb,ry⟩
theorem KT.keeps{C:Addr->List Key->Prop}{H H':Hp}{kvs:List (List Key×V)}{xs:List (List Key×Addr×Value)}(r:KT C H kvs xs)(ht:∀b ys,H b=some (.tup ys)->H' b=some (.tup ys)):KT C H' kvs xs:=
 Paired.mapP r fun _ _ z=>⟨z.1,z.2.1.imp (ht _ _) id,z.2.2⟩
section
variable{P:Program}{w:World}{H:Hp}{h:Heap}{a:Addr}
end
section
variable{X:Cx}{pins:OX}{σ:St}{H:Hp}{s:Shared}{a:Addr}{y v:V}{u r:Value}{o:Option V}{A:Around}{E:OE}
theorem b4L{h':Heap}{t':Nat}{ob:HO}(I:Inv X pins σ H s)(mu:Mut (H a))(hs:Heap.SameBut a s.heap h')(he:∃q,h'.get? a=some q)(new:x5_ X.prog X.w (upd H a ob) h' a ob):
  Inv X pins σ (upd H a ob) {s with heap:=h',toks:=t'}:=
 I.write (x:=a) (e:=a) mu (.inl rfl) (fun b q hb z=>(hs.2 b hb).trans z) he new
end
def b4M(i:Expr):Prop:=∀ov iv,subscripted i false ov iv=operate [ov,iv] (getItem ov iv)
theorem a9E{prog:Program}{w:World}{A:Around}{E:OE}{s:Shared}{env:Env}{value slice:Expr}{pos:Pos}{T id:String}{Q:OE}
  (hl:typeLookup (.type T) "__getitem__"=pure (some (.builtin id)))(hs:b4M slice)
  (h:wpAny (model prog w) A (eval value env) (fun o s₁=>wpAny (model prog w) A (eval slice env) (fun i s₂=>s₂.TypeIs o T/\wpAny (model prog w) A (getItem o i) Q E s₂) E s₁) E s):
  wpAny (model prog w) A (eval (.Subscript value slice pos) env) Q E s:=by
 refine Subscript_ (Zp h (fun o s₁ h₁=>Zp h₁ (fun i s₂ h₂=>?_) fun _ _ x=>x) fun _ _ x=>x)
 obtain⟨hT,h₂⟩:=h₂;unfold subscriptTail;refine Qz ?_
 rw[getitemInPython_of_ne hT.not_modules];refine Qz (wpAny_specialOf hT hl ?_);have fin:wpAny (model prog w) A (subscripted slice false o i) (fun r s₃=>wpAny (model prog w) A (letTemporaryGo value o r>>=fun _=>pure r) Q E s₃) E s₂:=by
  rw[hs o i];exact wpAny_operating (Zp h₂ (fun r s₃ h₃=>Qz (wpAny_letTemporaryGo (Qd h₃))) fun _ _ x=>x)
 first
  |exact Qd (Qz fin)
  |exact Qz (Qd (Qz fin))
  |exact Qz fin
theorem Inv.big(I:Inv X pins σ H s):sysModules<s.heap.objs.size:=by
 have h:mainGlobals<s.heap.objs.size:=(I.mod.glob.keeps I.bk).lt
 exact Vc (by decide) h
end L2
namespace L2.Mir
open PySem PySem.Spec PyProof.Rows
inductive Ob where
 |exc (n:Str)|fn (n:Str)|dk (kvs:List (Key×Key))
 deriving Inhabited
inductive D where
 |non|bl (b:Bool)|int (i:Int)|str (x:Str)|tup (ds:List D)|lst (ds:List D)|emp|obj (o:Ob)|dct (ks:OI) (vs:List D)
 deriving Inhabited
def a9F(K:Qq)(t:Value):Prop:=∀T∈(["tuple","list","int","bool","str"]:List String),PySem.W.kitOne K t (.type T)=some false
def a4Y(K:Qq)(G:Hp)(v:V):Ob->Prop
 |.exc n=>∃a C HP,v=.ref a/\PySem.W.nsIn K mainGlobals n=some (some (.ref C))/\G a=some (.ext HP)/\PySem.W.KitX K (.ref a) (.ref C) HP/\a9F K (.ref C)
 |.fn n=>∃f,v=.ref f/\PySem.W.nsIn K mainGlobals n=some (some (.ref f))/\PySem.W.KitX K (.ref f) (.type "function") (fun _=>True)
 |.dk kvs=>∃a,v=.ref a/\G a=some (.dK (kvs.map fun p=>(p.1,kV p.2)))
def SqU(K:Qq)(G:Hp)(a:Addr)(xs:List V):Prop:=G a=some (.tup xs)∨ ∃(o:Obj) (its:Array Value) (n:Nat),K.lookup a=some o/\o.cls=.type "tuple"/\o.dict=none/\o.data=.seq its n/\its.size≤sizeLine/\q3_ xs its.toList
theorem SqU.t{K:Qq}{G:Hp}{a:Addr}{xs:List V}(h:SqU K G a xs):SqT K G a xs:=h.imp (fun e=>.inl e) id
abbrev a4d(k:List Int):List Key:=k.map Sum.inl
def a4Z(K:Qq):Addr->List Key->Prop:=fun b k=>SqU K (fun _=>none) b (k.map kV)
mutual
def Rep(K:Qq)(G:Hp):V->D->Prop
 |v,.non=>v=.non
 |v,.bl b=>v=.bl b
 |v,.int i=>v=.int i
 |v,.str x=>v=.str x/\x.length≤sizeLine
 |v,.tup ds=>∃a xs,v=.ref a/\SqU K G a xs/\z6_ K G xs ds
 |v,.lst ds=>∃a xs,v=.ref a/\SqL K G a xs/\z6_ K G xs ds
 |v,.emp=>∃a kvs,v=.ref a/\G a=some (.dK kvs)
 |v,.obj o=>a4Y K G v o
 |v,.dct ks vs=>∃a kvs,v=.ref a/\G a=some (.dT (a4Z K) kvs)/\kvs.map (·.1)=ks.map a4d/\z6_ K G (kvs.map (·.2)) vs
def z6_(K:Qq)(G:Hp):List V->List D->Prop
 |xs,[]=>xs=[]
 |xs,d::ds=>∃x r,xs=x::r/\Rep K G x d/\z6_ K G r ds
end
def Le(G G':Hp):Prop:=∀b o,G b=some o->G' b=some o
theorem Le.refl{G:Hp}:Le G G:=fun _ _ e=>e
theorem Le.trans{G G1 G2:Hp}(a:Le G G1)(b:Le G1 G2):Le G G2:=fun x o e=>b x o (a x o e)
theorem Le.upd{G:Hp}{a:Addr}{o:HO}(h:G a=none):Le G (upd G a o):=fun b u e=>by rw[q4_ (w1_ e h)];exact e
theorem Le.sqU{K:Qq}{G G':Hp}(l:Le G G'){a:Addr}{xs:List V}(h:SqU K G a xs):SqU K G' a xs:=h.imp (fun e=>l _ _ e) id
theorem Le.sqT{K:Qq}{G G':Hp}(l:Le G G'){a:Addr}{xs:List V}(h:SqU K G a xs):SqT K G' a xs:=(l.sqU h).t
theorem Le.sqT'{K:Qq}{G G':Hp}(l:Le G G'){a:Addr}{xs:List V}(h:SqT K G a xs):SqT K G' a xs:=by
 rcases h with h|h
 ·rcases h with h|⟨o,h⟩
  ·exact .inl (.inl (l _ _ h))
  ·exact .inl (.inr ⟨o,l _ _ h⟩)
 ·exact .inr h
theorem Le.sqL{K:Qq}{G G':Hp}(l:Le G G'){a:Addr}{xs:List V}(h:SqL K G a xs):SqL K G' a xs:=by
 rcases h with h|h
 ·rcases h with h|⟨o,h⟩
  ·exact .inl (.inl (l _ _ h))
  ·exact .inl (.inr ⟨o,l _ _ h⟩)
 ·exact .inr h
theorem a4Y.mono{K:Qq}{G G':Hp}(l:Le G G'){v:V}:∀{o:Ob},a4Y K G v o->a4Y K G' v o
 |.exc n,⟨a,C,HP,h1,h2,h3,h4⟩=>⟨a,C,HP,h1,h2,l _ _ h3,h4⟩
 |.fn n,h=>h
 |.dk kvs,⟨a,h1,h2⟩=>⟨a,h1,l _ _ h2⟩
mutual
theorem Rep.mono{K:Qq}{G G':Hp}(l:Le G G'):∀(d:D) {v:V},Rep K G v d->Rep K G' v d
 |.non,_,h=>by simpa only[Rep]using h
 |.bl b,_,h=>by simpa only[Rep]using h
 |.int i,_,h=>by simpa only[Rep]using h
 |.str x,_,h=>by simpa only[Rep]using h
 |.tup ds,_,h=>by
  simp only[Rep]at h ⊢;obtain⟨a,xs,e,q,r⟩:=h;exact⟨a,xs,e,l.sqU q,z6_.mono l ds r⟩
 |.lst ds,_,h=>by
  simp only[Rep]at h ⊢;obtain⟨a,xs,e,q,r⟩:=h;exact⟨a,xs,e,l.sqL q,z6_.mono l ds r⟩
 |.emp,_,h=>by
  simp only[Rep]at h ⊢;obtain⟨a,kvs,e,q⟩:=h;exact⟨a,kvs,e,l _ _ q⟩
 |.obj o,_,h=>by
  simp only[Rep]at h ⊢;exact h.mono l
 |.dct ks vs,_,h=>by
  simp only[Rep]at h ⊢;obtain⟨a,kvs,e,q,k,r⟩:=h;exact⟨a,kvs,e,l _ _ q,k,z6_.mono l vs r⟩
theorem z6_.mono{K:Qq}{G G':Hp}(l:Le G G'):∀(ds:List D) {xs:List V},z6_ K G xs ds->z6_ K G' xs ds
 |[],_,h=>by simpa only[z6_]using h
 |d::ds,_,h=>by
  simp only[z6_]at h ⊢;obtain⟨x,r,e,q,t⟩:=h;exact⟨x,r,e,Rep.mono l d q,z6_.mono l ds t⟩
end
theorem repL_nil{K:Qq}{G:Hp}:z6_ K G [] []:=by simp only[z6_]
theorem repL_cons{K:Qq}{G:Hp}{x:V}{xs:List V}{d:D}{ds:List D}(h:Rep K G x d)(t:z6_ K G xs ds):z6_ K G (x::xs) (d::ds):=by
 simp only[z6_];exact⟨x,xs,rfl,h,t⟩
theorem z6_.length{K:Qq}{G:Hp}:∀{ds:List D}{xs:List V},z6_ K G xs ds->xs.length=ds.length
 |[],_,h=>by simp only[z6_]at h;subst h;rfl
 |d::ds,_,h=>by
  simp only[z6_]at h;obtain⟨x,r,e,q,t⟩:=h;subst e
  simp[z6_.length t]
theorem z6_.append{K:Qq}{G:Hp}:∀{ds es:List D}{xs ys:List V},z6_ K G xs ds->z6_ K G ys es->z6_ K G (xs++ys) (ds++es)
 |[],_,_,_,h,t=>by simp only[z6_]at h;subst h;exact t
 |d::ds,_,_,_,h,t=>by
  simp only[z6_]at h;obtain⟨x,r,e,q,u⟩:=h;subst e;exact repL_cons q (z6_.append u t)
theorem z6_.get{K:Qq}{G:Hp}:∀{ds:List D}{xs:List V}{i:Nat}{d:D},z6_ K G xs ds->ds[i]? =some d->∃x,xs[i]? =some x/\Rep K G x d
 |[],_,i,d,h,e=>by simp at e
 |d::ds,_,i,d',h,e=>by
  simp only[z6_]at h;obtain⟨x,r,e1,q,t⟩:=h;subst e1;cases i with
  |zero=>simp at e;subst e;exact⟨x,rfl,q⟩
  |succ i=>simpa using z6_.get (i:=i) t (by simpa using e)
theorem z6_.get'{K:Qq}{G:Hp}{ds:List D}{xs:List V}{i:Nat}{x:V}(h:z6_ K G xs ds)(e:xs[i]? =some x):∃d,ds[i]? =some d/\Rep K G x d:=by
 have hl:=h.length
 have hi:i<xs.length:=(Qb.mp e).1
 obtain⟨x',e',r⟩:=h.get (i:=i) (d:=ds[i]'(by omega)) (by simp)
 rw[e]at e';cases e';exact⟨_,by simp,r⟩
theorem z6_.take{K:Qq}{G:Hp}:∀{ds:List D}{xs:List V}(n:Nat),z6_ K G xs ds->z6_ K G (xs.take n) (ds.take n)
 |_,_,0,_=>by simp[repL_nil]
 |[],_,n+1,h=>by simp only[z6_]at h;subst h;simp[repL_nil]
 |d::ds,_,n+1,h=>by
  simp only[z6_]at h;obtain⟨x,r,e,q,t⟩:=h;subst e;exact repL_cons q (t.take n)
theorem z6_.drop{K:Qq}{G:Hp}:∀{ds:List D}{xs:List V}(n:Nat),z6_ K G xs ds->z6_ K G (xs.drop n) (ds.drop n)
 |_,_,0,h=>h
 |[],_,n+1,h=>by simp only[z6_]at h;subst h;simp[repL_nil]
 |d::ds,_,n+1,h=>by
  simp only[z6_]at h;obtain⟨x,r,e,q,t⟩:=h;subst e;exact t.drop n
theorem z6_.set{K:Qq}{G:Hp}:∀{ds:List D}{xs:List V}{x:V}{d:D}(n:Nat),z6_ K G xs ds->Rep K G x d->z6_ K G (xs.set n x) (ds.set n d)
 |[],_,_,_,n,h,_=>by simp only[z6_]at h;subst h;simp[repL_nil]
 |d::ds,_,_,_,0,h,q'=>by
  simp only[z6_]at h;obtain⟨x,r,e,q,t⟩:=h;subst e;exact repL_cons q' t
 |d::ds,_,_,_,n+1,h,q'=>by
  simp only[z6_]at h;obtain⟨x,r,e,q,t⟩:=h;subst e;exact repL_cons q (t.set n q')
inductive Mu where
 |l (ds:List D)|d (ks:OI) (vs:List D)
 deriving Inhabited
inductive W where
 |nil|dat (d:D)|own (ds:List D)|par (ds:List D)|ownD (ks:OI) (vs:List D)|parD (ks:OI) (vs:List D)
 deriving Inhabited
abbrev Env':=List W
abbrev OZ:=D->Env'->Option Env'
def W.mut:W->Option Mu
 |.own ds=>some (.l ds)
 |.par ds=>some (.l ds)
 |.ownD ks vs=>some (.d ks vs)
 |.parD ks vs=>some (.d ks vs)
 |_=>none
def W.mutL:W->Option (List D)
 |.own ds=>some ds
 |.par ds=>some ds
 |_=>none
def W.mutD:W->Option (OI×List D)
 |.ownD ks vs=>some (ks,vs)
 |.parD ks vs=>some (ks,vs)
 |_=>none
def W.put:W->List D->W
 |.own _,ds=>.own ds
 |.par _,ds=>.par ds
 |w,_=>w
def W.isOwn:W->Bool
 |.own _=>true
 |.ownD _ _=>true
 |_=>false
def W.isPar:W->Bool
 |.par _=>true
 |.parD _ _=>true
 |_=>false
def W.putM(w:W):Mu->W
 |.l ds=>if w.isOwn then .own ds else if w.isPar then .par ds else w
 |.d ks vs=>if w.isOwn then .ownD ks vs else if w.isPar then .parD ks vs else w
theorem W.mutL_of{w:W}{ds:List D}(h:w.mutL=some ds):w.mut=some (.l ds):=by cases w<;>first|(cases h;rfl)|cases h
theorem W.mutD_of{w:W}{ks:OI}{vs:List D}(h:w.mutD=some (ks,vs)):w.mut=some (.d ks vs):=by cases w<;>first|(cases h;rfl)|cases h
theorem W.put_eq{w:W}{ds:List D}(h:w.mutL=some ds)(ds':List D):w.put ds'=w.putM (.l ds'):=by cases w<;>first|rfl|cases h
theorem W.putM_mut{w:W}{m:Mu}(h:w.mut=some m)(m':Mu):(w.putM m').mut=some m':=by
 cases w<;>cases m'<;>first|rfl|cases h
theorem W.putM_own{w:W}{m:Mu}(h:w.mut=some m)(m':Mu):(w.putM m').isOwn=w.isOwn:=by
 cases w<;>cases m'<;>first|rfl|cases h
theorem W.putM_par{w:W}{m:Mu}(h:w.mut=some m)(m':Mu):(w.putM m').isPar=w.isPar:=by
 cases w<;>cases m'<;>first|rfl|cases h
def Owned(σ:St)(env:Env')(a:Addr):Prop:=∃(i:Nat) (w:W) (m:Mu),env[i]? =some w/\w.mut=some m/\σ[i]? =some (some (V.ref a))
theorem own_mut{w:W}(h:w.isOwn=true):∃m,w.mut=some m:=by cases w<;>first|exact⟨_,rfl⟩|cases h
theorem par_mut{w:W}(h:w.isPar=true):∃m,w.mut=some m:=by cases w<;>first|exact⟨_,rfl⟩|cases h
def NT(o:HO):Prop:=∀ps,o≠.tbl ps
theorem nt_lst{xs:List V}:NT (.lst xs):=fun _ z=>by cases z
theorem nt_tup{xs:List V}:NT (.tup xs):=fun _ z=>by cases z
def lamQ(q:Str):Str:=(q++".<locals>.")++"<lambda>"
def tabQ(K:Qq)(P:Addr)(q:Str):Bool:=K.all fun p=>match p.2 with
 |⟨.type "code",_,.fields vs,_⟩=>(match (vs[11]? :Option Value)with|some (.ref P')=>P' !=P|_=>true)||(match vs.toList with|_::.str n _::_=>n==q|_=>false)
 |_=>true
def LamC(K:Qq)(P a:Addr):HO:=.ext fun h=>∀q,tabQ K P q=true->h.CodeRec (.ref a) (lamQ q)
def TabsOk(K:Qq)(H:Hp):Prop:=∀P ps,H P=some (.tbl ps)->TriplesOk ps.toList/\∀pos v,codeAmong pos ps.toList=some v->∃a,v=.ref a/\H a=some (LamC K P a)
theorem TabsOk.mono{K:Qq}{H H':Hp}(t:TabsOk K H)(h1:∀P ps,H' P=some (.tbl ps)->H P=some (.tbl ps))(h2:∀a φ,H a=some (.ext φ)->H' a=some (.ext φ)):TabsOk K H':=fun P ps e=>by
 obtain⟨q1,q2⟩:=t P ps (h1 P ps e);refine⟨q1,fun pos v e=>?_⟩
 obtain⟨a,e1,e2⟩:=q2 pos v e;exact⟨a,e1,h2 _ _ e2⟩
theorem TabsOk.upd{K:Qq}{H:Hp}(t:TabsOk K H){a:Addr}{o:HO}(no:NT o)(h:∀φ,H a≠some (.ext φ)):TabsOk K (upd H a o):=
 t.mono (fun P ps e=>by
  by_cases hb:P=a
  ·subst hb;rw[y3_]at e;cases e;exact absurd rfl (no ps)
  ·rw[q4_ hb]at e;exact e) fun b φ e=>by
  by_cases hb:b=a
  ·subst hb;exact absurd e (h φ)
  ·rw[q4_ hb];exact e
def RepM(K:Qq)(G:Hp)(o:HO):Mu->Prop
 |.l ds=>∃xs,o=.lst xs/\z6_ K G xs ds
 |.d ks vs=>∃kvs,o=.dT (a4Z K) kvs/\kvs.map (·.1)=ks.map a4d/\z6_ K G (kvs.map (·.2)) vs
theorem RepM.mono{K:Qq}{G G':Hp}(l:Le G G'){o:HO}:∀{m:Mu},RepM K G o m->RepM K G' o m
 |.l ds,⟨xs,e,r⟩=>⟨xs,e,z6_.mono l ds r⟩
 |.d ks vs,⟨kvs,e,k,r⟩=>⟨kvs,e,k,z6_.mono l vs r⟩
theorem RepM.nt{K:Qq}{G:Hp}{o:HO}:∀{m:Mu},RepM K G o m->NT o
 |.l ds,⟨xs,e,r⟩=>by subst e;exact nt_lst
 |.d ks vs,⟨kvs,e,k,r⟩=>by subst e;exact fun _ z=>by cases z
theorem RepM.ne{K:Qq}{G:Hp}{o:HO}{m:Mu}(r:RepM K G o m):∀φ,o≠.ext φ:=by
 cases m with
 |l ds=>obtain⟨xs,e,_⟩:=r;subst e;exact fun _ z=>by cases z
 |d ks vs=>obtain⟨xs,e,_⟩:=r;subst e;exact fun _ z=>by cases z
structure Rel(K:Qq)(B:OA)(G:Hp)(σ:St)(env:Env')(H:Hp):Prop where
 sub:Le G H
 len:env.length=σ.length
 dat:∀(i:Nat) (d:D),env[i]? =some (.dat d)->∃v,σ[i]? =some (some v)/\Rep K G v d
 own:∀(i:Nat) (w:W) (m:Mu),env[i]? =some w->w.mut=some m->∃a o,σ[i]? =some (some (V.ref a))/\H a=some o/\RepM K G o m/\G a=none
 inj:∀(i j:Nat) (w w':W) (ds es:Mu) (a:Addr),env[i]? =some w->w.mut=some ds->env[j]? =some w'->w'.mut=some es->σ[i]? =some (some (V.ref a))->σ[j]? =some (some (V.ref a))->i=j
 fresh:∀(i:Nat) (w:W) (a:Addr),env[i]? =some w->w.isOwn=true->σ[i]? =some (some (V.ref a))-> ¬ B a
 old:∀b,B b->H b≠none
 tabs:TabsOk K H
 gnt:∀b o,G b=some o->NT o
structure Ev(K:Qq)(B:OA)(G:Hp)(σ:St)(env:Env')(H:Hp)(G':Hp)(σ':St)(env':Env')(H':Hp):Prop where
 rel:Rel K B G' σ' env' H'
 same:Le G G'
 keep:∀b o,¬ Owned σ env b->NT o->H b=some o->H' b=some o
 live:∀b,H b≠none->H' b≠none
 stay:∀b,H b≠none-> ¬ Owned σ env b->G b=none->G' b=none
 sub:∀a,Owned σ' env' a->Owned σ env a∨H a=none
 par:∀(i:Nat) (w:W),env'[i]? =some w->w.isPar=true->σ'[i]? =σ[i]? /\ ∃w0,env[i]? =some w0/\w0.isPar=true
 slen:σ'.length=σ.length
theorem Ev.refl{K:Qq}{B:OA}{G:Hp}{σ:St}{env:Env'}{H:Hp}(r:Rel K B G σ env H):Ev K B G σ env H G σ env H:=
 ⟨r,Le.refl,fun _ _ _ _ e=>e,fun _ e=>e,fun _ _ _ e=>e,fun _ e=>.inl e,fun _ w e h=>⟨rfl,w,e,h⟩,rfl⟩
theorem Ev.trans{K:Qq}{B:OA}{G G1 G2:Hp}{σ σ1 σ2:St}{env env1 env2:Env'}{H H1 H2:Hp}(a:Ev K B G σ env H G1 σ1 env1 H1)(b:Ev K B G1 σ1 env1 H1 G2 σ2 env2 H2):Ev K B G σ env H G2 σ2 env2 H2 where
 rel:=b.rel
 same:=a.same.trans b.same
 keep:=fun x o n t e=>b.keep x o (fun z=>(a.sub x z).elim n fun q=>by rw[e]at q;cases q) t (a.keep x o n t e)
 live:=fun x e=>b.live x (a.live x e)
 stay:=fun x e n g=>b.stay x (a.live x e) (fun z=>(a.sub x z).elim n fun q=>e q) (a.stay x e n g)
 sub:=fun x z=>(b.sub x z).elim (fun q=>a.sub x q) fun q=>.inr (by
  cases h:H x with
  |none=>rfl
  |some o=>exact absurd q (a.live x (by rw[h];simp)))
 par:=fun i w e h=>by
  obtain⟨h1,d1,e1,p1⟩:=b.par i w e h;obtain⟨h2,d2,e2,p2⟩:=a.par i d1 e1 p1;exact⟨h1.trans h2,d2,e2,p2⟩
 slen:=b.slen.trans a.slen
theorem Rel.ownL{K:Qq}{B:OA}{G:Hp}{σ:St}{env:Env'}{H:Hp}(r:Rel K B G σ env H)(i:Nat)(w:W)(ds:List D)(e1:env[i]? =some w)(e2:w.mutL=some ds):∃a xs,σ[i]? =some (some (V.ref a))/\H a=some (.lst xs)/\z6_ K G xs ds/\G a=none:=by
 obtain⟨a,o,h1,h2,⟨xs,rfl,h3⟩,h4⟩:=r.own i w (.l ds) e1 (W.mutL_of e2);exact⟨a,xs,h1,h2,h3,h4⟩
theorem Rel.ownD{K:Qq}{B:OA}{G:Hp}{σ:St}{env:Env'}{H:Hp}(r:Rel K B G σ env H)(i:Nat)(w:W)(ks:OI)(vs:List D)(e1:env[i]? =some w)(e2:w.mutD=some (ks,vs)):∃a kvs,σ[i]? =some (some (V.ref a))/\H a=some (.dT (a4Z K) kvs)/\kvs.map (·.1)=ks.map a4d/\z6_ K G (kvs.map (·.2)) vs/\G a=none:=by
 obtain⟨a,o,h1,h2,⟨kvs,rfl,h3,h4⟩,h5⟩:=r.own i w (.d ks vs) e1 (W.mutD_of e2);exact⟨a,kvs,h1,h2,h3,h4,h5⟩
abbrev Mo(α:Type):=Env'->Option (α×Env')
section
variable(K:Qq)(B:OA)
def TD(m:Mo D):TE:=fun σ H Q=>∃G env d env',Rel K B G σ env H/\m env=some (d,env')/\∀v G' H',Ev K B G σ env H G' σ env' H'->Rep K G' v d->Q v H'
def TL(m:Mo (List D)):TE:=fun σ H Q=>∃G env ds env',Rel K B G σ env H/\m env=some (ds,env')/\∀a xs G' H',Ev K B G σ env H G' σ env' H'->H a=none-> ¬ Owned σ env' a->H' a=some (.lst xs)->G' a=none->z6_ K G' xs ds->Q (.ref a) H'
def TTm(m:Mo Bool):TT:=fun σ H Q=>∃G env b env',Rel K B G σ env H/\m env=some (b,env')/\∀G' H',Ev K B G σ env H G' σ env' H'->Q b H'
inductive Ar where
 |d (d:D)|sl (i:Nat)
 deriving Inhabited
def RepA(G:Hp)(σ:St):List V->List Ar->Prop
 |xs,[]=>xs=[]
 |xs,.d d::as=>∃x r,xs=x::r/\Rep K G x d/\RepA G σ r as
 |xs,.sl i::as=>∃x r,xs=x::r/\σ[i]? =some (some x)/\RepA G σ r as
def TAm(m:Mo (List Ar)):TA:=fun σ H Q=>∃G env as env',Rel K B G σ env H/\m env=some (as,env')/\∀vs G' H',Ev K B G σ env H G' σ env' H'->RepA K G' σ vs as->Q vs H'
def TDs(m:Mo (List D)):TA:=fun σ H Q=>∃G env ds env',Rel K B G σ env H/\m env=some (ds,env')/\∀vs G' H',Ev K B G σ env H G' σ env' H'->z6_ K G' vs ds->Q vs H'
inductive Fl where
 |nx|bk|ct|ret (d:D)|retL (ds:List D)
def Post(G:Hp)(σ:St)(env:Env')(H:Hp)(env':Env')(D:Ends):Fl->Prop
 |.nx=>∀σ' G' H',Ev K B G σ env H G' σ' env' H'->D.nx σ' H'
 |.bk=>∀σ' G' H',Ev K B G σ env H G' σ' env' H'->D.bk σ' H'
 |.ct=>∀σ' G' H',Ev K B G σ env H G' σ' env' H'->D.ct σ' H'
 |.ret d=>∀v σ' G' H',Ev K B G σ env H G' σ' env' H'->Rep K G' v d->D.rt v H'
 |.retL ds=>∀a xs σ' G' H',Ev K B G σ env H G' σ' env' H'-> ¬ B a-> ¬ Owned σ' env' a->H' a=some (.lst xs)->G' a=none->z6_ K G' xs ds->D.rt (.ref a) H'
def TSm(m:Mo Fl):TS:=fun D σ H=>∃G env fl env',Rel K B G σ env H/\m env=some (fl,env')/\Post K B G σ env H env' D fl
theorem Post.after{G G1:Hp}{σ σ1:St}{env env1 env':Env'}{H H1:Hp}{D:Ends}{fl:Fl}(k:Post K B G σ env H env' D fl)(ev:Ev K B G σ env H G1 σ1 env1 H1):Post K B G1 σ1 env1 H1 env' D fl:=by
 cases fl with
 |nx=>exact fun σ2 G2 H2 ev2=>k σ2 G2 H2 (ev.trans ev2)
 |bk=>exact fun σ2 G2 H2 ev2=>k σ2 G2 H2 (ev.trans ev2)
 |ct=>exact fun σ2 G2 H2 ev2=>k σ2 G2 H2 (ev.trans ev2)
 |ret d=>exact fun v σ2 G2 H2 ev2=>k v σ2 G2 H2 (ev.trans ev2)
 |retL d=>exact fun a xs σ2 G2 H2 ev2=>k a xs σ2 G2 H2 (ev.trans ev2)
end
abbrev ED(X:Cx)(B:OA)(e:Expr)(m:Mo D):Prop:=PE X e (TD X.K B m)
abbrev EL(X:Cx)(B:OA)(e:Expr)(m:Mo (List D)):Prop:=PE X e (TL X.K B m)
abbrev ET(X:Cx)(B:OA)(e:Expr)(m:Mo Bool):Prop:=PT X e (TTm X.K B m)
abbrev EAr(X:Cx)(B:OA)(es:List Expr)(m:Mo (List Ar)):Prop:=PA X es (TAm X.K B m)
abbrev EDs(X:Cx)(B:OA)(es:List Expr)(m:Mo (List D)):Prop:=PA X es (TDs X.K B m)
abbrev ES(X:Cx)(B:OA)(s:Stmt)(m:Mo Fl):Prop:=PS X s (TSm X.K B m)
abbrev ESs(X:Cx)(B:OA)(s:List Stmt)(m:Mo Fl):Prop:=PSs X s (TSm X.K B m)
theorem pe_imp{X:Cx}{e:Expr}{t t':TE}(h:PE X e t)(i:∀σ H Q,t' σ H Q->t σ H Q):PE X e t':=fun pins s σ H Q I q=>h pins s σ H Q I (i σ H Q q)
theorem pt_imp{X:Cx}{e:Expr}{t t':TT}(h:PT X e t)(i:∀σ H Q,t' σ H Q->t σ H Q):PT X e t':=fun pins s σ H Q I q=>h pins s σ H Q I (i σ H Q q)
theorem pw_imp{X:Cx}{e:Expr}{t t':TT}(h:PW X e t)(i:∀σ H Q,t' σ H Q->t σ H Q):PW X e t':=fun wh pins s σ H Q I q=>h wh pins s σ H Q I (i σ H Q q)
theorem pa_imp{X:Cx}{e:List Expr}{t t':TA}(h:PA X e t)(i:∀σ H Q,t' σ H Q->t σ H Q):PA X e t':=fun pos pins s σ H Q I q=>h pos pins s σ H Q I (i σ H Q q)
theorem ps_imp{X:Cx}{e:Stmt}{t t':TS}(h:PS X e t)(i:∀D σ H,t' D σ H->t D σ H):PS X e t':=fun pins s σ H D I q=>h pins s σ H D I (i D σ H q)
theorem pss_imp{X:Cx}{e:List Stmt}{t t':TS}(h:PSs X e t)(i:∀D σ H,t' D σ H->t D σ H):PSs X e t':=fun pins s σ H D I q=>h pins s σ H D I (i D σ H q)
section
variable{K:Qq}{B:OA}{G G':Hp}{σ σ':St}{env env':Env'}{H H':Hp}
theorem Rel.gnone(r:Rel K B G σ env H){p:Addr}(h:H p=none):G p=none:=by
 cases e:G p with
 |none=>rfl
 |some o=>rw[r.sub p o e]at h;cases h
theorem Rel.unowned(r:Rel K B G σ env H){p:Addr}(h:H p=none):¬ Owned σ env p:=by
 rintro⟨i,w,ds,e1,e2,e3⟩;obtain⟨a,xs,e4,e5,_⟩:=r.own i w ds e1 e2;rw[e3]at e4;cases e4;rw[h]at e5;cases e5
theorem a6y{G:Hp}{p:Addr}{o:HO}(h:∀b o,G b=some o->NT o)(no:NT o):∀b u,upd G p o b=some u->NT u:=fun b u e=>by
 by_cases hb:b=p
 ·subst hb;rw[y3_]at e;cases e;exact no
 ·rw[q4_ hb]at e;exact h b u e
theorem Rel.alloc(r:Rel K B G σ env H){p:Addr}{o:HO}(h:H p=none)(no:NT o:=by intro _ z;cases z):Ev K B G σ env H (upd G p o) σ env (upd H p o):=by
 have gp:=r.gnone h
 refine⟨⟨fun b u e=>?_,r.len,fun i d e=>?_,fun i w ds e1 e2=>?_,r.inj,r.fresh,fun b e=>?_,r.tabs.upd no (fun φ z=>by rw[h]at z;cases z),a6y r.gnt no⟩,Le.upd gp,fun b u _ _ e=>?_,fun b e=>?_,fun b e _ g=>?_,fun a z=>.inl z,fun i w e hp=>⟨rfl,w,e,hp⟩,rfl⟩
 ·by_cases hb:b=p
  ·subst hb;rw[y3_]at e ⊢;exact e
  ·rw[q4_ hb]at e ⊢;exact r.sub b u e
 ·obtain⟨v,e1,e2⟩:=r.dat i d e
  exact⟨v,e1,Rep.mono (Le.upd gp) d e2⟩
 ·obtain⟨a,xs,e3,e4,e5,e6⟩:=r.own i w ds e1 e2
  have ha:a≠p:=w1_ e4 h
  exact⟨a,xs,e3,by rw[q4_ ha];exact e4,e5.mono (Le.upd gp),by rw[q4_ ha];exact e6⟩
 ·by_cases hb:b=p
  ·subst hb;rw[y3_];simp
  ·rw[q4_ hb];exact r.old b e
 ·rw[q4_ (w1_ e h)];exact e
 ·by_cases hb:b=p
  ·subst hb;rw[y3_];simp
  ·rw[q4_ hb];exact e
 ·have hb:b≠p:=fun z=>e (z ▸ h)
  rw[q4_ hb];exact g
theorem Rel.allocM(r:Rel K B G σ env H){p:Addr}{o:HO}(h:H p=none)(no:NT o:=by intro _ z;cases z):Ev K B G σ env H G σ env (upd H p o):=by
 refine⟨⟨fun b u e=>?_,r.len,r.dat,fun i w ds e1 e2=>?_,r.inj,r.fresh,fun b e=>?_,r.tabs.upd no (fun φ z=>by rw[h]at z;cases z),r.gnt⟩,Le.refl,fun b u _ _ e=>?_,fun b e=>?_,fun b e _ g=>g,fun a z=>.inl z,fun i w e hp=>⟨rfl,w,e,hp⟩,rfl⟩
 ·rw[q4_ (w1_ (r.sub b u e) h)];exact r.sub b u e
 ·obtain⟨a,xs,e3,e4,e5,e6⟩:=r.own i w ds e1 e2
  exact⟨a,xs,e3,by rw[q4_ (w1_ e4 h)];exact e4,e5,e6⟩
 ·by_cases hb:b=p
  ·subst hb;rw[y3_];simp
  ·rw[q4_ hb];exact r.old b e
 ·rw[q4_ (w1_ e h)];exact e
 ·by_cases hb:b=p
  ·subst hb;rw[y3_];simp
  ·rw[q4_ hb];exact e
theorem Ev.frz{a:Addr}{xs:List V}(v:Ev K B G σ env H G' σ' env' H')(ha:H a=none)(no:¬ Owned σ' env' a)(h':H' a=some (.lst xs))(g':G' a=none):
  Ev K B G σ env H (upd G' a (.lst xs)) σ' env' H':=by
 refine⟨⟨fun b u e=>?_,v.rel.len,fun i d e=>?_,fun i w ds e1 e2=>?_,v.rel.inj,v.rel.fresh,v.rel.old,v.rel.tabs,a6y v.rel.gnt nt_lst⟩,v.same.trans (Le.upd g'),v.keep,v.live,fun b e n g=>?_,v.sub,v.par,v.slen⟩
 ·by_cases hb:b=a
  ·subst hb;rw[y3_]at e;cases e;exact h'
  ·rw[q4_ hb]at e;exact v.rel.sub b u e
 ·obtain⟨x,e1,e2⟩:=v.rel.dat i d e
  exact⟨x,e1,Rep.mono (Le.upd g') d e2⟩
 ·obtain⟨p,ys,e3,e4,e5,e6⟩:=v.rel.own i w ds e1 e2
  have hp:p≠a:=fun z=>no ⟨i,w,ds,e1,e2,by rw[←z];exact e3⟩
  exact⟨p,ys,e3,e4,e5.mono (Le.upd g'),by rw[q4_ hp];exact e6⟩
 ·have hb:b≠a:=fun z=>e (z ▸ ha)
  rw[q4_ hb];exact v.stay b e n g
theorem a9G{a:Addr}{xs:List V}{ds:List D}(h:G a=some (.lst xs))(r:z6_ K G xs ds):Rep K G (.ref a) (.lst ds):=by
 simp only[Rep];exact⟨a,xs,rfl,.inl (.inl h),r⟩
theorem a4e{a:Addr}{xs:List V}{ds:List D}(h:G a=some (.tup xs))(r:z6_ K G xs ds):Rep K G (.ref a) (.tup ds):=by
 simp only[Rep];exact⟨a,xs,rfl,.inl h,r⟩
theorem Rel.frzSlotM{i:Nat}{w0:W}{m:Mu}{d:D}(r:Rel K B G σ env H)(e:env[i]? =some w0)(em:w0.mut=some m)(hrep:∀G1 a o,G1 a=some o->RepM K G1 o m->Rep K G1 (.ref a) d):
  ∃a o,σ[i]? =some (some (.ref a))/\Rep K (upd G a o) (.ref a) d/\Ev K B G σ env H (upd G a o) σ (env.set i (.dat d)) H:=by
 obtain⟨a,o,e1,e2,e3,e4⟩:=r.own i _ m e em;have rp:Rep K (upd G a o) (.ref a) d:=hrep _ a o y3_ (e3.mono (Le.upd e4));have ow:Owned σ env a:=⟨i,_,m,e,em,e1⟩;have hi:i<env.length:=(Qb.mp e).1;have ne:∀j w es,(env.set i (.dat d))[j]? =some w->w.mut=some es->j≠i/\env[j]? =some w:=fun j w es q1 q2=>by
  by_cases hj:j=i
  ·subst hj;rw[Zd hi]at q1;cases q1;cases q2
  ·rw[Qc (Zh hj)]at q1;exact⟨hj,q1⟩
 refine⟨a,o,e1,rp,⟨⟨fun b u q=>?_,by rw[Zv];exact r.len,fun j d q=>?_,fun j w es q1 q2=>?_,fun j k w w' es fs b q1 q2 q3 q4 q5 q6=>?_,fun j w b q1 qo q2=>?_,r.old,r.tabs,a6y r.gnt e3.nt⟩,Le.upd e4,fun b o _ _ q=>q,fun b q=>q,fun b q n g=>?_,fun b z=>?_,fun j w q qp=>?_,rfl⟩⟩
 ·by_cases hb:b=a
  ·subst hb;rw[y3_]at q;cases q;exact e2
  ·rw[q4_ hb]at q;exact r.sub b u q
 ·by_cases hj:j=i
  ·subst hj;rw[Zd hi]at q;cases q;exact⟨_,e1,rp⟩
  ·rw[Qc (Zh hj)]at q
   obtain⟨x,q1,q2⟩:=r.dat j d q;exact⟨x,q1,Rep.mono (Le.upd e4) d q2⟩
 ·obtain⟨hj,q⟩:=ne j w es q1 q2
  obtain⟨p,ys,e3',e4',e5',e6'⟩:=r.own j w es q q2;have hp:p≠a:=fun z=>hj (r.inj j i w _ es m a q q2 e em (by rw[e3',z]) e1)
  exact⟨p,ys,e3',e4',e5'.mono (Le.upd e4),by rw[q4_ hp];exact e6'⟩
 ·exact r.inj j k w w' es fs b (ne j w es q1 q2).2 q2 (ne k w' fs q3 q4).2 q4 q5 q6
 ·obtain⟨es,hm⟩:=own_mut qo
  exact r.fresh j w b (ne j _ es q1 hm).2 qo q2
 ·have hb:b≠a:=fun z=>n (z ▸ ow)
  rw[q4_ hb];exact g
 ·obtain⟨j,w,es,q1,q2,q3⟩:=z
  exact .inl ⟨j,w,es,(ne j w es q1 q2).2,q2,q3⟩
 ·obtain⟨es,hm⟩:=par_mut qp
  exact⟨rfl,w,(ne j _ es q hm).2,qp⟩
theorem Rel.frzSlot{i:Nat}{ds:List D}(r:Rel K B G σ env H)(e:env[i]? =some (.own ds)):
  ∃a o,σ[i]? =some (some (.ref a))/\Rep K (upd G a o) (.ref a) (.lst ds)/\Ev K B G σ env H (upd G a o) σ (env.set i (.dat (.lst ds))) H:=
 r.frzSlotM (m:=.l ds) e rfl fun G1 a o h ⟨xs,z,q⟩=>by subst z;exact a9G h q
theorem Rel.frzSlotD{i:Nat}{ks:OI}{vs:List D}(r:Rel K B G σ env H)(e:env[i]? =some (.ownD ks vs)):
  ∃a o,σ[i]? =some (some (.ref a))/\Rep K (upd G a o) (.ref a) (.dct ks vs)/\Ev K B G σ env H (upd G a o) σ (env.set i (.dat (.dct ks vs))) H:=
 r.frzSlotM (m:=.d ks vs) e rfl fun G1 a o h ⟨kvs,z,q1,q2⟩=>by subst z;simp only[Rep];exact⟨a,kvs,rfl,h,q1,q2⟩
end
def z0_(i:Nat):Mo D:=fun env=>match env[i]? with
 |some (.dat d)=>some (d,env)
 |some (.own ds)=>some (.lst ds,env.set i (.dat (.lst ds)))
 |some (.ownD ks vs)=>some (.dct ks vs,env.set i (.dat (.dct ks vs)))
 |_=>none
def mC(d:D):Mo D:=fun env=>some (d,env)
section
variable{X:Cx}{B:OA}{pos:Pos}
theorem z4_{i:Nat}{x:Str}(h:PE X (.Name x pos) (a0Q i)):ED X B (.Name x pos) (z0_ i):=by
 refine pe_imp h fun σ H Q q=>?_
 obtain⟨G,env,d,env',r,e,k⟩:=q;unfold z0_ at e;split at e
 ·rename_i d' e1
  cases e;obtain⟨v,e2,e3⟩:=r.dat i _ e1;exact⟨v,e2,k v G H (.refl r) e3⟩
 ·rename_i ds e1
  cases e;obtain⟨a,xs,e2,e3,e4⟩:=r.frzSlot e1;exact⟨_,e2,k _ _ H e4 e3⟩
 ·rename_i ks vs e1
  cases e;obtain⟨a,xs,e2,e3,e4⟩:=r.frzSlotD e1;exact⟨_,e2,k _ _ H e4 e3⟩
 ·cases e
theorem a4f{e:Expr}{v:V}{d:D}(h:PE X e (tC v))(hd:∀K G,Rep K G v d):ED X B e (mC d):=by
 refine pe_imp h fun σ H Q q=>?_
 obtain⟨G,env,d',env',r,e,k⟩:=q;cases e;exact k v G H (.refl r) (hd _ _)
theorem q6_{i:Int}{j:Nat}:ED X B (.Constant (.int i) j pos) (mC (.int i)):=a4f a3d fun _ _=>by simp only[Rep]
theorem w9_{b:Bool}{j:Nat}:ED X B (.Constant (.bool b) j pos) (mC (.bl b)):=a4f b3f fun _ _=>by simp only[Rep]
theorem a3l{j:Nat}:ED X B (.Constant .none j pos) (mC .non):=a4f a8M fun _ _=>by simp only[Rep]
theorem j7_{x:Str}{j:Nat}(hx:x.length≤1000):ED X B (.Constant (.str x) j pos) (mC (.str x)):=a4f a2v fun _ _=>by simp only[Rep];exact⟨trivial,Ye (a3k hx)⟩
theorem b4N{x:Str}{i:Int}{t:Tok}(hg:Gl X x)(hm:X.mg x=some (.int i t))(hd:(x==("__debug__":Str))=false:=by decide):ED X B (.Name x pos) (mC (.int i)):=
 a4f (a4S (v:=.int i) hg hm ⟨t,rfl⟩ hd) fun _ _=>by simp only[Rep]
def z3_(f:D->D->Option D)(ma mb:Mo D):Mo D:=fun env=>(ma env).bind fun p=>(mb p.2).bind fun q=>(f p.1 q.1).map fun d=>(d,q.2)
def OpD(X:Cx)(B:OA)(r:R2)(f:D->D->Option D):Prop:=
 ∀(G:Hp) (σ:St) (env:Env') (H:Hp) (x y:V) (a b c:D) (Q:VK),Rel X.K B G σ env H->Rep X.K G x a->Rep X.K G y b->f a b=some c->
  (∀v G' H',Ev X.K B G σ env H G' σ env H'->Rep X.K G' v c->Q v H')->r x y H Q
theorem a4g{r:R2}{f:D->D->Option D}{ma mb:Mo D}(o:OpD X B r f):∀σ H Q,TD X.K B (z3_ f ma mb) σ H Q->tOp r (TD X.K B ma) (TD X.K B mb) σ H Q:=by
 rintro σ H Q ⟨G,env,d,env',rl,e,k⟩;unfold z3_ at e;cases ea:ma env with
 |none=>rw[ea]at e;cases e
 |some p=>
  obtain⟨d1,env1⟩:=p;rw[ea]at e;simp only[Qx]at e;cases eb:mb env1 with
  |none=>rw[eb]at e;cases e
  |some p=>
   obtain⟨d2,env2⟩:=p;rw[eb]at e;simp only[Qx]at e;cases ef:f d1 d2 with
   |none=>rw[ef]at e;cases e
   |some c=>
    rw[ef]at e;cases e;refine⟨G,env,d1,env1,rl,ea,fun v1 G1 H1 v r1=>⟨G1,env1,d2,_,v.rel,eb,fun v2 G2 H2 v' r2=>?_⟩⟩
    exact o G2 σ _ H2 v1 v2 d1 d2 _ Q v'.rel (Rep.mono v'.same _ r1) r2 ef fun v3 G3 H3 v3' r3=>k v3 G3 H3 ((v.trans v').trans v3') r3
theorem y1_{op:Operator}{r:R2}{f:D->D->Option D}{a b:Expr}{ma mb:Mo D}(ho:OpR X (binaryOp op) r)(o:OpD X B r f)(ha:ED X B a ma)(hb:ED X B b mb):ED X B (.BinOp a op b pos) (z3_ f ma mb):=
 pe_imp (a8V ho ha hb) (a4g o)
theorem a2A{op:CmpOp}{r:R2}{f:D->D->Option D}{a b:Expr}{ma mb:Mo D}(ho:OpR X (compareOp op) r)(o:OpD X B r f)(ha:ED X B a ma)(hb:ED X B b mb)(hm:behindInMarks op b=false):ED X B (.Compare a [op] [b] pos) (z3_ f ma mb):=
 pe_imp (b4c ho ha hb hm) (a4g o)
def fI(C:Int->Int->Bool)(g:Int->Int->D):D->D->Option D
 |.int i,.int j=>if C i j then some (g i j)else none
 |_,_=>none
theorem a5a{C:Int->Int->Prop}{c:Int->Int->Bool}{g:Int->Int->V}{g':Int->Int->D}(hc:∀i j,c i j=true->C i j)(hg:∀K G i j,Rep K G (g i j) (g' i j)):OpD X B (rI C g) (fI c g'):=by
 intro G σ env H x y a b d Q rl ra rb e k;cases a<;>cases b<;>first|(exact absurd (show(none:Option D)=some d from e) (by simp))|skip
 rename_i i j;simp only[Rep]at ra rb;subst ra rb;simp only[fI]at e;split at e
 ·rename_i h
  cases e;exact⟨i,j,rfl,rfl,hc i j h,k _ G H (.refl rl) (hg _ _ i j)⟩
 ·cases e
theorem a4h{g:Int->Int->V}{g':Int->Int->D}(hg:∀K G i j,Rep K G (g i j) (g' i j)):OpD X B (rI0 g) (fI (fun _ _=>true) g'):=by
 intro G σ env H x y a b d Q rl ra rb e k;cases a<;>cases b<;>first|(exact absurd (show(none:Option D)=some d from e) (by simp))|skip
 rename_i i j;simp only[Rep]at ra rb;subst ra rb;simp only[fI,Zs]at e;cases e;exact⟨i,j,rfl,rfl,k _ G H (.refl rl) (hg _ _ i j)⟩
theorem OpR.or{f:Value->Value->Sem Value}{r r':R2}(h:OpR X f r)(h':OpR X f r'):OpR X f (fun x y H Q=>r x y H Q∨r' x y H Q):=by
 intro pins s σ H x y v u Q I rx ry q
 rcases q with q|q
 ·exact h pins s σ H x y v u Q I rx ry q
 ·exact h' pins s σ H x y v u Q I rx ry q
def fOr(f g:D->D->Option D):D->D->Option D:=fun a b=>match f a b with
 |some c=>some c
 |none=>g a b
theorem OpD.or{r r':R2}{f g:D->D->Option D}(h:OpD X B r f)(h':OpD X B r' g):OpD X B (fun x y H Q=>r x y H Q∨r' x y H Q) (fOr f g):=by
 intro G σ env H x y a b d Q rl ra rb e k;unfold fOr at e;split at e
 ·rename_i c ec
  cases e;exact .inl (h G σ env H x y a b _ Q rl ra rb ec k)
 ·exact .inr (h' G σ env H x y a b d Q rl ra rb e k)
def a2B(i j:Int):Bool:=(decide (-(2^64)<i)&&decide (i<2^64))||(decide (-(2^64)<j)&&decide (j<2^64))
def a5b(_ j:Int):Bool:=decide (0<j)&&decide (j<1073741824)
def a5c(i j:Int):Bool:=decide (0≤j)&&decide (j≤1000000)&&decide (i.natAbs<2^64)
def a0S:=fI (fun _ _=>true) fun i j=>.int (i-j)
def a6z:=fI a2B fun i j=>.int (i * j)
def a4i:=fI a5b fun i j=>.int (i/j)
def j0_:=fI (fun _ j=>decide (0<j)) fun i j=>.int (i%j)
def a1Q:=fI a5c fun i j=>.int (i^j.toNat)
def a5d:=fI (fun _ _=>true) fun i j=>.int (i+j)
def dLt:=fI (fun _ _=>true) fun i j=>.bl (decide (i<j))
def dLe:=fI (fun _ _=>true) fun i j=>.bl (decide (i≤j))
def dGe:=fI (fun _ _=>true) fun i j=>.bl (decide (j≤i))
theorem a6A:OpD X B (rI0 fun i j=>.int (i-j)) a0S:=a4h fun _ _ _ _=>by simp only[Rep]
theorem a9H:OpD X B (rI0 fun i j=>.int (i+j)) a5d:=a4h fun _ _ _ _=>by simp only[Rep]
theorem b4O:OpD X B (rI a2w fun i j=>.int (i * j)) a6z:=a5a (fun i j h=>by simpa [a2w,a2B]using h) fun _ _ _ _=>by simp only[Rep]
theorem a9I:OpD X B (rI a6m fun i j=>.int (i/j)) a4i:=a5a (fun i j h=>by simpa [a6m,a5b]using h) fun _ _ _ _=>by simp only[Rep]
theorem a1R:OpD X B (rI (fun _ j=>0<j) fun i j=>.int (i%j)) j0_:=a5a (fun i j h=>by simpa using h) fun _ _ _ _=>by simp only[Rep]
theorem a9J:OpD X B (rI a6n fun i j=>.int (i^j.toNat)) a1Q:=a5a (fun i j h=>by simpa [a6n,a5c,and_assoc]using h) fun _ _ _ _=>by simp only[Rep]
theorem a9K:OpD X B (rI0 fun i j=>.bl (decide (i<j))) dLt:=a4h fun _ _ _ _=>by simp only[Rep]
theorem a1h:OpD X B (rI0 fun i j=>.bl (decide (i≤j))) dLe:=a4h fun _ _ _ _=>by simp only[Rep]
theorem b4P:OpD X B (rI0 fun i j=>.bl (decide (j≤i))) dGe:=a4h fun _ _ _ _=>by simp only[Rep]
end
section
variable{X:Cx}{B:OA}{pos:Pos}{a b c e:Expr}{ma mb mc:Mo D}{ta tb:Mo Bool}
theorem TD.bind{K:Qq}{m:Mo D}{σ:St}{H:Hp}{Q:VK}{G:Hp}{env env':Env'}{d:D}(r:Rel K B G σ env H)(e:m env=some (d,env'))
  (k:∀v G' H',Ev K B G σ env H G' σ env' H'->Rep K G' v d->Q v H'):TD K B m σ H Q:=⟨G,env,d,env',r,e,k⟩
def asB:D×Env'->Option (Bool×Env')
 |(.bl b,e)=>some (b,e)
 |_=>none
def mT(m:Mo D):Mo Bool:=fun env=>(m env).bind asB
theorem a6B{t:TE}{m:Mo D}(i:∀σ H Q,TD X.K B m σ H Q->t σ H Q)(mono:True):∀σ H Q,TTm X.K B (mT m) σ H Q->(fun σ H (Q:Bool->Hp->Prop)=>t σ H fun x H'=>∃k,x=.bl k/\Q k H') σ H Q:=by
 rintro σ H Q ⟨G,env,b,env',rl,e,k⟩;unfold mT at e;cases em:m env with
 |none=>rw[em]at e;cases e
 |some p=>
  obtain⟨d,env1⟩:=p;rw[em]at e;simp only[Qx]at e;cases d<;>first|(exact absurd (show(none:Option (Bool×Env'))=some (b,env')from e) (by simp))|skip
  cases e;refine i σ H _ (.bind rl em fun v G' H' ev r=>?_)
  simp only[Rep]at r;exact⟨_,r,k G' H' ev⟩
theorem g3_(h:ED X B e ma)(he:∀whole,isTrue e X.env whole=(do let v←whole;standAt e.pos;holding [v] (truthy v)):=by intro _;rfl):ET X B e (mT ma):=
 pt_imp (b3h h he) (a6B (fun _ _ _ q=>q) trivial)
theorem w5_{op:CmpOp}{r:R2}{f:D->D->Option D}(ho:OpR X (compareOp op) r)(o:OpD X B r f)(ha:ED X B a ma)(hb:ED X B b mb)(hm:behindInMarks op b=false):ET X B (.Compare a [op] [b] pos) (mT (z3_ f ma mb)):=
 pt_imp (b4d ho ha hb hm) (a6B (a4g o) trivial)
def y2_(t:Mo Bool):Mo Bool:=fun env=>(t env).map fun p=>(!p.1,p.2)
theorem g4_(h:ET X B a ta):ET X B (.UnaryOp .Not a pos) (y2_ ta):=by
 refine pt_imp (b3n h) ?_
 rintro σ H Q ⟨G,env,b,env',rl,e,k⟩;unfold y2_ at e;cases em:ta env with
 |none=>rw[em]at e;cases e
 |some p=>rw[em]at e;cases e;exact⟨G,env,_,_,rl,em,k⟩
def a5e(t u:Mo Bool):Mo Bool:=fun env=>(t env).bind fun p=>if p.1 then u p.2 else some (false,p.2)
def j1_(t u:Mo Bool):Mo Bool:=fun env=>(t env).bind fun p=>if p.1 then some (true,p.2)else u p.2
theorem b4Q:∀σ H Q,TTm X.K B (a5e ta tb) σ H Q->a8N (TTm X.K B ta) (TTm X.K B tb) σ H Q:=by
 rintro σ H Q ⟨G,env,b,env',rl,e,k⟩;unfold a5e at e;cases em:ta env with
 |none=>rw[em]at e;cases e
 |some p=>
  obtain⟨b1,env1⟩:=p;rw[em]at e;simp only[Qx]at e;refine⟨G,env,b1,env1,rl,em,fun G1 H1 ev=>?_⟩
  cases b1 with
  |true=>
   simp only[Zs]at e ⊢;exact⟨G1,env1,b,env',ev.rel,e,fun G2 H2 ev2=>k G2 H2 (ev.trans ev2)⟩
  |false=>
   simp only[Zn,Jv]at e ⊢;cases e;exact k G1 H1 ev
theorem b4R:∀σ H Q,TTm X.K B (j1_ ta tb) σ H Q->tOr (TTm X.K B ta) (TTm X.K B tb) σ H Q:=by
 rintro σ H Q ⟨G,env,b,env',rl,e,k⟩;unfold j1_ at e;cases em:ta env with
 |none=>rw[em]at e;cases e
 |some p=>
  obtain⟨b1,env1⟩:=p;rw[em]at e;simp only[Qx]at e;refine⟨G,env,b1,env1,rl,em,fun G1 H1 ev=>?_⟩
  cases b1 with
  |false=>
   simp only[Zn,Jv]at e ⊢;exact⟨G1,env1,b,env',ev.rel,e,fun G2 H2 ev2=>k G2 H2 (ev.trans ev2)⟩
  |true=>
   simp only[Zs]at e ⊢;cases e;exact k G1 H1 ev
abbrev EW(X:Cx)(B:OA)(e:Expr)(m:Mo Bool):Prop:=PW X e (TTm X.K B m)
variable{rest:List Expr}
theorem b4S(h:ET X B a ta):EW X B (.BoolOp .And [a] pos) ta:=b3j h
theorem a2C(h:ET X B a ta):EW X B (.BoolOp .Or [a] pos) ta:=b3k h
theorem b4T(h:ET X B a ta)(h2:EW X B (.BoolOp .And (b::rest) pos) tb):EW X B (.BoolOp .And (a::b::rest) pos) (a5e ta tb):=pw_imp (b3l h h2) b4Q
theorem a2D(h:ET X B a ta)(h2:EW X B (.BoolOp .Or (b::rest) pos) tb):EW X B (.BoolOp .Or (a::b::rest) pos) (j1_ ta tb):=pw_imp (b3m h h2) b4R
theorem a1S(h:EW X B e ta):ET X B e ta:=h.pt
def a0x(m n:Mo D):Mo D:=fun env=>(m env).bind fun p=>match p.1 with
 |.bl true=>n p.2
 |.bl false=>some (.bl false,p.2)
 |_=>none
def a1T(m n:Mo D):Mo D:=fun env=>(m env).bind fun p=>match p.1 with
 |.bl false=>n p.2
 |.bl true=>some (.bl true,p.2)
 |_=>none
theorem a3m{op}(h:ED X B a ma):ED X B (.BoolOp op [a] pos) ma:=b3r h
theorem a3n(ha:ED X B a ma)(hb:ED X B (.BoolOp .And (b::rest) pos) mb):ED X B (.BoolOp .And (a::b::rest) pos) (a0x ma mb):=by
 refine pe_imp (b3s ha hb) ?_
 rintro σ H Q ⟨G,env,d,env',rl,e,k⟩;unfold a0x at e;cases em:ma env with
 |none=>rw[em]at e;cases e
 |some p=>
  obtain⟨d1,env1⟩:=p;rw[em]at e;simp only[Qx]at e;refine .bind rl em fun v G1 H1 ev r1=>?_
  split at e
  ·simp only[Rep]at r1
   exact⟨true,r1,by simp only[Zs];exact .bind ev.rel e fun v2 G2 H2 ev2 r2=>k v2 G2 H2 (ev.trans ev2) r2⟩
  ·simp only[Rep]at r1
   cases e;exact⟨false,r1,by simp only[Zn,Jv];exact k _ G1 H1 ev (by simp only[Rep])⟩
  ·cases e
theorem b4U(ha:ED X B a ma)(hb:ED X B (.BoolOp .Or (b::rest) pos) mb):ED X B (.BoolOp .Or (a::b::rest) pos) (a1T ma mb):=by
 refine pe_imp (a8O ha hb) ?_
 rintro σ H Q ⟨G,env,d,env',rl,e,k⟩;unfold a1T at e;cases em:ma env with
 |none=>rw[em]at e;cases e
 |some p=>
  obtain⟨d1,env1⟩:=p;rw[em]at e;simp only[Qx]at e;refine .bind rl em fun v G1 H1 ev r1=>?_
  split at e
  ·simp only[Rep]at r1
   exact⟨false,r1,by simp only[Zn,Jv];exact .bind ev.rel e fun v2 G2 H2 ev2 r2=>k v2 G2 H2 (ev.trans ev2) r2⟩
  ·simp only[Rep]at r1
   cases e;exact⟨true,r1,by simp only[Zs];exact k _ G1 H1 ev (by simp only[Rep])⟩
  ·cases e
def a5f(m:Mo D):Mo D:=fun env=>(m env).bind fun p=>match p.1 with
 |.bl b=>some (.bl (!b),p.2)
 |_=>none
theorem a9L(ha:ED X B a ma):ED X B (.UnaryOp .Not a pos) (a5f ma):=by
 refine pe_imp (b3t ha) ?_
 rintro σ H Q ⟨G,env,d,env',rl,e,k⟩;unfold a5f at e;cases em:ma env with
 |none=>rw[em]at e;cases e
 |some p=>
  obtain⟨d1,env1⟩:=p;rw[em]at e;simp only[Qx]at e;refine .bind rl em fun v G1 H1 ev r1=>?_
  split at e
  ·rename_i b1
   simp only[Rep]at r1;cases e;exact⟨b1,r1,k _ G1 H1 ev (by simp only[Rep])⟩
  ·cases e
def a1i(m:Mo D):Mo D:=fun env=>(m env).bind fun p=>match p.1 with
 |.int b=>some (.int (-b),p.2)
 |_=>none
theorem a6C(ha:ED X B a ma):ED X B (.UnaryOp .USub a pos) (a1i ma):=by
 refine pe_imp (a8W a8Z ha) ?_
 rintro σ H Q ⟨G,env,d,env',rl,e,k⟩;unfold a1i at e;cases em:ma env with
 |none=>rw[em]at e;cases e
 |some p=>
  obtain⟨d1,env1⟩:=p;rw[em]at e;simp only[Qx]at e;refine .bind rl em fun v G1 H1 ev r1=>?_
  split at e
  ·rename_i b1
   simp only[Rep]at r1;cases e;exact⟨b1,r1,k _ G1 H1 ev (by simp only[Rep])⟩
  ·cases e
def a0y(f g:D->D->Option D)(ma mb mc:Mo D):Mo D:=fun env=>(ma env).bind fun p=>(mb p.2).bind fun q=>match f p.1 q.1 with
 |some (.bl true)=>(mc q.2).bind fun r=>(g q.1 r.1).map fun d=>(d,r.2)
 |some (.bl false)=>some (.bl false,q.2)
 |_=>none
theorem a9M{r r':R2}{f g:D->D->Option D}(o:OpD X B r f)(o':OpD X B r' g):∀σ H Q,TD X.K B (a0y f g ma mb mc) σ H Q->a6p r r' (TD X.K B ma) (TD X.K B mb) (TD X.K B mc) σ H Q:=by
 rintro σ H Q ⟨G,env,d,env',rl,e,k⟩;unfold a0y at e;cases ea:ma env with
 |none=>rw[ea]at e;cases e
 |some p=>
  obtain⟨d1,env1⟩:=p;rw[ea]at e;simp only[Qx]at e;cases eb:mb env1 with
  |none=>rw[eb]at e;cases e
  |some p=>
   obtain⟨d2,env2⟩:=p;rw[eb]at e;simp only[Qx]at e;refine .bind rl ea fun v1 G1 H1 ev1 r1=>.bind ev1.rel eb fun v2 G2 H2 ev2 r2=>?_
   split at e
   ·rename_i ef
    refine o G2 σ _ H2 v1 v2 d1 d2 _ _ ev2.rel (Rep.mono ev2.same _ r1) r2 ef fun v3 G3 H3 ev3 r3=>?_
    simp only[Rep]at r3;refine⟨true,r3,?_⟩;simp only[Zs];cases ec:mc env2 with
    |none=>rw[ec]at e;cases e
    |some p=>
     obtain⟨d3,env3⟩:=p;rw[ec]at e;simp only[Qx]at e;cases eg:g d2 d3 with
     |none=>rw[eg]at e;cases e
     |some d4=>
      rw[eg]at e;cases e;refine .bind ev3.rel ec fun v4 G4 H4 ev4 r4=>?_
      exact o' G4 σ _ H4 v2 v4 d2 d3 _ Q ev4.rel (Rep.mono ev4.same _ (Rep.mono ev3.same _ r2)) r4 eg fun v5 G5 H5 ev5 r5=>k v5 G5 H5 ((((ev1.trans ev2).trans ev3).trans ev4).trans ev5) r5
   ·rename_i ef
    cases e;refine o G2 σ _ H2 v1 v2 d1 d2 _ _ ev2.rel (Rep.mono ev2.same _ r1) r2 ef fun v3 G3 H3 ev3 r3=>?_
    simp only[Rep]at r3;refine⟨false,r3,?_⟩;simp only[Zn,Jv];exact k _ G3 H3 ((ev1.trans ev2).trans ev3) (by simp only[Rep])
   ·cases e
theorem b4V{op op':CmpOp}{r r':R2}{f g:D->D->Option D}(ho:OpR X (compareOp op) r)(ho':OpR X (compareOp op') r')(o:OpD X B r f)(o':OpD X B r' g)(ha:ED X B a ma)(hb:ED X B b mb)(hc:ED X B c mc)
  (hm:lastMarks [op,op'] [b,c]=false:=by with_unfolding_all rfl):ED X B (.Compare a [op,op'] [b,c] pos) (a0y f g ma mb mc):=pe_imp (b4e ho ho' ha hb hc hm) (a9M o o')
theorem a5g{op op':CmpOp}{r r':R2}{f g:D->D->Option D}(ho:OpR X (compareOp op) r)(ho':OpR X (compareOp op') r')(o:OpD X B r f)(o':OpD X B r' g)(ha:ED X B a ma)(hb:ED X B b mb)(hc:ED X B c mc)
  (hm:lastMarks [op,op'] [b,c]=false:=by with_unfolding_all rfl):ET X B (.Compare a [op,op'] [b,c] pos) (mT (a0y f g ma mb mc)):=pt_imp (b4f ho ho' ha hb hc hm) (a6B (a9M o o') trivial)
variable{es:List Expr}{ms:Mo (List D)}{as:Mo (List Ar)}
def z5_:Mo (List D):=fun env=>some ([],env)
def z2_(m:Mo D)(ms:Mo (List D)):Mo (List D):=fun env=>(m env).bind fun p=>(ms p.2).map fun q=>(p.1::q.1,q.2)
theorem q5_:EDs X B [] z5_:=by
 refine pa_imp a0R ?_
 rintro σ H Q ⟨G,env,d,env',rl,e,k⟩;cases e;exact k [] G H (.refl rl) repL_nil
theorem z8_(ha:ED X B e ma)(hr:EDs X B es ms)(hs:starEach (e::es) X.env=(false,eval e X.env)::starEach es X.env:=by rfl):EDs X B (e::es) (z2_ ma ms):=by
 refine pa_imp (u0_ ha hr hs) ?_
 rintro σ H Q ⟨G,env,d,env',rl,e,k⟩;unfold z2_ at e;cases ea:ma env with
 |none=>rw[ea]at e;cases e
 |some p=>
  obtain⟨d1,env1⟩:=p;rw[ea]at e;simp only[Qx]at e;cases eb:ms env1 with
  |none=>rw[eb]at e;cases e
  |some p=>
   obtain⟨d2,env2⟩:=p;rw[eb]at e;cases e;exact .bind rl ea fun v1 G1 H1 ev1 r1=>⟨G1,env1,d2,_,ev1.rel,eb,fun vs G2 H2 ev2 r2=>k _ G2 H2 (ev1.trans ev2) (repL_cons (Rep.mono ev2.same _ r1) r2)⟩
def q0_:Mo (List Ar):=fun env=>some ([],env)
def z7_(m:Mo D)(ms:Mo (List Ar)):Mo (List Ar):=fun env=>(m env).bind fun p=>(ms p.2).map fun q=>(.d p.1::q.1,q.2)
def y8_(i:Nat)(ms:Mo (List Ar)):Mo (List Ar):=fun env=>((env[i]?).bind W.mut).bind fun _=>(ms env).map fun q=>(.sl i::q.1,q.2)
theorem y5_:EAr X B [] q0_:=by
 refine pa_imp a0R ?_
 rintro σ H Q ⟨G,env,d,env',rl,e,k⟩;cases e;exact k [] G H (.refl rl) (by simp only[RepA])
theorem v4_(ha:ED X B e ma)(hr:EAr X B es as)(hs:starEach (e::es) X.env=(false,eval e X.env)::starEach es X.env:=by rfl):EAr X B (e::es) (z7_ ma as):=by
 refine pa_imp (u0_ ha hr hs) ?_
 rintro σ H Q ⟨G,env,d,env',rl,e,k⟩;unfold z7_ at e;cases ea:ma env with
 |none=>rw[ea]at e;cases e
 |some p=>
  obtain⟨d1,env1⟩:=p;rw[ea]at e;simp only[Qx]at e;cases eb:as env1 with
  |none=>rw[eb]at e;cases e
  |some p=>
   obtain⟨d2,env2⟩:=p;rw[eb]at e;cases e;exact .bind rl ea fun v1 G1 H1 ev1 r1=>⟨G1,env1,d2,_,ev1.rel,eb,fun vs G2 H2 ev2 r2=>k _ G2 H2 (ev1.trans ev2) (by simp only[RepA];exact⟨_,_,rfl,Rep.mono ev2.same _ r1,r2⟩)⟩
theorem a0G{i:Nat}{x:Str}{p:Pos}(ha:PE X (.Name x p) (a0Q i))(hr:EAr X B es as)(hs:starEach (.Name x p::es) X.env=(false,eval (.Name x p) X.env)::starEach es X.env:=by rfl):EAr X B (.Name x p::es) (y8_ i as):=by
 refine pa_imp (u0_ ha hr hs) ?_
 rintro σ H Q ⟨G,env,d,env',rl,e,k⟩;unfold y8_ at e;cases ew:env[i]? with
 |none=>rw[ew]at e;cases e
 |some w=>
  rw[ew]at e;simp only[Qx]at e;cases em:w.mut with
  |none=>rw[em]at e;cases e
  |some ds=>
   rw[em]at e;simp only[Qx]at e;cases eb:as env with
   |none=>rw[eb]at e;cases e
   |some p=>
    obtain⟨d2,env2⟩:=p;rw[eb]at e;cases e;obtain⟨a',xs,hv,_⟩:=rl.own i w ds ew em;exact⟨_,hv,G,env,d2,_,rl,eb,fun vs G2 H2 ev2 r2=>k _ G2 H2 ev2 (by simp only[RepA];exact⟨_,_,rfl,hv,r2⟩)⟩
end
section
variable{X:Cx}{B:OA}{pos:Pos}{a b c e:Expr}{ma mb mc:Mo D}{ms:Mo (List D)}{es:List Expr}
theorem q1_{α β:Type}{o:Option α}{f:α->Option β}{y:β}(h:o.bind f=some y):∃x,o=some x/\f x=some y:=by
 cases o with
 |none=>cases h
 |some x=>exact⟨x,rfl,h⟩
theorem v8_{α β:Type}{o:Option α}{f:α->β}{y:β}(h:o.map f=some y):∃x,o=some x/\f x=y:=by
 cases o with
 |none=>cases h
 |some x=>exact⟨x,rfl,Yb h⟩
def x7_(ms:Mo (List D)):Mo D:=fun env=>(ms env).bind fun p=>if p.1.length≤1000 then some (.tup p.1,p.2)else none
theorem a0z{x1:Nat}(h:EDs X B es ms):ED X B (.Tuple es x1 pos) (x7_ ms):=by
 refine pe_imp (a9f h) ?_
 rintro σ H Q ⟨G,env,d,env',rl,e,k⟩;obtain⟨⟨ds,env1⟩,e1,e2⟩:=q1_ e;dsimp only at e2;split at e2
 ·rename_i hl
  cases e2;refine⟨G,env,ds,_,rl,e1,fun vs G1 H1 ev r1=>⟨by rw[r1.length];exact Ye (a3k hl),fun p hp=>?_⟩⟩
  exact k _ _ _ (ev.trans (ev.rel.alloc hp)) (a4e y3_ (z6_.mono (Le.upd (ev.rel.gnone hp)) _ r1))
 ·cases e2
def k4_(ms:Mo (List D)):Mo (List D):=fun env=>(ms env).bind fun p=>if p.1.length≤1000 then some p else none
theorem a5h{K:Qq}{G G1:Hp}{σ:St}{env env1:Env'}{H H1:Hp}{p:Addr}{xs:List V}{ds:List D}{Q:VK}(ev:Ev K B G σ env H G1 σ env1 H1)(hp:H1 p=none)(r:z6_ K G1 xs ds)
  (k:∀a xs G' H',Ev K B G σ env H G' σ env1 H'->H a=none-> ¬ Owned σ env1 a->H' a=some (.lst xs)->G' a=none->z6_ K G' xs ds->Q (.ref a) H'):Q (.ref p) (upd H1 p (.lst xs)):=by
 refine k p xs G1 _ (ev.trans (ev.rel.allocM hp)) ?_ (ev.rel.unowned hp) y3_ (ev.rel.gnone hp) r;cases h:H p with
 |none=>rfl
 |some o=>exact absurd hp (ev.live p (by rw[h];simp))
theorem a0o(h:EDs X B es ms):EL X B (.List es pos) (k4_ ms):=by
 refine pe_imp (b4n h) ?_
 rintro σ H Q ⟨G,env,d,env',rl,e,k⟩;obtain⟨⟨ds,env1⟩,e1,e2⟩:=q1_ e;dsimp only at e2;split at e2
 ·rename_i hl
  cases e2;exact⟨G,env,_,_,rl,e1,fun vs G1 H1 ev r1=>⟨by rw[r1.length];exact Ye (a3k hl),fun p hp=>a5h ev hp r1 k⟩⟩
 ·cases e2
def mF(m:Mo (List D)):Mo D:=fun env=>(m env).map fun p=>(.lst p.1,p.2)
theorem x6_(h:EL X B e ms):ED X B e (mF ms):=by
 refine pe_imp h ?_
 rintro σ H Q ⟨G,env,d,env',rl,e,k⟩;obtain⟨⟨ds,env1⟩,e1,e2⟩:=v8_ e;cases e2;exact⟨G,env,ds,_,rl,e1,fun a xs G' H' ev ha no h' g' r=>k (.ref a) _ H' (ev.frz ha no h' g') (a9G y3_ (z6_.mono (Le.upd g') ds r))⟩
theorem a6D{K:Qq}{G:Hp}{xs:List V}{ds:List D}{k:Int}{d:D}(r:z6_ K G xs ds)(h:atI ds k=some d):∃x,atI xs k=some x/\Rep K G x d:=by
 unfold atI at h ⊢;rw[r.length];obtain⟨j,e1,e2⟩:=q1_ h;rw[e1];exact r.get e2
def dIx:D->D->Option D
 |.lst ds,.int k=>atI ds k
 |.tup ds,.int k=>atI ds k
 |_,_=>none
theorem a9N:OpD X B (rIx X.K) dIx:=by
 intro G σ env H x y a b d Q rl ra rb e k;cases a<;>cases b<;>first|(exact absurd (show(none:Option D)=some d from e) (by simp))|skip
 ·simp only[Rep]at ra rb
  obtain⟨p,xs,e1,q,r⟩:=ra;subst e1 rb;obtain⟨v,e3,e4⟩:=a6D r e;exact .inr (.inl ⟨p,xs,_,v,rfl,rfl,rl.sub.sqT q,e3,k v G H (.refl rl) e4⟩)
 ·simp only[Rep]at ra rb
  obtain⟨p,xs,e1,q,r⟩:=ra;subst e1 rb;obtain⟨v,e3,e4⟩:=a6D r e;exact .inl ⟨p,xs,_,v,rfl,rfl,rl.sub.sqL q,e3,k v G H (.refl rl) e4⟩
theorem a1z(ha:ED X B a ma)(hb:ED X B b mb)(hs:a3i b):ED X B (.Subscript a b pos) (z3_ dIx ma mb):=pe_imp (a6w a9r ha hb hs) (a4g a9N)
def y7_(i:Nat)(mb:Mo D):Mo D:=fun env=>(mb env).bind fun p=>((p.2[i]?).bind W.mutL).bind fun ds=>(dIx (.lst ds) p.1).map fun d=>(d,p.2)
theorem a0T{i:Nat}{x:Str}{p:Pos}(ha:PE X (.Name x p) (a0Q i))(hb:ED X B b mb)(hs:a3i b)(hr:∀env d env' w ds,mb env=some (d,env')->env'[i]? =some w->w.mut=some ds->∃w0 ds0,env[i]? =some w0/\w0.mut=some ds0):
  ED X B (.Subscript (.Name x p) b pos) (y7_ i mb):=by
 refine pe_imp (a6w a9p ha hb hs) ?_
 rintro σ H Q ⟨G,env,d,env',rl,e,k⟩;obtain⟨⟨d1,env1⟩,e1,e2⟩:=q1_ e;obtain⟨ds,e3,e4⟩:=q1_ e2;obtain⟨w,e5,e6⟩:=q1_ e3;obtain⟨d2,e7,e8⟩:=v8_ e4;cases e8;obtain⟨w0,ds0,e9,e10⟩:=hr env d1 _ w (.l ds) e1 e5 (W.mutL_of e6);obtain⟨q,xs,h1,_⟩:=rl.own i w0 ds0 e9 e10;refine⟨_,h1,.bind rl e1 fun v G1 H1 ev r1=>?_⟩
 obtain⟨q',ys,h2,h3,h4,h5⟩:=ev.rel.ownL i w ds e5 e6;rw[h1]at h2;cases h2;dsimp only at e7;cases d1<;>first|(exact absurd (show(none:Option D)=some _ from e7) (by simp))|skip
 simp only[Rep]at r1;obtain⟨z,h6,h7⟩:=a6D h4 e7;exact⟨q,ys,_,z,rfl,r1,.inl (.inl h3),h6,k z G1 H1 ev h7⟩
def a0U(X:Cx)(B:OA)(r:List V->Hp->VK->Prop)(f:List D->Option D):Prop:=
 ∀(G:Hp) (σ:St) (env:Env') (H:Hp) (xs:List V) (ds:List D) (c:D) (Q:VK),Rel X.K B G σ env H->z6_ X.K G xs ds->f ds=some c->
  (∀v G' H',Ev X.K B G σ env H G' σ env H'->Rep X.K G' v c->Q v H')->r xs H Q
def a6E(X:Cx)(B:OA)(r:List V->Hp->VK->Prop)(f:List D->Option (List D)):Prop:=
 ∀(G:Hp) (σ:St) (env:Env') (H:Hp) (xs:List V) (ds:List D) (c:List D) (Q:VK),Rel X.K B G σ env H->z6_ X.K G xs ds->f ds=some c->
  (∀p ys G' H',Ev X.K B G σ env H G' σ env H'->H' p=none->z6_ X.K G' ys c->Q (.ref p) (upd H' p (.lst ys)))->r xs H Q
def mCB(f:List D->Option D)(ms:Mo (List D)):Mo D:=fun env=>(ms env).bind fun p=>(f p.1).map fun d=>(d,p.2)
def mCL(f:List D->Option (List D))(ms:Mo (List D)):Mo (List D):=fun env=>(ms env).bind fun p=>(f p.1).map fun d=>(d,p.2)
theorem a9O{r:List V->Hp->VK->Prop}{f:List D->Option D}(o:a0U X B r f):∀σ H Q,TD X.K B (mCB f ms) σ H Q->tCB r (TDs X.K B ms) σ H Q:=by
 rintro σ H Q ⟨G,env,d,env',rl,e,k⟩;obtain⟨⟨ds,env1⟩,e1,e2⟩:=q1_ e;obtain⟨d1,e3,e4⟩:=v8_ e2;cases e4;exact⟨G,env,ds,_,rl,e1,fun vs G1 H1 ev r1=>o G1 σ _ H1 vs ds _ Q ev.rel r1 e3 fun v G2 H2 ev2 r2=>k v G2 H2 (ev.trans ev2) r2⟩
theorem b4W{r:List V->Hp->VK->Prop}{f:List D->Option (List D)}(o:a6E X B r f):∀σ H Q,TL X.K B (mCL f ms) σ H Q->tCB r (TDs X.K B ms) σ H Q:=by
 rintro σ H Q ⟨G,env,d,env',rl,e,k⟩;obtain⟨⟨ds,env1⟩,e1,e2⟩:=q1_ e;obtain⟨d1,e3,e4⟩:=v8_ e2;cases e4;exact⟨G,env,ds,_,rl,e1,fun vs G1 H1 ev r1=>o G1 σ _ H1 vs ds _ Q ev.rel r1 e3 fun p ys G2 H2 ev2 hp r2=>a5h (ev.trans ev2) hp r2 k⟩
variable{r:List V->Hp->VK->Prop}{f:List D->Option D}{g:List D->Option (List D)}{id T:String}{x:Str}{p:Pos}
theorem x8_(hc:k3_ X (.builtin id) r)(o:a0U X B r f)(hg:Gl X x)(hm:X.mg x=none)(hv:bootBuiltins x=some (.builtin id))(ha:EDs X B (e::es) ms)(hn:x≠"__name__":=by decide)(hdb:(x==("__debug__":Str))=false:=by decide)
  (he:starEach (e::es) X.env=(false,eval e X.env)::starEach es X.env:=by rfl)(hpl:(backTo pos (starEach es X.env)).any (·.1)=false:=by rfl):ED X B (.Call (.Name x p) (e::es) [] pos) (mCB f ms):=
 pe_imp (a2x hc hg hm hv ha hn hdb he hpl) (a9O o)
theorem a1A(hc:k3_ X (.type T) r)(o:a0U X B r f)(hg:Gl X x)(hm:X.mg x=none)(hv:bootBuiltins x=some (.type T))(ha:EDs X B (e::es) ms)(hn:x≠"__name__":=by decide)(hdb:(x==("__debug__":Str))=false:=by decide)
  (he:starEach (e::es) X.env=(false,eval e X.env)::starEach es X.env:=by rfl)(hpl:(backTo pos (starEach es X.env)).any (·.1)=false:=by rfl):ED X B (.Call (.Name x p) (e::es) [] pos) (mCB f ms):=
 pe_imp (b4p hc hg hm hv ha hn hdb he hpl) (a9O o)
theorem b4X(hc:k3_ X (.builtin id) r)(o:a6E X B r g)(hg:Gl X x)(hm:X.mg x=none)(hv:bootBuiltins x=some (.builtin id))(ha:EDs X B (e::es) ms)(hn:x≠"__name__":=by decide)(hdb:(x==("__debug__":Str))=false:=by decide)
  (he:starEach (e::es) X.env=(false,eval e X.env)::starEach es X.env:=by rfl)(hpl:(backTo pos (starEach es X.env)).any (·.1)=false:=by rfl):EL X B (.Call (.Name x p) (e::es) [] pos) (mCL g ms):=
 pe_imp (a2x hc hg hm hv ha hn hdb he hpl) (b4W o)
theorem a0A{K:Qq}{G:Hp}{xs:List V}{d:D}(h:z6_ K G xs [d]):∃x,xs=[x]/\Rep K G x d:=by
 simp only[z6_]at h;obtain⟨x,r,e,q,t⟩:=h;subst t;exact⟨x,e,q⟩
theorem a6F{K:Qq}{G:Hp}{xs:List V}{d d':D}(h:z6_ K G xs [d,d']):∃x y,xs=[x,y]/\Rep K G x d/\Rep K G y d':=by
 simp only[z6_]at h;obtain⟨x,r,e,q,y,r2,e2,q2,t⟩:=h;subst t e2;exact⟨x,y,e,q,q2⟩
def D.items:D->Option (List D)
 |.lst ds=>some ds
 |.tup ds=>some ds
 |_=>none
theorem a9P{K:Qq}{G H:Hp}{v:V}{d:D}{ds:List D}(l:Le G H)(r:Rep K G v d)(h:d.items=some ds):∃a xs,v=.ref a/\(SqL K H a xs∨SqT K H a xs)/\z6_ K G xs ds:=by
 cases d<;>first|(exact absurd (show(none:Option (List D))=some ds from h) (by simp))|skip
 ·cases h;simp only[Rep]at r;obtain⟨a,xs,e,q,t⟩:=r;exact⟨a,xs,e,.inr (l.sqT q),t⟩
 ·cases h;simp only[Rep]at r;obtain⟨a,xs,e,q,t⟩:=r;exact⟨a,xs,e,.inl (l.sqL q),t⟩
def v5_:List D->Option D
 |[d]=>d.items.map fun ds=>.int ds.length
 |_=>none
theorem u1_:a0U X B (fun xs H Q=>∃p ys,xs=[.ref p]/\(SqL X.K H p ys∨SqT X.K H p ys)/\Q (.int ys.length) H) v5_:=by
 intro G σ env H xs ds c Q rl r e k
 match ds,e with
 |[d],e=>
  obtain⟨x,rfl,q⟩:=a0A r;obtain⟨ds,e1,e2⟩:=v8_ e;obtain⟨a,ys,rfl,h1,h2⟩:=a9P rl.sub q e1;exact⟨a,ys,rfl,h1,k _ G H (.refl rl) (by rw[←e2,h2.length];simp only[Rep])⟩
def u6_:List D->Option D
 |[d]=>d.items.map fun ds=>.tup ds
 |_=>none
theorem a1U:a0U X B (fun xs H Q=>∃p ys,xs=[.ref p]/\((SqL X.K H p ys/\∀l,H l=none->Q (.ref l) (upd H l (.tup ys)))∨(SqT X.K H p ys/\Q (.ref p) H))) u6_:=by
 intro G σ env H xs ds c Q rl r e k
 match ds,e with
 |[d],e=>
  obtain⟨x,rfl,q⟩:=a0A r;obtain⟨ds,e1,e2⟩:=v8_ e;subst e2;cases d<;>first|(exact absurd (show(none:Option (List D))=some ds from e1) (by simp))|skip
  ·cases e1
   have q0:=q
   simp only[Rep]at q;obtain⟨a,ys,rfl,h1,h2⟩:=q;exact⟨a,ys,rfl,.inr ⟨rl.sub.sqT h1,k _ G H (.refl rl) q0⟩⟩
  ·cases e1
   simp only[Rep]at q;obtain⟨a,ys,rfl,h1,h2⟩:=q;exact⟨a,ys,rfl,.inl ⟨rl.sub.sqL h1,fun l hl=>k _ _ _ (rl.alloc hl) (a4e y3_ (z6_.mono (Le.upd (rl.gnone hl)) _ h2))⟩⟩
end
section
variable{K:Qq}{B:OA}{G G1:Hp}{σ σ1:St}{env env1:Env'}{H H1:Hp}{i:Nat}
theorem k5_{α:Type}{l:List α}{i j:Nat}{a b:α}(h:(l.set i a)[j]? =some b):(j=i/\b=a)∨(j≠i/\l[j]? =some b):=by
 by_cases hj:j=i
 ·subst hj
  have hl:j<l.length:=by
   have:=(Qb.mp h).1;rwa [Zv]at this
  rw[Zd hl]at h;cases h;exact .inl ⟨rfl,rfl⟩
 ·rw[Qc (Zh hj)]at h
  exact .inr ⟨hj,h⟩
theorem a3o{α β:Type}{l:List α}{m:List β}{i:Nat}{a b:α}{c:β}(h:(l.set i a)[i]? =some b)(hl:l.length=m.length):(m.set i c)[i]? =some c:=by
 have:=(Qb.mp h).1;rw[Zv]at this;exact Zd (by omega)
theorem Ev.setDat{v:V}{d:D}(ev:Ev K B G σ env H G1 σ1 env1 H1)(r:Rep K G1 v d):Ev K B G σ env H G1 (σ1.set i (some v)) (env1.set i (.dat d)) H1:=by
 have rl:=ev.rel
 have ne:∀(j:Nat) (w:W) (es:Mu),(env1.set i (.dat d))[j]? =some w->w.mut=some es->j≠i/\env1[j]? =some w:=fun j w es q1 q2=>by
  rcases k5_ q1 with⟨_,z⟩|z
  ·rw[z]at q2;cases q2
  ·exact z
 refine⟨⟨rl.sub,by rw[Zv,Zv];exact rl.len,fun j d' q=>?_,fun j w es q1 q2=>?_,fun j k w w' es fs b q1 q2 q3 q4 q5 q6=>?_,fun j w b q1 qo q2=>?_,rl.old,rl.tabs,rl.gnt⟩,ev.same,ev.keep,ev.live,ev.stay,fun b z=>?_,fun j w q qp=>?_,by rw[Zv];exact ev.slen⟩
 ·rcases k5_ q with⟨z1,z2⟩|⟨z1,z2⟩
  ·subst z1;cases z2
   exact⟨v,a3o q rl.len,r⟩
  ·obtain⟨x,q1,q2⟩:=rl.dat j d' z2
   exact⟨x,by rw[Qc (Zh z1)];exact q1,q2⟩
 ·obtain⟨hj,q⟩:=ne j w es q1 q2
  obtain⟨p,ys,e3,e4⟩:=rl.own j w es q q2;exact⟨p,ys,by rw[Qc (Zh hj)];exact e3,e4⟩
 ·obtain⟨h1,h2⟩:=ne j w es q1 q2
  obtain⟨h3,h4⟩:=ne k w' fs q3 q4;rw[Qc (Zh h1)]at q5;rw[Qc (Zh h3)]at q6;exact rl.inj j k w w' es fs b h2 q2 h4 q4 q5 q6
 ·obtain⟨es,hm⟩:=own_mut qo
  obtain⟨h1,h2⟩:=ne j _ es q1 hm;rw[Qc (Zh h1)]at q2;exact rl.fresh j w b h2 qo q2
 ·obtain⟨j,w,es,q1,q2,q3⟩:=z
  obtain⟨h1,h2⟩:=ne j w es q1 q2;rw[Qc (Zh h1)]at q3;exact ev.sub b ⟨j,w,es,h2,q2,q3⟩
 ·obtain⟨es,hm⟩:=par_mut qp
  obtain⟨h1,h2⟩:=ne j _ es q hm;obtain⟨h3,h4⟩:=ev.par j w h2 qp;exact⟨by rw[Qc (Zh h1)];exact h3,h4⟩
theorem Ev.setOwnM{a:Addr}{o:HO}{m:Mu}{wn:W}(ev:Ev K B G σ env H G1 σ1 env1 H1)(nb:¬ B a)(ha:H a=none)(no:¬ Owned σ1 env1 a)(h1:H1 a=some o)(g1:G1 a=none)(r:RepM K G1 o m)(wm:wn.mut=some m)(wo:wn.isPar=false):
  Ev K B G σ env H G1 (σ1.set i (some (.ref a))) (env1.set i wn) H1:=by
 have rl:=ev.rel
 refine⟨⟨rl.sub,by rw[Zv,Zv];exact rl.len,fun j d' q=>?_,fun j w es q1 q2=>?_,fun j k w w' es fs b q1 q2 q3 q4 q5 q6=>?_,fun j w b q1 qo q2=>?_,rl.old,rl.tabs,rl.gnt⟩,ev.same,ev.keep,ev.live,ev.stay,fun b z=>?_,fun j w q qp=>?_,by rw[Zv];exact ev.slen⟩
 ·rcases k5_ q with⟨z1,z2⟩|⟨z1,z2⟩
  ·rw[←z2]at wm;cases wm
  ·obtain⟨x,q1,q2⟩:=rl.dat j d' z2
   exact⟨x,by rw[Qc (Zh z1)];exact q1,q2⟩
 ·rcases k5_ q1 with⟨z1,z2⟩|⟨z1,z2⟩
  ·subst z1 z2;rw[wm]at q2;cases q2
   exact⟨a,o,a3o q1 rl.len,h1,r,g1⟩
  ·obtain⟨p,ys,e3,e4⟩:=rl.own j w es z2 q2
   exact⟨p,ys,by rw[Qc (Zh z1)];exact e3,e4⟩
 ·rcases k5_ q1 with⟨z1,z2⟩|⟨z1,z2⟩
  ·rcases k5_ q3 with⟨y1,y2⟩|⟨y1,y2⟩
   ·rw[z1,y1]
   ·subst z1
    rw[a3o q1 rl.len]at q5;cases q5;rw[Qc (Zh y1)]at q6;exact absurd ⟨k,w',fs,y2,q4,q6⟩ no
  ·rw[Qc (Zh z1)]at q5
   rcases k5_ q3 with⟨y1,y2⟩|⟨y1,y2⟩
   ·subst y1
    rw[a3o q3 rl.len]at q6;cases q6;exact absurd ⟨j,w,es,z2,q2,q5⟩ no
   ·rw[Qc (Zh y1)]at q6
    exact rl.inj j k w w' es fs b z2 q2 y2 q4 q5 q6
 ·rcases k5_ q1 with⟨z1,z2⟩|⟨z1,z2⟩
  ·subst z1
   rw[a3o q1 rl.len]at q2;cases q2;exact nb
  ·rw[Qc (Zh z1)]at q2
   exact rl.fresh j w b z2 qo q2
 ·obtain⟨j,w,es,q1,q2,q3⟩:=z
  rcases k5_ q1 with⟨z1,z2⟩|⟨z1,z2⟩
  ·subst z1
   rw[a3o q1 rl.len]at q3;cases q3;exact .inr ha
  ·rw[Qc (Zh z1)]at q3
   exact ev.sub b ⟨j,w,es,z2,q2,q3⟩
 ·rcases k5_ q with⟨z1,z2⟩|⟨z1,z2⟩
  ·rw[z2,wo]at qp;cases qp
  ·obtain⟨h3,h4⟩:=ev.par j w z2 qp
   exact⟨by rw[Qc (Zh z1)];exact h3,h4⟩
theorem Ev.setOwn{a:Addr}{xs:List V}{ds:List D}(ev:Ev K B G σ env H G1 σ1 env1 H1)(nb:¬ B a)(ha:H a=none)(no:¬ Owned σ1 env1 a)(h1:H1 a=some (.lst xs))(g1:G1 a=none)(r:z6_ K G1 xs ds):
  Ev K B G σ env H G1 (σ1.set i (some (.ref a))) (env1.set i (.own ds)) H1:=ev.setOwnM (m:=.l ds) nb ha no h1 g1 ⟨xs,rfl,r⟩ rfl rfl
theorem Ev.setNil(ev:Ev K B G σ env H G1 σ1 env1 H1):Ev K B G σ env H G1 σ1 (env1.set i .nil) H1:=by
 have rl:=ev.rel
 have ne:∀(j:Nat) (w:W),(env1.set i .nil)[j]? =some w->w≠.nil->j≠i/\env1[j]? =some w:=fun j w q1 q2=>by
  rcases k5_ q1 with⟨_,z⟩|z
  ·exact absurd z q2
  ·exact z
 have nm:∀(w:W) (es:Mu),w.mut=some es->w≠.nil:=fun w es h z=>by rw[z]at h;cases h
 refine⟨⟨rl.sub,by rw[Zv];exact rl.len,fun j d' q=>rl.dat j d' (ne j _ q (by simp)).2,fun j w es q1 q2=>rl.own j w es (ne j w q1 (nm w es q2)).2 q2,fun j k w w' es fs b q1 q2 q3 q4 q5 q6=>rl.inj j k w w' es fs b (ne j w q1 (nm _ _ q2)).2 q2 (ne k w' q3 (nm _ _ q4)).2 q4 q5 q6,
  fun j w b q1 qo q2=>rl.fresh j w b (ne j _ q1 (by rintro rfl;cases qo)).2 qo q2,rl.old,rl.tabs,rl.gnt⟩,ev.same,ev.keep,ev.live,ev.stay,fun b z=>?_,fun j w q qp=>ev.par j w (ne j _ q (by rintro rfl;cases qp)).2 qp,ev.slen⟩
 obtain⟨j,w,es,q1,q2,q3⟩:=z;exact ev.sub b ⟨j,w,es,(ne j w q1 (nm _ _ q2)).2,q2,q3⟩
theorem Ev.writeM{a:Addr}{o':HO}{w:W}{m m':Mu}(ev:Ev K B G σ env H G1 σ1 env1 H1)(e1:env1[i]? =some w)(e2:w.mut=some m)(e3:σ1[i]? =some (some (.ref a)))(r:RepM K G1 o' m'):
  Ev K B G σ env H G1 σ1 (env1.set i (w.putM m')) (upd H1 a o'):=by
 have rl:=ev.rel
 obtain⟨a',o0,h1,h2,h3,h4⟩:=rl.own i w m e1 e2;rw[e3]at h1;cases h1;have ow:Owned σ1 env1 a:=⟨i,w,m,e1,e2,e3⟩;have wp:(w.putM m').mut=some m':=W.putM_mut e2 m';have nd:∀d,w.putM m'≠.dat d:=fun d z=>by rw[z]at wp;cases wp
 have oo:Owned σ env a∨H a=none:=ev.sub a ow
 refine⟨⟨fun b u e=>?_,by rw[Zv];exact rl.len,fun j d' q=>?_,fun j v es q1 q2=>?_,fun j k v v' es fs b q1 q2 q3 q4 q5 q6=>?_,fun j v b q1 qo q2=>?_,fun b hb=>?_,rl.tabs.upd r.nt (fun φ z=>by rw[h2]at z;cases z;exact h3.ne φ rfl),rl.gnt⟩,ev.same,fun b o n t e=>?_,fun b e=>?_,ev.stay,fun b z=>?_,fun j v q qp=>?_,ev.slen⟩
 ·have hb:b≠a:=fun z=>by rw[z,h4]at e;cases e
  rw[q4_ hb];exact rl.sub b u e
 ·rcases k5_ q with⟨z1,z2⟩|⟨z1,z2⟩
  ·exact absurd z2.symm (nd d')
  ·exact rl.dat j d' z2
 ·rcases k5_ q1 with⟨z1,z2⟩|⟨z1,z2⟩
  ·subst z1 z2
   rw[wp]at q2;cases q2;exact⟨a,o',e3,y3_,r,h4⟩
  ·obtain⟨p,ys,f1,f2,f3,f4⟩:=rl.own j v es z2 q2
   have hp:p≠a:=fun z=>z1 (rl.inj j i v w es m a z2 q2 e1 e2 (by rw[f1,z]) e3)
   exact⟨p,ys,f1,by rw[q4_ hp];exact f2,f3,f4⟩
 ·have g:∀(n:Nat) (v:W) (es:Mu),(env1.set i (w.putM m'))[n]? =some v->v.mut=some es->∃v0 es0,env1[n]? =some v0/\v0.mut=some es0:=fun n v es y1 y2=>by
   rcases k5_ y1 with⟨z1,z2⟩|⟨z1,z2⟩
   ·rw[z1];exact⟨w,m,e1,e2⟩
   ·exact⟨v,es,z2,y2⟩
  obtain⟨v0,es0,y1,y2⟩:=g j v es q1 q2;obtain⟨v1,es1,y3,y4⟩:=g k v' fs q3 q4;exact rl.inj j k v0 v1 es0 es1 b y1 y2 y3 y4 q5 q6
 ·rcases k5_ q1 with⟨z1,z2⟩|⟨z1,z2⟩
  ·subst z1
   exact rl.fresh j w b e1 (by rw[z2,W.putM_own e2]at qo;exact qo) q2
  ·exact rl.fresh j v b z2 qo q2
 ·by_cases h:b=a
  ·subst h;rw[y3_];simp
  ·rw[q4_ h];exact rl.old b hb
 ·have hb:b≠a:=fun z=>by
   rcases oo with q|q
   ·exact n (z ▸ q)
   ·rw[z,q]at e;cases e
  rw[q4_ hb];exact ev.keep b o n t e
 ·by_cases h:b=a
  ·subst h;rw[y3_];simp
  ·rw[q4_ h];exact ev.live b e
 ·obtain⟨j,v,es,q1,q2,q3⟩:=z
  rcases k5_ q1 with⟨z1,z2⟩|⟨z1,z2⟩
  ·rw[z1,e3]at q3;cases q3
   exact oo
  ·exact ev.sub b ⟨j,v,es,z2,q2,q3⟩
 ·rcases k5_ q with⟨z1,z2⟩|⟨z1,z2⟩
  ·subst z1
   exact ev.par j w e1 (by rw[z2,W.putM_par e2]at qp;exact qp)
  ·exact ev.par j v z2 qp
theorem Ev.write{a:Addr}{xs':List V}{w:W}{ds ds':List D}(ev:Ev K B G σ env H G1 σ1 env1 H1)(e1:env1[i]? =some w)(e2:w.mutL=some ds)(e3:σ1[i]? =some (some (.ref a)))(r:z6_ K G1 xs' ds'):
  Ev K B G σ env H G1 σ1 (env1.set i (w.put ds')) (upd H1 a (.lst xs')):=by
 rw[W.put_eq e2];exact ev.writeM e1 (W.mutL_of e2) e3 ⟨xs',rfl,r⟩
end
section
variable{X:Cx}{B:OA}{pos:Pos}{a b c e:Expr}{ma mb mc:Mo D}{ms:Mo (List D)}{es:List Expr}{st:Stmt}{rest:List Stmt}{s1 s2:Mo Fl}
def mNx:Mo Fl:=fun env=>some (.nx,env)
def z9_(m n:Mo Fl):Mo Fl:=fun env=>(m env).bind fun p=>match p.1 with
 |.nx=>n p.2
 |fl=>some (fl,p.2)
theorem TSm.nx{K:Qq}{D:Ends}{σ:St}{H:Hp}{G:Hp}{env env':Env'}{m:Mo Fl}(r:Rel K B G σ env H)(e:m env=some (.nx,env'))(k:∀σ' G' H',Ev K B G σ env H G' σ' env' H'->D.nx σ' H'):TSm K B m D σ H:=⟨G,env,.nx,env',r,e,k⟩
theorem k0_:ESs X B [] mNx:=by
 refine pss_imp b3x ?_
 rintro D σ H ⟨G,env,fl,env',rl,e,k⟩;cases e;exact k σ G H (.refl rl)
theorem v0_(h1:ES X B st s1)(h2:ESs X B rest s2):ESs X B (st::rest) (z9_ s1 s2):=by
 refine pss_imp (a3e h1 h2) ?_
 rintro D σ H ⟨G,env,fl,env',rl,e,k⟩;obtain⟨⟨fl1,env1⟩,e1,e2⟩:=q1_ e;dsimp only at e2;cases fl1 with
 |nx=>
  dsimp only at e2;exact⟨G,env,.nx,env1,rl,e1,fun σ1 G1 H1 ev=>⟨G1,env1,fl,env',ev.rel,e2,Post.after _ _ k ev⟩⟩
 |bk=>cases e2;exact⟨G,env,.bk,_,rl,e1,k⟩
 |ct=>cases e2;exact⟨G,env,.ct,_,rl,e1,k⟩
 |ret d=>cases e2;exact⟨G,env,.ret d,_,rl,e1,k⟩
 |retL d=>cases e2;exact⟨G,env,.retL d,_,rl,e1,k⟩
theorem q8_(h1:ES X B st s1):ESs X B [st] s1:=a8P h1
def v1_(t:Mo Bool)(m n:Mo Fl):Mo Fl:=fun env=>(t env).bind fun p=>if p.1 then m p.2 else n p.2
theorem x2_{c:Expr}{s t:List Stmt}{tc:Mo Bool}(hc:ET X B c tc)(h1:ESs X B s s1)(h2:ESs X B t s2):ES X B (.If c s t pos) (v1_ tc s1 s2):=by
 refine ps_imp (a8R hc h1 h2) ?_
 rintro D σ H ⟨G,env,fl,env',rl,e,k⟩;obtain⟨⟨b1,env1⟩,e1,e2⟩:=q1_ e;dsimp only at e2;refine⟨G,env,b1,env1,rl,e1,fun G1 H1 ev=>?_⟩
 cases b1 with
 |true=>simp only[Zs]at e2 ⊢;exact⟨G1,env1,fl,env',ev.rel,e2,Post.after _ _ k ev⟩
 |false=>simp only[Zn,Jv]at e2 ⊢;exact⟨G1,env1,fl,env',ev.rel,e2,Post.after _ _ k ev⟩
def a6G:Mo Fl:=fun _=>none
theorem a9Q:ES X B st a6G:=by
 refine ps_imp b3B ?_
 rintro D σ H ⟨G,env,fl,env',rl,e,k⟩;cases e
def q7_(m:Mo D):Mo Fl:=fun env=>(m env).map fun p=>(.ret p.1,p.2)
theorem y0_(h:ED X B e ma):ES X B (.Return (some e) pos) (q7_ ma):=by
 refine ps_imp (a8Q h) ?_
 rintro D σ H ⟨G,env,fl,env',rl,e,k⟩;obtain⟨⟨d,env1⟩,e1,e2⟩:=v8_ e;cases e2;exact⟨G,env,d,_,rl,e1,fun v G' H' ev r=>k v σ G' H' ev r⟩
def a2E(m:Mo (List D)):Mo Fl:=fun env=>(m env).map fun p=>(.retL p.1,p.2)
theorem a6H(h:EL X B e ms):ES X B (.Return (some e) pos) (a2E ms):=by
 refine ps_imp (a8Q h) ?_
 rintro D σ H ⟨G,env,fl,env',rl,e,k⟩;obtain⟨⟨d,env1⟩,e1,e2⟩:=v8_ e;cases e2;exact⟨G,env,d,_,rl,e1,fun a xs G' H' ev ha no h' g' r=>k a xs σ G' H' ev (fun z=>rl.old a z ha) no h' g' r⟩
def c0Z(i:Nat):Mo Fl:=fun env=>match env[i]? with
 |some (.own ds)=>some (.retL ds,env.set i .nil)
 |_=>none
def v2_(i:Nat)(m:Mo D):Mo Fl:=fun env=>(m env).map fun p=>(.nx,p.2.set i (.dat p.1))
def u7_(i:Nat)(m:Mo (List D)):Mo Fl:=fun env=>(m env).map fun p=>(.nx,p.2.set i (.own p.1))
section
variable{i:Nat}{x:Str}{pos':Pos}
theorem x9_(hN:X.N.Nodup)(hi:X.N[i]? =some x)(hx:Loc X.env.scope x)(he:ED X B e ma)(hs:swapsWith e (some (.Name x pos')) pos.line X.env=pure false:=by rfl)(hf:X.fn x=true∨X.env.scope.names.lookup x=some .local:=by first|exact .inl rfl|exact .inr rfl|assumption):
  ES X B (.Assign [.Name x pos'] e pos) (v2_ i ma):=by
 refine ps_imp (a4U hN hi hx he hs hf) ?_
 rintro D σ H ⟨G,env,fl,env',rl,e,k⟩;obtain⟨⟨d,env1⟩,e1,e2⟩:=v8_ e;cases e2;exact⟨G,env,d,_,rl,e1,fun v G' H' ev r=>k _ G' H' (ev.setDat r)⟩
theorem a1V(hN:X.N.Nodup)(hi:X.N[i]? =some x)(hx:Loc X.env.scope x)(he:EL X B e ms)(hs:swapsWith e (some (.Name x pos')) pos.line X.env=pure false:=by rfl)(hf:X.fn x=true∨X.env.scope.names.lookup x=some .local:=by first|exact .inl rfl|exact .inr rfl|assumption):
  ES X B (.Assign [.Name x pos'] e pos) (u7_ i ms):=by
 refine ps_imp (a4U hN hi hx he hs hf) ?_
 rintro D σ H ⟨G,env,fl,env',rl,e,k⟩;obtain⟨⟨d,env1⟩,e1,e2⟩:=v8_ e;cases e2;exact⟨G,env,d,_,rl,e1,fun a xs G' H' ev ha no h' g' r=>k _ G' H' (ev.setOwn (fun z=>rl.old a z ha) ha no h' g' r)⟩
def a5i(i:Nat)(f:D->D->Option D)(m:Mo D):Mo Fl:=fun env=>match env[i]? with
 |some (.dat d0)=>(m env).bind fun p=>(f d0 p.1).map fun d=>(.nx,p.2.set i (.dat d))
 |_=>none
theorem b4Y{op:Operator}{r:R2}{f:D->D->Option D}(hN:X.N.Nodup)(hi:X.N[i]? =some x)(hx:Loc X.env.scope x)(he:ED X B e ma)(ho:OpR X (inplaceOp op) r)(o:OpD X B r f)
  (hf:X.fn x=true∨X.env.scope.names.lookup x=some .local:=by first|exact .inl rfl|exact .inr rfl|assumption):ES X B (.AugAssign (.Name x pos') op e pos) (a5i i f ma):=by
 refine ps_imp (b3N hN hi hx he (ti:=r) (fun pins s σ H x y v u Q I rx ry q=>ho pins s σ H x y v u Q I rx ry q) hf) ?_
 rintro D σ H ⟨G,env,fl,env',rl,e,k⟩;unfold a5i at e;split at e
 ·rename_i d0 e0
  obtain⟨⟨d,env1⟩,e1,e2⟩:=q1_ e;obtain⟨d2,e3,e4⟩:=v8_ e2;cases e4;obtain⟨v0,h0,r0⟩:=rl.dat i d0 e0;exact⟨v0,h0,.bind rl e1 fun v G' H' ev r1=>o G' σ _ H' v0 v d0 d _ _ ev.rel (Rep.mono ev.same _ r0) r1 e3 fun v2 G2 H2 ev2 r2=>k _ G2 H2 ((ev.trans ev2).setDat r2)⟩
 ·cases e
end
def a2F(i:Nat)(m:Mo D):Mo Fl:=fun env=>((env[i]?).bind W.mutL).bind fun _=>(m env).bind fun p=>(p.2[i]?).bind fun w=>w.mutL.bind fun ds=>if ds.length<100000 then some (.nx,p.2.set i (w.put (ds++[p.1])))else none
theorem a6I{i:Nat}{x:Str}{p apos cpos:Pos}(ho:PE X (.Name x p) (a0Q i))(ha:EDs X B [e] (z2_ ma z5_))
  (hbase:attributeBase (.Name x p) "append" X.env (eval (.Name x p) X.env)=eval (.Name x p) X.env:=by rfl)
  (hfew:((backTo cpos (starEach [e] X.env)).all (fun x=>!x.1)&&(backToKw cpos (keywordEach [] X.env)).all (fun x=>x.1.isSome)
   &&decide ([e].length+([]:List Keyword).length+(if([]:List Keyword).isEmpty then 0 else 1)<30))=true:=by rfl)
  (hline:(apos.endLine==cpos.line)=true:=by rfl)(hs:starEach [e] X.env=(false,eval e X.env)::starEach [] X.env:=by rfl)(hplain:(backTo cpos (starEach [] X.env)).any (·.1)=false:=by rfl)
  (hsw:swapsWith (.Call (.Attribute (.Name x p) "append" apos) [e] [] cpos) none pos.line X.env=pure false:=by rfl):
  ES X B (.Expr (.Call (.Attribute (.Name x p) "append" apos) [e] [] cpos) pos) (a2F i ma):=by
 refine ps_imp (a6f (a4c Js PySem.F.slot_list_append PySem.F.type_list_append a9w ho ha hbase hfew hline hs hplain) hsw) ?_
 rintro D σ H ⟨G,env,fl,env',rl,e,k⟩;obtain⟨ds0,e0,e⟩:=q1_ e;obtain⟨w0,e00,em0⟩:=q1_ e0;obtain⟨⟨d,env1⟩,e1,e2⟩:=q1_ e;obtain⟨w,e3,e4⟩:=q1_ e2;obtain⟨ds,e5,e6⟩:=q1_ e4;dsimp only at e3 e6;split at e6
 ·rename_i hl
  cases e6;obtain⟨q,xs0,h1,h2,h3,h4⟩:=rl.ownL i w0 ds0 e00 em0;refine⟨_,h1,.inl ⟨rfl,xs0,.inl (.inl h2)⟩,G,env,[d],env1,rl,by show(ma env).bind _=_;rw[e1];rfl,fun vs G1 H1 ev r1=>?_⟩
  obtain⟨v,rfl,rv⟩:=a0A r1;obtain⟨q',xs,g1,g2,g3,g4⟩:=ev.rel.ownL i w ds e3 e5;rw[h1]at g1;cases g1;have hz:xs.length<sizeLine:=by rw[g3.length];exact Vc hl (by decide)
  exact⟨q,xs,v,rfl,rfl,g2,hz,k _ G1 _ (ev.write e3 e5 h1 (g3.append (repL_cons rv repL_nil)))⟩
 ·cases e6
end
section
variable(K:Qq)(B:OA)
def TGm(n:Nat)(g:OZ):TG:=fun v σ H Q=>∃G env d env',Rel K B G σ env H/\Rep K G v d/\g d env=some env'/\∀σ' G' H',Ev K B G σ env H G' σ' env' H'->(∀j,j<n->σ'[j]? =σ[j]?)->Q σ' H'
def b4Z(n:Nat)(g:List D->Env'->Option Env'):TGs:=fun vs σ H Q=>∃G env ds env',Rel K B G σ env H/\z6_ K G vs ds/\g ds env=some env'/\∀σ' G' H',Ev K B G σ env H G' σ' env' H'->(∀j,j<n->σ'[j]? =σ[j]?)->Q σ' H'
end
abbrev EG(X:Cx)(B:OA)(n:Nat)(e:Expr)(g:OZ):Prop:=PG X e (TGm X.K B n g)
abbrev EGs(X:Cx)(B:OA)(n:Nat)(es:List Expr)(g:List D->Env'->Option Env'):Prop:=PGs X es (b4Z X.K B n g)
theorem a6J{X:Cx}{e:Expr}{t t':TG}(h:PG X e t)(i:∀v σ H Q,t' v σ H Q->t v σ H Q):PG X e t':=fun pins s σ H v u Q I r q=>h pins s σ H v u Q I r (i v σ H Q q)
theorem a9R{X:Cx}{e:List Expr}{t t':TGs}(h:PGs X e t)(i:∀v σ H Q,t' v σ H Q->t v σ H Q):PGs X e t':=fun pins s σ H v u Q I r q=>h pins s σ H v u Q I r (i v σ H Q q)
def gN(i:Nat):OZ:=fun d env=>some (env.set i (.dat d))
def gNl:List D->Env'->Option Env':=fun ds env=>match ds with
 |[]=>some env
 |_=>none
def gCn(g:OZ)(gs:List D->Env'->Option Env'):List D->Env'->Option Env':=fun ds env=>match ds with
 |d::ds=>(g d env).bind (gs ds)
 |[]=>none
def gT(n:Nat)(gs:List D->Env'->Option Env'):OZ:=fun d env=>match d with
 |.tup ds=>if ds.length=n then gs ds env else none
 |_=>none
section
variable{X:Cx}{B:OA}{pos:Pos}{a b c e tg:Expr}{ma mb mc:Mo D}{ms:Mo (List D)}{es:List Expr}{g:OZ}{gs:List D->Env'->Option Env'}
theorem x1_{n i:Nat}{x:Str}(hn:n≤i)(hN:X.N.Nodup)(hi:X.N[i]? =some x)(hx:Loc X.env.scope x)(hf:X.fn x=true∨X.env.scope.names.lookup x=some .local:=by first|exact .inl rfl|exact .inr rfl|assumption):EG X B n (.Name x pos) (gN i):=by
 refine a6J (b3C hN hi hx hf) ?_
 rintro v σ H Q ⟨G,env,d,env',rl,r,e,k⟩;cases e;exact k _ G H ((Ev.refl rl).setDat r) fun j hj=>Qc (by omega)
theorem a4j{n:Nat}:EGs X B n [] gNl:=by
 refine a9R b3F ?_
 rintro vs σ H Q ⟨G,env,ds,env',rl,r,e,k⟩;unfold gNl at e;split at e
 ·cases e
  simp only[z6_]at r;exact⟨r,k _ G H (.refl rl) fun _ _=>rfl⟩
 ·cases e
theorem a1j{n:Nat}(h1:EG X B n e g)(h2:EGs X B n es gs)(hs:(assignEach (e::es) X.env).map (·.2)=assign e X.env::(assignEach es X.env).map (·.2):=by rfl):EGs X B n (e::es) (gCn g gs):=by
 refine a9R (b3G h1 h2 hs) ?_
 rintro vs σ H Q ⟨G,env,ds,env',rl,r,e,k⟩;unfold gCn at e;split at e
 ·rename_i d ds
  obtain⟨env1,e1,e2⟩:=q1_ e;simp only[z6_]at r;obtain⟨x,xs,e3,r1,r2⟩:=r;exact⟨x,xs,e3,G,env,d,env1,rl,r1,e1,fun σ1 G1 H1 ev y1=>⟨G1,env1,ds,env',ev.rel,z6_.mono ev.same _ r2,e2,fun σ2 G2 H2 ev2 y2=>k σ2 G2 H2 (ev.trans ev2) fun j hj=>(y2 j hj).trans (y1 j hj)⟩⟩
 ·cases e
theorem a4k{nb n k':Nat}(hc:X.calm=true)(h:EGs X B nb es gs)(hn:(assignEach es X.env).length=n:=by rfl)(hst:(assignEach es X.env).findIdx? (·.1)=none:=by rfl):EG X B nb (.Tuple es k' pos) (gT n gs):=by
 refine a6J (b3I hc h hn hst) ?_
 rintro v σ H Q ⟨G,env,d,env',rl,r,e,k⟩;unfold gT at e;split at e
 ·rename_i ds
  split at e
  ·rename_i hl
   simp only[Rep]at r;obtain⟨p,xs,e1,q,t⟩:=r;exact⟨p,xs,e1,rl.sub.sqT q,t.length.trans hl,G,env,ds,env',rl,t,e,k⟩
  ·cases e
 ·cases e
def gS(s:Nat)(mi:Mo D):OZ:=fun d env=>((env[s]?).bind W.mutL).bind fun _=>(mi env).bind fun p=>match p.1 with
 |.int k=>(p.2[s]?).bind fun w=>w.mutL.bind fun ds=>(ixN ds.length k).map fun j=>p.2.set s (w.put (ds.set j d))
 |_=>none
theorem a4l{n s:Nat}{x:Str}{p:Pos}(ho:PE X (.Name x p) (a0Q s))(hi:ED X B b mb)
  (ha:∀v,assign (.Subscript (.Name x p) b pos) X.env v=(do
   let ov←holding [v] (eval (.Name x p) X.env)
   let iv←holding [v,ov] (eval b X.env)
   standAt pos
   holding [v,ov,iv] (setItem ov iv v)
   release [v,ov,iv] []):=by intro _;rfl):EG X B n (.Subscript (.Name x p) b pos) (gS s mb):=by
 refine a6J (b3K ho hi b4z ha) ?_
 rintro v σ H Q ⟨G,env,d,env',rl,r,e,k⟩;obtain⟨ds0,e0,e⟩:=q1_ e;obtain⟨w0,e00,em0⟩:=q1_ e0;obtain⟨⟨d1,env1⟩,e1,e2⟩:=q1_ e;dsimp only at e2;split at e2
 ·rename_i kk
  obtain⟨w,e3,e4⟩:=q1_ e2;obtain⟨ds,e5,e6⟩:=q1_ e4;obtain⟨j,e7,e8⟩:=v8_ e6;cases e8;obtain⟨q,xs0,h1,h2,h3,h4⟩:=rl.ownL s w0 ds0 e00 em0;refine⟨_,h1,.bind rl e1 fun iv G1 H1 ev r1=>?_⟩
  simp only[Rep]at r1;obtain⟨q',xs,g1,g2,g3,g4⟩:=ev.rel.ownL s w ds e3 e5;rw[h1]at g1;cases g1;exact⟨q,xs,kk,j,rfl,r1,g2,by rw[g3.length];exact e7,k _ G1 _ (ev.write e3 e5 h1 (g3.set j (Rep.mono ev.same _ r))) fun _ _=>rfl⟩
 ·cases e2
def u2_(m:Mo D)(g:OZ):Mo Fl:=fun env=>(m env).bind fun p=>(g p.1 p.2).map fun e=>(.nx,e)
theorem a5j(he:ED X B e ma)(hg:EG X B 0 tg g)(hs:swapsWithSole [tg] e pos.line X.env=pure false:=by rfl)(hw:swappedStores [tg] e X.env=pure none:=by rfl)
  (h1:(assignEach [tg] X.env).map (·.2)=[assign tg X.env]:=by rfl):ES X B (.Assign [tg] e pos) (u2_ ma g):=by
 refine ps_imp (b3L he hg hs hw h1) ?_
 rintro D σ H ⟨G,env,fl,env',rl,e,k⟩;obtain⟨⟨d1,env1⟩,e1,e2⟩:=q1_ e;obtain⟨env2,e3,e4⟩:=v8_ e2;cases e4;exact .bind rl e1 fun v G1 H1 ev r=>⟨G1,env1,d1,_,ev.rel,r,e3,fun σ2 G2 H2 ev2 _=>k σ2 G2 H2 (ev.trans ev2)⟩
def mPar(i j:Nat)(ms:Mo (List D)):Mo Fl:=fun env=>(ms env).bind fun p=>match p.1 with
 |[d,d']=>some (.nx,(p.2.set i (.dat d)).set j (.dat d'))
 |_=>none
structure ItD(K:Qq)(J:It)(G:Hp)(ds:List D):Prop where
 go:∀i H,Le G H->i<ds.length->J.go i H
 stop:∀i H,Le G H->ds.length≤i->J.stop i H
 yld:∀i H x H' d,Le G H->J.yld i H x H'->ds[i]? =some d->(H'=H/\Rep K G x d)∨ ∃p o,NT o/\H p=none/\H'=upd H p o/\Rep K (upd G p o) x d
end
section
variable(K:Qq)(B:OA)
def TIm(m:Mo (List D)):TI:=fun σ H R=>∃G env ds env',Rel K B G σ env H/\m env=some (ds,env')/\∀J G' H',Ev K B G σ env H G' σ env' H'->ItD K J G' ds->R J H'
end
abbrev EI(X:Cx)(B:OA)(tg e:Expr)(m:Mo (List D)):Prop:=PI X tg e (TIm X.K B m)
theorem a6K{X:Cx}{tg e:Expr}{t t':TI}(h:PI X tg e t)(i:∀σ H R,t' σ H R->t σ H R):PI X tg e t':=fun pins s σ H R I q=>h pins s σ H R I (i σ H R q)
section
variable{X:Cx}{B:OA}{pos:Pos}{a b c e tg:Expr}{ma mb mc:Mo D}{ms:Mo (List D)}{es:List Expr}{g:OZ}{gs:List D->Env'->Option Env'}
def b5a(K:Qq)(tl:TE):TI:=fun σ H R=>tl σ H fun x H1=>∃a,x=.ref a/\(((∃xs,SqL K H1 a xs)/\R (Itl K a) H1)∨((∃xs,SqT K H1 a xs)/\R (Itt K a) H1))
theorem b5b{l:Expr}{tl:TE}(hl:PE X l tl):PI X tg l (b5a X.K tl):=by
 intro pins s σ H R I h;refine thn (hl pins s σ H _ I h) fun v s1 ⟨x,H1,I1,r1,q1⟩=>?_
 obtain⟨a,e,q⟩:=q1;subst e;cases r1
 rcases q with⟨⟨xs,hq⟩,q⟩|⟨⟨xs,hq⟩,q⟩
 ·obtain⟨its,rv,p,hz⟩:=I1.list hq
  refine Vz p.isList ?_
  refine⟨s1.heap.objs.size,[s1.heap.objs.size],_,_,H1,rfl,I1.kept (t':=s1.toks) fun b o e=>Qj _ e,b3O a _,⟨_,Qh _ rfl,rfl,rfl⟩,fun b hb=>?_,q⟩
  have e:b=s1.heap.objs.size:=by simpa using hb
  subst e;exact I1.fpOk (Qw _) (I1.hok.fresh (Qw _))
 ·obtain⟨its,rv,p,hz⟩:=I1.tuple hq
  refine Xz (show s1.heap.IsTuple a its.toArray from p) ?_
  refine⟨s1.heap.objs.size,[s1.heap.objs.size],_,_,H1,rfl,I1.kept (t':=s1.toks) fun b o e=>Qj _ e,b3P a _,⟨_,Qh _ rfl,rfl,rfl⟩,fun b hb=>?_,q⟩
  have e:b=s1.heap.objs.size:=by simpa using hb
  subst e;exact I1.fpOk (Qw _) (I1.hok.fresh (Qw _))
def y6_(m:Mo D):Mo (List D):=fun env=>(m env).bind fun p=>p.1.items.map fun ds=>(ds,p.2)
theorem b5c{K:Qq}{G:Hp}{p:Addr}{xs:List V}{ds:List D}(q:SqL K G p xs)(r:z6_ K G xs ds):ItD K (Itl K p) G ds where
 go:=fun i H l hi=>⟨xs,xs[i]'(by rw[r.length];exact hi),l.sqL q,by simp⟩
 stop:=fun i H l hi=>⟨xs,l.sqL q,by rw[r.length];exact hi⟩
 yld:=fun i H x H' d l y e=>by
  obtain⟨rfl,y⟩:=y;obtain⟨x',e1,e2⟩:=r.get e;have:=y xs (l.sqL q);rw[e1]at this;cases this;exact .inl ⟨rfl,e2⟩
theorem b5d{K:Qq}{G:Hp}{p:Addr}{xs:List V}{ds:List D}(q:SqU K G p xs)(r:z6_ K G xs ds):ItD K (Itt K p) G ds where
 go:=fun i H l hi=>⟨xs,xs[i]'(by rw[r.length];exact hi),l.sqT q,by simp⟩
 stop:=fun i H l hi=>⟨xs,l.sqT q,by rw[r.length];exact hi⟩
 yld:=fun i H x H' d l y e=>by
  obtain⟨rfl,y⟩:=y;obtain⟨x',e1,e2⟩:=r.get e;have:=y xs (l.sqT q);rw[e1]at this;cases this;exact .inl ⟨rfl,e2⟩
theorem g5_(h:ED X B e ma):EI X B tg e (y6_ ma):=by
 refine a6K (b5b h) ?_
 rintro σ H R ⟨G,env,ds,env',rl,e,k⟩;obtain⟨⟨d,env1⟩,e1,e2⟩:=q1_ e;obtain⟨ds',e3,e4⟩:=v8_ e2;cases e4;refine .bind rl e1 fun v G1 H1 ev r=>?_
 cases d<;>first|(exact absurd (show(none:Option (List D))=some _ from e3) (by simp))|skip
 ·cases e3
  simp only[Rep]at r;obtain⟨p,xs,e5,q,t⟩:=r;exact⟨p,e5,.inr ⟨⟨xs,ev.rel.sub.sqT q⟩,k _ G1 H1 ev (b5d q t)⟩⟩
 ·cases e3
  simp only[Rep]at r;obtain⟨p,xs,e5,q,t⟩:=r;exact⟨p,e5,.inl ⟨⟨xs,ev.rel.sub.sqL q⟩,k _ G1 H1 ev (b5c q t)⟩⟩
def a0d(lo:Int)(n:Nat):List D:=(List.range n).map fun(i:Nat)=>D.int (lo+i)
theorem b5e{K:Qq}{G:Hp}{lo:Int}{n:Nat}:ItD K (Itr lo n) G (a0d lo n)where
 go:=fun i H l hi=>by
  have h:i<n:=by simpa [a0d]using hi
  exact h
 stop:=fun i H l hi=>by
  have h:n≤i:=by simpa [a0d]using hi
  exact h
 yld:=fun i H x H' d l y e=>by
  obtain⟨rfl,rfl⟩:=y;refine .inl ⟨rfl,?_⟩;unfold a0d at e;rw[Zi]at e;cases hr:(List.range n)[i]? with
  |none=>rw[hr]at e;cases e
  |some j=>
   rw[hr]at e;cases e;obtain⟨h1,h2⟩:=Qb.mp hr
   simp at h2
   subst h2;simp only[Rep]
def j2_(ms:Mo (List D)):Mo (List D):=fun env=>(ms env).bind fun p=>match p.1 with
 |[.int j]=>if-1000000<j/\j<1000000 then some (a0d 0 j.toNat,p.2)else none
 |_=>none
theorem a3p{p:Pos}(hg:Gl X "range")(hm:X.mg "range"=none)(ha:EDs X B [a] ms)(hs:starEach [a] X.env=[(false,eval a X.env)]:=by rfl):EI X B tg (.Call (.Name "range" p) [a] [] pos) (j2_ ms):=by
 have h0:=b3T (tg:=tg) (p:=p) (pos:=pos) hg hm ha hs
 refine a6K h0 ?_
 rintro σ H R ⟨G,env,ds,env',rl,e,k⟩;obtain⟨⟨ds',env1⟩,e1,e2⟩:=q1_ e;dsimp only at e2;split at e2
 ·rename_i j
  split at e2
  ·rename_i hj
   cases e2;refine⟨G,env,_,_,rl,e1,fun vs G1 H1 ev r=>?_⟩
   obtain⟨v,rfl,r1⟩:=a0A r;simp only[Rep]at r1;subst r1;exact⟨j,rfl,by omega,by omega,k _ G1 H1 ev b5e⟩
  ·cases e2
 ·cases e2
def loop(g:OZ)(body:Mo Fl):List D->Mo Fl
 |[],env=>some (.nx,env)
 |d::ds,env=>(g d env).bind fun e1=>(body e1).bind fun p=>match p.1 with
  |.nx=>loop g body ds p.2
  |.ct=>loop g body ds p.2
  |.bk=>some (.nx,p.2)
  |.ret d=>some (.ret d,p.2)
  |.retL d=>some (.retL d,p.2)
def j3_(mi:Mo (List D))(g:OZ)(body:Mo Fl):Mo Fl:=fun env=>(mi env).bind fun p=>loop g body p.1 p.2
theorem Ev.alloc{K:Qq}{G:Hp}{σ:St}{env:Env'}{H:Hp}(r:Rel K B G σ env H){p:Addr}{o:HO}(h:H p=none)(no:NT o):Ev K B G σ env H (upd G p o) σ env (upd H p o):=r.alloc h no
theorem a1k{iter:Expr}{body:List Stmt}{mi:Mo (List D)}{mbd:Mo Fl}(hp:PassesOwn (model X.prog X.w) X.A X.env X.xe)(hc:X.calm=true)(hi:EI X B tg iter mi)(hg:EG X B 0 tg g)(hb:ESs X B body mbd)
  (hs:∀x,foldedSetIterable iter X.env x=pure x:=by intro _;rfl):ES X B (.For tg iter body [] pos) (j3_ mi g mbd):=by
 refine ps_imp (b3W hp hc hi hg hb hs) ?_
 rintro D σ H ⟨G,env,fl,env',rl,e,k⟩;obtain⟨⟨ds,env1⟩,e1,e2⟩:=q1_ e;dsimp only at e2;refine⟨G,env,ds,env1,rl,e1,fun J G1 H1 ev1 it=>?_⟩
 refine⟨fun i m σ2 H2=>m=ds.length-i/\i≤ds.length/\∃G2 env2,Ev X.K B G σ env H G2 σ2 env2 H2/\Le G1 G2/\loop g mbd (ds.drop i) env2=some (fl,env'),⟨_,rfl,Jd _,G1,env1,ev1,Le.refl,by simpa using e2⟩,?_⟩
 rintro i m σ2 H2 ⟨rfl,hi2,G2,env2,ev2,l2,e3⟩;have lH:Le G1 H2:=l2.trans ev2.rel.sub
 by_cases hlt:i<ds.length
 ·refine .inr ⟨it.go i H2 lH hlt,fun σ' H'=>∃G3 env3,Ev X.K B G σ env H G3 σ' env3 H'/\Le G1 G3/\loop g mbd (ds.drop (i+1)) env3=some (fl,env'),?_,fun x H3 y=>?_⟩
  ·rintro σ' H' ⟨G3,env3,ev3,l3,e4⟩
   exact⟨ds.length-(i+1),by omega,rfl,hlt,G3,env3,ev3,l3,e4⟩
  ·have ed:ds.drop i=ds[i]::ds.drop (i+1):=List.drop_eq_getElem_cons hlt
   rw[ed]at e3;obtain⟨env4,e4,e5⟩:=q1_ e3;obtain⟨⟨fl5,env5⟩,e6,e7⟩:=q1_ e5;have hget:ds[i]? =some ds[i]:=by simp[hlt]
   have st:∃G3,Ev X.K B G σ env H G3 σ2 env2 H3/\Le G1 G3/\Rep X.K G3 x ds[i]:=by
    rcases it.yld i H2 x H3 ds[i] lH y hget with⟨rfl,r⟩|⟨p,o,hno,hp2,rfl,r⟩
    ·exact⟨G2,ev2,l2,Rep.mono l2 _ r⟩
    ·have gp:=ev2.rel.gnone hp2
     refine⟨upd G2 p o,ev2.trans (ev2.rel.alloc hp2 hno),l2.trans (Le.upd gp),Rep.mono (fun b u q=>?_) _ r⟩
     by_cases hb2:b=p
     ·subst hb2;rw[y3_]at q ⊢;exact q
     ·rw[q4_ hb2]at q ⊢;exact l2 b u q
   obtain⟨G3,ev3,l3,r3⟩:=st;refine⟨G3,env2,ds[i],env4,ev3.rel,r3,e4,fun σ4 G4 H4 ev4 _=>?_⟩
   have ev5:=ev3.trans ev4
   refine⟨G4,env4,fl5,env5,ev4.rel,e6,?_⟩;cases fl5 with
   |nx=>exact fun σ6 G6 H6 ev6=>⟨G6,env5,ev5.trans ev6,(l3.trans ev4.same).trans ev6.same,e7⟩
   |ct=>exact fun σ6 G6 H6 ev6=>⟨G6,env5,ev5.trans ev6,(l3.trans ev4.same).trans ev6.same,e7⟩
   |bk=>cases e7;exact fun σ6 G6 H6 ev6=>k σ6 G6 H6 (ev5.trans ev6)
   |ret d=>cases e7;exact fun v σ6 G6 H6 ev6=>k v σ6 G6 H6 (ev5.trans ev6)
   |retL d=>cases e7;exact fun a xs σ6 G6 H6 ev6=>k a xs σ6 G6 H6 (ev5.trans ev6)
 ·have ei:i=ds.length:=by omega
  subst ei;rw[List.drop_length]at e3;cases e3;exact .inl ⟨it.stop _ H2 lH (Qw _),k σ2 G2 H2 ev2⟩
end
inductive Rr where
 |d (d:D)|l (ds:List D)
abbrev Fn:=List W->Option (Rr×List W)
def g6_:OA:=fun _=>False
def a4m(ws:List W):Prop:=∀w∈ws,(∃d,w=.dat d)∨w.isPar=true
def b5f(K:Qq)(G:Hp)(vs:List V)(ws:List W)(H:Hp)(ws':List W)(Q:VK):Rr->Prop
 |.d d=>∀v G' H',Ev K g6_ G (vs.map some) ws H G' (vs.map some) ws' H'->Rep K G' v d->Q v H'
 |.l ds=>∀a xs G' H',Ev K g6_ G (vs.map some) ws H G' (vs.map some) ws' H'->H a=none-> ¬ Owned (vs.map some) ws' a->H' a=some (.lst xs)->G' a=none->z6_ K G' xs ds->Q (.ref a) H'
def SpF(K:Qq)(n:Nat)(f:Fn):Sp:=fun vs H Q _=>∃G ws r ws',ws.length=n/\a4m ws/\Rel K g6_ G (vs.map some) ws H/\f ws=some (r,ws')/\b5f K G vs ws H ws' Q r
def a5k:W->W->W
 |.par _,.par ds=>.par ds
 |.par _,.parD ks vs=>.parD ks vs
 |.parD _ _,.par ds=>.par ds
 |.parD _ _,.parD ks vs=>.parD ks vs
 |.par _,_=>.nil
 |.parD _ _,_=>.nil
 |w,_=>w
def a0B(ws env:List W):List W:=List.zipWith a5k ws env
def fnM(N:Nat)(mb:Mo Fl):Fn:=fun ws=>match mb (ws++List.replicate (N-ws.length) .nil)with
 |some (.ret d,env)=>some (.d d,a0B ws env)
 |some (.retL ds,env)=>some (.l ds,a0B ws env)
 |some (.nx,env)=>some (.d .non,a0B ws env)
 |_=>none
theorem a1l{N:List Str}{vs:List V}{i:Nat}(hi:i<vs.length):(start N vs)[i]? =(vs.map some)[i]?:=by
 unfold start;rw[Yt (by simpa using hi)]
theorem a1W{α:Type}{l:List α}{n i:Nat}{a b:α}(h:(l++List.replicate n a)[i]? =some b):(i<l.length/\l[i]? =some b)∨(l.length≤i/\b=a):=by
 by_cases hi:i<l.length
 ·rw[Yt hi]at h;exact .inl ⟨hi,h⟩
 ·rw[List.getElem?_append_right (by omega),Jx]at h
  split at h
  ·cases h;exact .inr ⟨by omega,rfl⟩
  ·cases h
section
variable{K:Qq}{G:Hp}{vs:List V}{ws:List W}{H:Hp}{N:List Str}
theorem a9S(hl:ws.length=vs.length){n:Nat}{a:Addr}:Owned (start N vs) (ws++List.replicate n .nil) a↔Owned (vs.map some) ws a:=by
 constructor
 ·rintro⟨i,w,ds,e1,e2,e3⟩
  rcases a1W e1 with⟨h1,h2⟩|⟨h1,h2⟩
  ·rw[a1l (by omega)]at e3;exact⟨i,w,ds,h2,e2,e3⟩
  ·rw[h2]at e2;cases e2
 ·rintro⟨i,w,ds,e1,e2,e3⟩
  have hi:i<ws.length:=(Qb.mp e1).1
  exact⟨i,w,ds,by rw[Yt hi];exact e1,e2,by rw[a1l (by omega)];exact e3⟩
theorem a6L(r:Rel K g6_ G (vs.map some) ws H)(ok:a4m ws)(hN:vs.length≤N.length):Rel K (fun b=>H b≠none) G (start N vs) (ws++List.replicate (N.length-ws.length) .nil) H:=by
 have hl:ws.length=vs.length:=by have:=r.len;rwa [Qk]at this
 have noOwn:∀(i:Nat) (w:W),ws[i]? =some w->w.isOwn=true->False:=fun i w e h=>by
  rcases ok _ (Jn e)with⟨d,z⟩|z
  ·subst z;cases h
  ·cases w<;>first|(cases h;done)|(cases z;done)
 refine⟨r.sub,?_,fun i d e=>?_,fun i w ds e1 e2=>?_,fun i j w w' ds es a q1 q2 q3 q4 q5 q6=>?_,fun i w a q1 qo q2=>?_,fun b h=>h,r.tabs,r.gnt⟩
 ·unfold start
  simp only[Qs,Zr,Qk]
  omega
 ·rcases a1W e with⟨h1,h2⟩|⟨h1,h2⟩
  ·obtain⟨v,e1,e2⟩:=r.dat i d h2
   exact⟨v,by rw[a1l (by omega)];exact e1,e2⟩
  ·cases h2
 ·rcases a1W e1 with⟨h1,h2⟩|⟨h1,h2⟩
  ·obtain⟨a,xs,e3,e4⟩:=r.own i w ds h2 e2
   exact⟨a,xs,by rw[a1l (by omega)];exact e3,e4⟩
  ·rw[h2]at e2;cases e2
 ·rcases a1W q1 with⟨h1,h2⟩|⟨h1,h2⟩
  ·rcases a1W q3 with⟨h3,h4⟩|⟨h3,h4⟩
   ·rw[a1l (by omega)]at q5 q6
    exact r.inj i j w w' ds es a h2 q2 h4 q4 q5 q6
   ·rw[h4]at q4;cases q4
  ·rw[h2]at q2;cases q2
 ·rcases a1W q1 with⟨h1,h2⟩|⟨h1,h2⟩
  ·exact(noOwn i w h2 qo).elim
  ·subst h2;cases qo
theorem a5l{ws env:List W}{i:Nat}{w:W}(h:(a0B ws env)[i]? =some w):∃w1 w2,ws[i]? =some w1/\env[i]? =some w2/\w=a5k w1 w2:=by
 unfold a0B at h;rw[Yi]at h;cases e1:ws[i]? with
 |none=>rw[e1]at h;cases h
 |some w1=>
  cases e2:env[i]? with
  |none=>rw[e1,e2]at h;cases h
  |some w2=>rw[e1,e2]at h;cases h;exact⟨w1,w2,rfl,rfl,rfl⟩
theorem a6M{w1 w2:W}{m:Mu}(ok:(∃d,w1=.dat d)∨w1.isPar=true)(h:(a5k w1 w2).mut=some m):w2.mut=some m/\w2.isPar=true/\a5k w1 w2=w2/\w1.isPar=true:=by
 rcases ok with⟨d,z⟩|z
 ·subst z;cases h
 ·cases w1<;>cases w2<;>first|exact⟨h,rfl,rfl,rfl⟩|(cases z;done)|(cases h;done)
theorem a2G{G':Hp}{σ':St}{env':Env'}{H':Hp}(r:Rel K g6_ G (vs.map some) ws H)(ok:a4m ws)(hN:vs.length≤N.length)
  (ev:Ev K (fun b=>H b≠none) G (start N vs) (ws++List.replicate (N.length-ws.length) .nil) H G' σ' env' H'):Ev K g6_ G (vs.map some) ws H G' (vs.map some) (a0B ws env') H':=by
 have hl:ws.length=vs.length:=by have:=r.len;rwa [Qk]at this
 have okg:∀{i:Nat}{w:W},ws[i]? =some w->(∃d,w=.dat d)∨w.isPar=true:=fun e=>ok _ (Jn e)
 have hle:ws.length≤env'.length:=by
  have h1:=ev.rel.len
  have h2:=ev.slen
  have h3:(start N vs).length=N.length:=by unfold start;simp only[Qs,Zr,Qk];omega
  omega
 have par:∀(i:Nat) (w:W) (m:Mu),(a0B ws env')[i]? =some w->w.mut=some m->∃w0,ws[i]? =some w0/\w0.isPar=true/\env'[i]? =some w/\w.isPar=true/\σ'[i]? =(vs.map some)[i]?:=fun i w m e1 e2=>by
  obtain⟨w1,w2,h1,h2,h3⟩:=a5l e1;subst h3;obtain⟨h4,h5,h6,h7⟩:=a6M (okg h1) e2;have hi:i<vs.length:=by have:=(Qb.mp h1).1;omega
  rw[h6];exact⟨w1,h1,h7,h2,h5,(ev.par i w2 h2 h5).1.trans (a1l hi)⟩
 refine⟨⟨ev.rel.sub,?_,fun i d e=>?_,fun i w ds e1 e2=>?_,fun i j w w' ds es a q1 q2 q3 q4 q5 q6=>?_,fun i w a q1 qo q2 h=>h,fun b h=>h.elim,ev.rel.tabs,ev.rel.gnt⟩,ev.same,fun b o n t e=>ev.keep b o (fun z=>n ((a9S hl).mp z)) t e,ev.live,fun b e n g=>ev.stay b e (fun z=>n ((a9S hl).mp z)) g,fun a z=>?_,fun i w e hp=>?_,rfl⟩
 ·unfold a0B
  rw[Yu,Qk];omega
 ·obtain⟨w1,w2,h1,h2,h3⟩:=a5l e
  rcases okg h1 with⟨d1,z⟩|z
  ·subst z
   cases h3;obtain⟨v,e1,e2⟩:=r.dat i d h1;exact⟨v,e1,Rep.mono ev.same d e2⟩
  ·cases w1<;>cases w2<;>first|(cases h3;done)|(cases z;done)
 ·obtain⟨d0,h1,hp,h2,h3,h4⟩:=par i w ds e1 e2
  obtain⟨a,xs,e3,e4⟩:=ev.rel.own i _ ds h2 e2;exact⟨a,xs,by rw[←h4];exact e3,e4⟩
 ·obtain⟨d0,h1,hp,h2,h3,h4⟩:=par i w ds q1 q2
  obtain⟨d1,h5,hp',h6,h7,h8⟩:=par j w' es q3 q4;exact ev.rel.inj i j _ _ ds es a h2 q2 h6 q4 (by rw[h4];exact q5) (by rw[h8];exact q6)
 ·obtain⟨i,w,ds,e1,e2,e3⟩:=z
  obtain⟨d0,h1,hp,h2,h3,h4⟩:=par i w ds e1 e2;obtain⟨m0,hm0⟩:=par_mut hp;exact .inl ⟨i,_,m0,h1,hm0,e3⟩
 ·obtain⟨m,hm⟩:=par_mut hp
  obtain⟨d0,h1,hp',h2,h3,h4⟩:=par i _ m e hm;exact⟨rfl,d0,h1,hp'⟩
end
theorem w2_{P:Program}{w:World}{K:Qq}{mg:OU}{base:Heap}{x qual:Str}{st:Stmt}{f:Addr}{fd:FuncData}{N ps:List Str}{k:Nat}{mb:Mo Fl}(F:Fun K x qual st f fd)(S:FnScope N ps (v7_ st))
  (hb:∀(cdv:Value) (A:Around) (outer:List Env) (s:Shared) (H:Hp) (E:XK),Room k (A.deeper (envOfC qual (v7_ st) s.heap.objs.size f cdv))->
   ESs (w4_ CX0 P w K mg base N qual (v7_ st) f cdv A outer s H E).nox (fun b=>H b≠none) (a0F st) mb):FnOk P w K mg base CX0 (k+1) f fd ps (SpF K ps.length (fnM N.length mb)):=by
 have hpl:ps.length≤N.length:=by have:=Jr List.length S.pre;rw[Yw]at this;omega
 refine F.ok S (fun vs H Q E h=>?_) (fun cdv A outer s H vs Q E hr h=>?_)
 ·obtain⟨G,ws,r,ws',hl,ok,rl,_⟩:=h
  have:=rl.len;rw[Qk]at this;omega
 ·obtain⟨G,ws,r,ws',hl,ok,rl,e,k⟩:=h
  have hv:ws.length=vs.length:=by have:=rl.len;rwa [Qk]at this
  refine⟨_,hb cdv A outer s H E hr,?_⟩;have rl':=a6L (N:=N) rl ok (by omega)
  unfold fnM at e;split at e
  ·rename_i d env em
   cases e;refine⟨G,_,_,env,rl',em,?_⟩;exact fun v σ' G' H' ev rp=>k v G' H' (a2G rl ok (by omega) ev) rp
  ·rename_i ds env em
   cases e;refine⟨G,_,_,env,rl',em,?_⟩;intro a xs σ' G' H' ev nb no h' g' rp;refine k a xs G' H' (a2G rl ok (by omega) ev) (Jc nb) ?_ h' g' rp
   rintro⟨i,w',es,e1,e2,e3⟩;obtain⟨w1,w2,q1,q2,q3⟩:=a5l e1;subst q3;obtain⟨q4,q5,q6,q7⟩:=a6M (ok _ (Jn q1)) e2;have hi:i<vs.length:=by have:=(Qb.mp q1).1;omega
   exact no ⟨i,_,es,q2,q4,by rw[(ev.par i w2 q2 q5).1,a1l hi];exact e3⟩
  ·rename_i env em
   cases e;refine⟨G,_,_,env,rl',em,?_⟩;exact fun σ' G' H' ev=>k .non G' H' (a2G rl ok (by omega) ev) (by simp only[Rep])
  ·cases e
def slots:List Ar->List Nat
 |[]=>[]
 |.d _::r=>slots r
 |.sl i::r=>i::slots r
def a2H:Mu->W
 |.l ds=>.par ds
 |.d ks vs=>.parD ks vs
theorem a9T(c:Mu):(a2H c).mut=some c:=by cases c<;>rfl
theorem a9U(c:Mu):(a2H c).isPar=true:=by cases c<;>rfl
def j8_(c:Mu):Ar->W
 |.d d=>.dat d
 |.sl _=>a2H c
def a1X:List W->Option Mu
 |[]=>none
 |.par ds::_=>some (.l ds)
 |.parD ks vs::_=>some (.d ks vs)
 |_::r=>a1X r
def a1B(n:Nat)(f:Fn)(as:Mo (List Ar)):Mo Rr:=fun env=>(as env).bind fun p=>if p.1.length=n then
 match slots p.1 with
 |[]=>(f (p.1.map (j8_ (.l [])))).map fun q=>(q.1,p.2)
 |[i]=>(p.2[i]?).bind fun w=>w.mut.bind fun c=>(f (p.1.map (j8_ c))).bind fun q=>(a1X q.2).map fun c'=>(q.1,p.2.set i (w.putM c'))
 |_=>none
 else none
theorem a1Y:∀{as:List Ar},slots as=[]->∀(k j:Nat),as[k]? ≠some (.sl j)
 |[],_,k,j,e=>by simp at e
 |.d _::r,h,k,j,e=>by
  cases k with
  |zero=>simp at e
  |succ k=>exact a1Y (as:=r) h k j (by simpa using e)
 |.sl i::r,h,k,j,e=>by simp[slots]at h
theorem a6N:∀{as:List Ar}{i:Nat},slots as=[i]->∃k:Nat,as[k]? =some (.sl i)/\∀(k' j:Nat),as[k']? =some (.sl j)->k'=k/\j=i
 |[],_,h=>by simp[slots]at h
 |.d _::r,i,h=>by
  obtain⟨k,h1,h2⟩:=a6N (as:=r) h;refine⟨k+1,by simpa using h1,fun k' j e=>?_⟩
  cases k' with
  |zero=>simp at e
  |succ k'=>
   obtain⟨a,b⟩:=h2 k' j (by simpa using e)
   exact⟨by omega,b⟩
 |.sl i'::r,i,h=>by
  simp only[slots,List.cons.injEq]at h;obtain⟨rfl,h⟩:=h;refine⟨0,by simp,fun k' j e=>?_⟩
  cases k' with
  |zero=>simp at e;exact⟨rfl,e.symm⟩
  |succ k'=>exact absurd (by simpa using e) (a1Y h k' j)
theorem a4n:∀{ws:List W}{c:Mu},a1X ws=some c->∃k:Nat,ws[k]? =some (a2H c)
 |[],_,h=>by simp[a1X]at h
 |.par ds::r,c,h=>by simp only[a1X,Zl]at h;subst h;exact⟨0,by simp[a2H]⟩
 |.parD ks vs::r,c,h=>by simp only[a1X,Zl]at h;subst h;exact⟨0,by simp[a2H]⟩
 |.nil::r,c,h=>by obtain⟨k,e⟩:=a4n (ws:=r) h;exact⟨k+1,by simpa using e⟩
 |.dat _::r,c,h=>by obtain⟨k,e⟩:=a4n (ws:=r) h;exact⟨k+1,by simpa using e⟩
 |.own _::r,c,h=>by obtain⟨k,e⟩:=a4n (ws:=r) h;exact⟨k+1,by simpa using e⟩
 |.ownD _ _::r,c,h=>by obtain⟨k,e⟩:=a4n (ws:=r) h;exact⟨k+1,by simpa using e⟩
section
variable{K:Qq}{G:Hp}{σ:St}
theorem RepA.length:∀{as:List Ar}{vs:List V},RepA K G σ vs as->vs.length=as.length
 |[],_,h=>by simp only[RepA]at h;subst h;rfl
 |.d d::as,_,h=>by
  simp only[RepA]at h;obtain⟨x,r,rfl,_,t⟩:=h
  simp[RepA.length t]
 |.sl i::as,_,h=>by
  simp only[RepA]at h;obtain⟨x,r,rfl,_,t⟩:=h
  simp[RepA.length t]
theorem RepA.getD:∀{as:List Ar}{vs:List V}{k:Nat}{d:D},RepA K G σ vs as->as[k]? =some (.d d)->∃v,vs[k]? =some v/\Rep K G v d
 |[],_,k,d,h,e=>by simp at e
 |.d d'::as,_,k,d,h,e=>by
  simp only[RepA]at h;obtain⟨x,r,rfl,q,t⟩:=h;cases k with
  |zero=>simp at e;subst e;exact⟨x,by simp,q⟩
  |succ k=>simpa using RepA.getD (k:=k) t (by simpa using e)
 |.sl i::as,_,k,d,h,e=>by
  simp only[RepA]at h;obtain⟨x,r,rfl,q,t⟩:=h;cases k with
  |zero=>simp at e
  |succ k=>simpa using RepA.getD (k:=k) t (by simpa using e)
theorem RepA.getS:∀{as:List Ar}{vs:List V}{k i:Nat},RepA K G σ vs as->as[k]? =some (.sl i)->∃v,vs[k]? =some v/\σ[i]? =some (some v)
 |[],_,k,i,h,e=>by simp at e
 |.d d'::as,_,k,i,h,e=>by
  simp only[RepA]at h;obtain⟨x,r,rfl,q,t⟩:=h;cases k with
  |zero=>simp at e
  |succ k=>simpa using RepA.getS (k:=k) t (by simpa using e)
 |.sl i'::as,_,k,i,h,e=>by
  simp only[RepA]at h;obtain⟨x,r,rfl,q,t⟩:=h;cases k with
  |zero=>simp at e;subst e;exact⟨x,by simp,q⟩
  |succ k=>simpa using RepA.getS (k:=k) t (by simpa using e)
end
section
variable{K:Qq}{B:OA}{G:Hp}{σ:St}{env:Env'}{H:Hp}{as:List Ar}{vs:List V}{c:Mu}
theorem a6O:a4m (as.map (j8_ c)):=fun w hw=>by
 obtain⟨a,_,rfl⟩:=Qo.mp hw;cases a with
 |d d=>exact .inl ⟨d,rfl⟩
 |sl i=>exact .inr (a9U c)
theorem a3q{k:Nat}{w:W}(e:(as.map (j8_ c))[k]? =some w):(∃d,as[k]? =some (.d d)/\w=.dat d)∨ ∃j,as[k]? =some (.sl j)/\w=a2H c:=by
 rw[Zi]at e;cases h:as[k]? with
 |none=>rw[h]at e;cases e
 |some a=>
  rw[h]at e;cases a with
  |d d=>cases e;exact .inl ⟨d,rfl,rfl⟩
  |sl j=>cases e;exact .inr ⟨j,rfl,rfl⟩
theorem a9V{k:Nat}{v:V}(h:vs[k]? =some v):(vs.map some)[k]? =some (some v):=by rw[Zi,h];rfl
theorem a9W{k:Nat}{v:V}(h:(vs.map some)[k]? =some (some v)):vs[k]? =some v:=by
 rw[Zi]at h;cases e:vs[k]? with
 |none=>rw[e]at h;cases h
 |some u=>rw[e]at h;cases h;rfl
theorem a6P{i:Nat}{w:W}(rl:Rel K B G σ env H)(ra:RepA K G σ vs as)(u:∀(k j:Nat),as[k]? =some (.sl j)->j=i/\env[i]? =some w/\w.mut=some c)(un:∀(k k' j j':Nat),as[k]? =some (.sl j)->as[k']? =some (.sl j')->k=k'):
  Rel K g6_ G (vs.map some) (as.map (j8_ c)) H:=by
 refine⟨rl.sub,by rw[Qk,Qk,ra.length],fun k d e=>?_,fun k v ds e1 e2=>?_,fun k k' v v' ds es a q1 q2 q3 q4 q5 q6=>?_,fun k w a e _ _ h=>h,fun b h=>h.elim,rl.tabs,rl.gnt⟩
 ·rcases a3q e with⟨d',h1,h2⟩|⟨j,h1,h2⟩
  ·cases h2
   obtain⟨v,q1,q2⟩:=ra.getD h1;exact⟨v,a9V q1,q2⟩
  ·cases c<;>cases h2
 ·rcases a3q e1 with⟨d',h1,h2⟩|⟨j,h1,h2⟩
  ·subst h2;cases e2
  ·subst h2;rw[a9T]at e2;cases e2
   obtain⟨v,q1,q2⟩:=ra.getS h1;obtain⟨rfl,q3,q4⟩:=u k j h1;obtain⟨a,xs,q5,q6,q7,q8⟩:=rl.own j w c q3 q4;rw[q2]at q5;cases q5;exact⟨a,xs,a9V q1,q6,q7,q8⟩
 ·rcases a3q q1 with⟨d',h1,h2⟩|⟨j,h1,h2⟩
  ·subst h2;cases q2
  ·rcases a3q q3 with⟨d',h3,h4⟩|⟨j',h3,h4⟩
   ·subst h4;cases q4
   ·exact un k k' j j' h1 h3
theorem a9X{i:Nat}(ra:RepA K G σ vs as)(u:∀(k j:Nat),as[k]? =some (.sl j)->j=i){a:Addr}(h:Owned (vs.map some) (as.map (j8_ c)) a):σ[i]? =some (some (V.ref a))/\∃k:Nat,as[k]? =some (Ar.sl i):=by
 obtain⟨k,v,ds,e1,e2,e3⟩:=h
 rcases a3q e1 with⟨d',h1,h2⟩|⟨j,h1,h2⟩
 ·subst h2;cases e2
 ·obtain⟨v',q1,q2⟩:=ra.getS h1
  have:=u k j h1;subst this;have e4:=a9W e3;rw[q1]at e4;cases e4;exact⟨q2,k,h1⟩
theorem a6Q{G2 H2:Hp}{ws':List W}(rl:Rel K B G σ env H)(ra:RepA K G σ vs as)(hs:slots as=[])(ev:Ev K g6_ G (vs.map some) (as.map (j8_ c)) H G2 (vs.map some) ws' H2):Ev K B G σ env H G2 σ env H2:=by
 have no:∀a,¬ Owned (vs.map some) (as.map (j8_ c)) a:=fun a z=>by
  obtain⟨_,k,e⟩:=a9X (i:=0) ra (fun k j e=>absurd e (a1Y hs k j)) z
  exact a1Y hs k 0 e
 refine⟨⟨ev.rel.sub,rl.len,fun i d e=>?_,fun i w ds e1 e2=>?_,rl.inj,rl.fresh,fun b h=>ev.live b (rl.old b h),ev.rel.tabs,ev.rel.gnt⟩,ev.same,fun b o _ t e=>ev.keep b o (no b) t e,ev.live,fun b e _ g=>ev.stay b e (no b) g,fun a z=>.inl z,fun i w e hp=>⟨rfl,w,e,hp⟩,rfl⟩
 ·obtain⟨v,q1,q2⟩:=rl.dat i d e
  exact⟨v,q1,Rep.mono ev.same d q2⟩
 ·obtain⟨a,xs,q1,q2,q3,q4⟩:=rl.own i w ds e1 e2
  exact⟨a,xs,q1,ev.keep a _ (no a) q3.nt q2,q3.mono ev.same,ev.stay a (by rw[q2];simp) (no a) q4⟩
theorem a9Y{G2 H2:Hp}{ws':List W}{i:Nat}{w:W}{c':Mu}(rl:Rel K B G σ env H)(ra:RepA K G σ vs as)(hs:slots as=[i])(e1:env[i]? =some w)(e2:w.mut=some c)(hp:a1X ws'=some c')
  (ev:Ev K g6_ G (vs.map some) (as.map (j8_ c)) H G2 (vs.map some) ws' H2):Ev K B G σ env H G2 σ (env.set i (w.putM c')) H2:=by
 obtain⟨k,hk,uk⟩:=a6N hs;obtain⟨a,xs,h1,h2,h3,h4⟩:=rl.own i w c e1 e2;have ow:Owned σ env a:=⟨i,w,c,e1,e2,h1⟩;have isA:∀b,Owned (vs.map some) (as.map (j8_ c)) b->b=a:=fun b z=>by
  obtain⟨q,_⟩:=a9X ra (fun k j e=>(uk k j e).2) z
  rw[h1]at q;cases q;rfl
 obtain⟨k',hk'⟩:=a4n hp;have ek:k'=k:=by
  obtain⟨_,d0,q,qp⟩:=ev.par k' _ hk' (a9U c')
  rcases a3q q with⟨d',z1,z2⟩|⟨j,z1,z2⟩
  ·subst z2;cases qp
  ·exact(uk k' j z1).1
 subst ek;obtain⟨a2,ys,g1,g2,g3,g4⟩:=ev.rel.own k' _ c' hk' (a9T c');obtain⟨v,q1,q2⟩:=ra.getS hk;have g5:=a9W g1;rw[q1]at g5;cases g5;rw[h1]at q2;cases q2;have wp:(w.putM c').mut=some c':=W.putM_mut e2 c';have nd:∀d,w.putM c'≠.dat d:=fun d z=>by rw[z]at wp;cases wp
 refine⟨⟨ev.rel.sub,by rw[Zv];exact rl.len,fun j d' q=>?_,fun j v es y1 y2=>?_,fun j m v v' es fs b y1 y2 y3 y4 y5 y6=>?_,fun j v b y1 yo y2=>?_,fun b h=>ev.live b (rl.old b h),ev.rel.tabs,ev.rel.gnt⟩,ev.same,fun b o n t e=>ev.keep b o (fun z=>n (isA b z ▸ ow)) t e,ev.live,fun b e n g=>ev.stay b e (fun z=>n (isA b z ▸ ow)) g,fun b z=>.inl ?_,fun j v q qp=>⟨rfl,?_⟩,rfl⟩
 ·rcases k5_ q with⟨z1,z2⟩|⟨z1,z2⟩
  ·exact absurd z2.symm (nd d')
  ·obtain⟨v,q1,q2⟩:=rl.dat j d' z2
   exact⟨v,q1,Rep.mono ev.same d' q2⟩
 ·rcases k5_ y1 with⟨z1,z2⟩|⟨z1,z2⟩
  ·subst z1 z2
   rw[wp]at y2;cases y2;exact⟨a,ys,h1,g2,g3,g4⟩
  ·obtain⟨p,zs,f1,f2,f3,f4⟩:=rl.own j v es z2 y2
   have hp:p≠a:=fun z=>z1 (rl.inj j i v w es c a z2 y2 e1 e2 (by rw[f1,z]) h1)
   have np:¬ Owned (vs.map some) (as.map (j8_ c)) p:=fun z=>hp (isA p z)
   exact⟨p,zs,f1,ev.keep p _ np f3.nt f2,f3.mono ev.same,ev.stay p (by rw[f2];simp) np f4⟩
 ·have g:∀(m:Nat) (v:W) (es:Mu),(env.set i (w.putM c'))[m]? =some v->v.mut=some es->∃v0 es0,env[m]? =some v0/\v0.mut=some es0:=fun m v es y1 y2=>by
   rcases k5_ y1 with⟨z1,z2⟩|⟨z1,z2⟩
   ·rw[z1];exact⟨w,c,e1,e2⟩
   ·exact⟨v,es,z2,y2⟩
  obtain⟨v0,es0,x1,x2⟩:=g j v es y1 y2;obtain⟨v1,es1,x3,x4⟩:=g m v' fs y3 y4;exact rl.inj j m v0 v1 es0 es1 b x1 x2 x3 x4 y5 y6
 ·rcases k5_ y1 with⟨z1,z2⟩|⟨z1,z2⟩
  ·subst z1
   exact rl.fresh j w b e1 (by rw[z2,W.putM_own e2]at yo;exact yo) y2
  ·exact rl.fresh j v b z2 yo y2
 ·obtain⟨j,v,es,y1,y2,y3⟩:=z
  rcases k5_ y1 with⟨z1,z2⟩|⟨z1,z2⟩
  ·rw[z1,h1]at y3;cases y3;exact ow
  ·exact⟨j,v,es,z2,y2,y3⟩
 ·rcases k5_ q with⟨z1,z2⟩|⟨z1,z2⟩
  ·subst z1
   exact⟨w,e1,by rw[z2,W.putM_par e2]at qp;exact qp⟩
  ·exact⟨v,z2,qp⟩
end
def asD:Rr×Env'->Option (D×Env')
 |(.d d,e)=>some (d,e)
 |_=>none
def asL:Rr×Env'->Option (List D×Env')
 |(.l d,e)=>some (d,e)
 |_=>none
def mCD(n:Nat)(f:Fn)(as:Mo (List Ar)):Mo D:=fun env=>(a1B n f as env).bind asD
def a1C(n:Nat)(f:Fn)(as:Mo (List Ar)):Mo (List D):=fun env=>(a1B n f as env).bind asL
def b5g(K:Qq)(B:OA)(G:Hp)(σ:St)(env:Env')(H:Hp)(env':Env')(Q:VK):Rr->Prop
 |.d d=>∀v G' H',Ev K B G σ env H G' σ env' H'->Rep K G' v d->Q v H'
 |.l ds=>∀a xs G' H',Ev K B G σ env H G' σ env' H'->H a=none-> ¬ Owned σ env' a->H' a=some (.lst xs)->G' a=none->z6_ K G' xs ds->Q (.ref a) H'
theorem a9Z{K:Qq}{B:OA}{n:Nat}{f:Fn}{as:Mo (List Ar)}{σ:St}{H:Hp}{G:Hp}{env env':Env'}{r:Rr}{Q:VK}{E:XK}(rl:Rel K B G σ env H)(e:a1B n f as env=some (r,env'))
  (k:b5g K B G σ env H env' Q r):
  a9g (SpF K n f) [] E (TAm K B as) σ H Q:=by
 obtain⟨⟨av,env1⟩,e1,e2⟩:=q1_ e;dsimp only at e2;split at e2
 ·rename_i hn
  refine⟨G,env,av,env1,rl,e1,fun vs G1 H1 ev ra=>?_⟩
  show SpF K n f (vs++[]) H1 Q E;rw[Je];have hnone:∀a,H1 a=none->H a=none:=fun a h=>by
   cases q:H a with
   |none=>rfl
   |some o=>exact absurd h (ev.live a (by rw[q];simp))
  split at e2
  ·rename_i hs
   obtain⟨⟨r',ws'⟩,e3,e4⟩:=v8_ e2;cases e4;refine⟨G1,av.map (j8_ (.l [])),r',ws',by rw[Qk];exact hn,a6O,a6P (i:=0) (w:=.nil) ev.rel ra (fun k j e=>absurd e (a1Y hs k j)) (fun k k' j j' e=>absurd e (a1Y hs k j)),e3,?_⟩
   cases r' with
   |d d=>exact fun v G2 H2 ev2 rp=>k v G2 H2 (ev.trans (a6Q ev.rel ra hs ev2)) rp
   |l ds=>
    intro a xs G2 H2 ev2 ha no h' g' rp;exact k a xs G2 H2 (ev.trans (a6Q ev.rel ra hs ev2)) (hnone a ha) (ev.rel.unowned ha) h' g' rp
  ·rename_i i hs
   obtain⟨w,e3,e4⟩:=q1_ e2;obtain⟨c,e5,e6⟩:=q1_ e4;obtain⟨⟨r',ws'⟩,e7,e8⟩:=q1_ e6;obtain⟨c',e9,e10⟩:=v8_ e8;cases e10;obtain⟨kk,hk,uk⟩:=a6N hs;refine⟨G1,av.map (j8_ c),r',ws',by rw[Qk];exact hn,a6O,a6P (i:=i) (w:=w) ev.rel ra (fun k j e=>⟨(uk k j e).2,e3,e5⟩) (fun k k' j j' h1 h2=>(uk k j h1).1.trans (uk k' j' h2).1.symm),e7,?_⟩
   cases r' with
   |d d=>exact fun v G2 H2 ev2 rp=>k v G2 H2 (ev.trans (a9Y ev.rel ra hs e3 e5 e9 ev2)) rp
   |l ds=>
    intro a xs G2 H2 ev2 ha no h' g' rp;have evc:=a9Y ev.rel ra hs e3 e5 e9 ev2;refine k a xs G2 H2 (ev.trans evc) (hnone a ha) (fun z=>?_) h' g' rp
    rcases evc.sub a z with q|q
    ·exact ev.rel.unowned ha q
    ·obtain⟨j,v,es,y1,y2,y3⟩:=z
     rcases k5_ y1 with⟨z1,z2⟩|⟨z1,z2⟩
     ·subst z1
      exact ev.rel.unowned ha ⟨j,w,c,e3,e5,y3⟩
     ·exact ev.rel.unowned ha ⟨j,v,es,z2,y2,y3⟩
  ·cases e2
 ·cases e2
section
variable{X:Cx}{B:OA}{pos p:Pos}{e:Expr}{es:List Expr}{as:Mo (List Ar)}{fn:Fn}{k:Nat}{f:Addr}{fd:FuncData}{ps:List Str}{x:Str}
theorem b5h(F:FnOk X.prog X.w X.K X.mg X.base CX0 k f fd ps (SpF X.K ps.length fn))(hr:Room k X.A)(hg:Gl X x)(hm:X.mg x=some (.ref f))(hk:PySem.W.keepIn X.K (.ref f)=true)(hb:a0w X.K fd ps [])
  (ha:EAr X B (e::es) as)(hdb:(x==("__debug__":Str))=false:=by decide)(he:starEach (e::es) X.env=(false,eval e X.env)::starEach es X.env:=by rfl)(hpl:(backTo pos (starEach es X.env)).any (·.1)=false:=by rfl):
  ED X B (.Call (.Name x p) (e::es) [] pos) (mCD ps.length fn as):=by
 refine pe_imp (a6r F hr hg hm hk hb .nil a9z ha hdb he hpl) ?_
 rintro σ H Q ⟨G,env,d,env',rl,e,k⟩;obtain⟨⟨r,env1⟩,e1,e2⟩:=q1_ e;cases r with
 |d d'=>cases e2;exact a9Z rl e1 k
 |l ds=>cases e2
theorem b5i(F:FnOk X.prog X.w X.K X.mg X.base CX0 k f fd ps (SpF X.K ps.length fn))(hr:Room k X.A)(hg:Gl X x)(hm:X.mg x=some (.ref f))(hk:PySem.W.keepIn X.K (.ref f)=true)(hb:a0w X.K fd ps [])
  (ha:EAr X B (e::es) as)(hdb:(x==("__debug__":Str))=false:=by decide)(he:starEach (e::es) X.env=(false,eval e X.env)::starEach es X.env:=by rfl)(hpl:(backTo pos (starEach es X.env)).any (·.1)=false:=by rfl):
  EL X B (.Call (.Name x p) (e::es) [] pos) (a1C ps.length fn as):=by
 refine pe_imp (a6r F hr hg hm hk hb .nil a9z ha hdb he hpl) ?_
 rintro σ H Q ⟨G,env,d,env',rl,e,k⟩;obtain⟨⟨r,env1⟩,e1,e2⟩:=q1_ e;cases r with
 |d d'=>cases e2
 |l ds=>cases e2;exact a9Z rl e1 k
end
def j4_(cells:List (Str×Addr)):List (Str×NameKind)->List (Str×Addr)->List (Str×Addr)
 |[],acc=>acc
 |(n,k)::r,acc=>if k==.free then(match cells.lookup n with
  |some c=>j4_ cells r ((n,c)::acc)
  |none=>j4_ cells r acc)else j4_ cells r acc
theorem a0e{α:Type}{n x:Str}{a:α}{r:List (Str×α)}:((n,a)::r).lookup x=if x=n then some a else r.lookup x:=by
 rw[List.lookup_cons]
 by_cases h:x=n
 ·subst h;simp
 ·have:(x==n)=false:=by simpa using h
  rw[this,Qr h]
theorem a1Z{cells:List (Str×Addr)}:∀{names:List (Str×NameKind)}{acc:List (Str×Addr)}{x:Str}{c:Addr},(j4_ cells names acc).lookup x=some c->acc.lookup x=some c∨cells.lookup x=some c
 |[],acc,x,c,h=>.inl h
 |(n,k)::r,acc,x,c,h=>by
  unfold j4_ at h;split at h
  ·split at h
   ·rename_i c' hc
    rcases a1Z h with q|q
    ·rw[a0e]at q
     split at q
     ·rename_i e;subst e;cases q;exact .inr hc
     ·exact .inl q
    ·exact .inr q
   ·exact a1Z h
  ·exact a1Z h
theorem a5m{cells:List (Str×Addr)}:∀{names:List (Str×NameKind)}{acc:List (Str×Addr)}{x:Str},(acc.lookup x).isSome=true->((j4_ cells names acc).lookup x).isSome=true
 |[],acc,x,h=>h
 |(n,k)::r,acc,x,h=>by
  unfold j4_;split
  ·split
   ·refine a5m ?_
    rw[a0e];split<;>simp[h]
   ·exact a5m h
  ·exact a5m h
theorem a2I{cells:List (Str×Addr)}:∀{names:List (Str×NameKind)}{acc:List (Str×Addr)}{x:Str},(x,NameKind.free)∈names->(cells.lookup x).isSome=true->((j4_ cells names acc).lookup x).isSome=true
 |[],acc,x,h,_=>by cases h
 |(n,k)::r,acc,x,h,hc=>by
  unfold j4_
  rcases Qm.mp h with e|h
  ·cases e
   rw[Qn (by decide)]
   split
   ·refine a5m ?_
    rw[a0e];simp
   ·rename_i hn;rw[hn]at hc;cases hc
  ·split
   ·split
    ·exact a2I h hc
    ·exact a2I h hc
   ·exact a2I h hc
theorem a6R:∀{names:List (Str×NameKind)}{h:Heap}{acc:List (Str×Addr)}{x:Str}{c:Addr},(cellsFrom h.objs.size names acc).lookup x=some c->
  acc.lookup x=some c∨((pushCells h names).IsCell c none/\h.objs.size≤c/\(x,NameKind.cell)∈names)
 |[],h,acc,x,c,q=>.inl q
 |(n,k)::r,h,acc,x,c,q=>by
  unfold cellsFrom at q;unfold pushCells;split at q
  ·rename_i hk
   rw[Qn hk];have hk':k=.cell:=by simpa using hk
   have ih:=a6R (names:=r) (h:=h.push {cls:=.type "cell",data:=.cell none}) (acc:=(n,h.objs.size)::acc) (x:=x) (c:=c) (by rw[Zt];exact q)
   rcases ih with z|⟨z1,z2,z3⟩
   ·rw[a0e]at z
    split at z
    ·rename_i e;subst e;cases z
     exact .inr ⟨⟨_,Vl _ _ _ _ (Qh _ rfl),rfl⟩,Qw _,by rw[hk'];exact Zz⟩
    ·exact .inl z
   ·rw[Zt]at z2
    exact .inr ⟨z1,by omega,Qe _ z3⟩
  ·rename_i hk
   rw[Qr hk]
   rcases a6R q with z|⟨z1,z2,z3⟩
   ·exact .inl z
   ·exact .inr ⟨z1,z2,Qe _ z3⟩
theorem a6S:∀{names:List (Str×NameKind)}{n:Nat}{acc:List (Str×Addr)},(∀x y c,acc.lookup x=some c->acc.lookup y=some c->x=y)->(∀x c,acc.lookup x=some c->c<n)->
  ∀x y c,(cellsFrom n names acc).lookup x=some c->(cellsFrom n names acc).lookup y=some c->x=y
 |[],n,acc,h1,h2=>h1
 |(m,k)::r,n,acc,h1,h2=>by
  unfold cellsFrom;split
  ·refine a6S (names:=r) (fun x y c q1 q2=>?_) (fun x c q=>?_)
   ·rw[a0e]at q1 q2
    split at q1<;>split at q2
    ·rename_i e1 e2;rw[e1,e2]
    ·cases q1;exact absurd (h2 _ _ q2) (Yh _)
    ·cases q2;exact absurd (h2 _ _ q1) (Yh _)
    ·exact h1 x y c q1 q2
   ·rw[a0e]at q
    split at q
    ·cases q;exact Nat.lt_succ_self _
    ·exact Jh (h2 _ _ q)
  ·exact a6S (names:=r) h1 h2
theorem a5n{env:Env}{x:Str}:∀{names:List (Str×NameKind)},((names.map fun(n,k)=>if(k==NameKind.free&&env.scope.kind==.function&&env.kindOf n==some .cell)then(n,NameKind.cell)else(n,k)).lookup x)=
  (names.lookup x).map fun k=>if(k==NameKind.free&&env.scope.kind==.function&&env.kindOf x==some .cell)then NameKind.cell else k
 |[]=>rfl
 |(n,k)::r=>by
  have ih:=a5n (env:=env) (x:=x) (names:=r)
  show List.lookup x ((if(k==NameKind.free&&env.scope.kind==.function&&env.kindOf n==some .cell)=true then(n,NameKind.cell)else(n,k))::_)=_
  by_cases hx:x=n
  ·subst hx
   rw[a0e (a:=k),Qn rfl]
   by_cases hc:(k==NameKind.free&&env.scope.kind==.function&&env.kindOf x==some .cell)=true
   ·rw[Qn hc,a0e,Qn rfl]
    show _=some (if(k==NameKind.free&&env.scope.kind==.function&&env.kindOf x==some .cell)=true then NameKind.cell else k)
    rw[Qn hc]
   ·rw[Qr hc,a0e,Qn rfl]
    show _=some (if(k==NameKind.free&&env.scope.kind==.function&&env.kindOf x==some .cell)=true then NameKind.cell else k)
    rw[Qr hc]
  ·rw[a0e (a:=k),Qr hx]
   by_cases hc:(k==NameKind.free&&env.scope.kind==.function&&env.kindOf n==some .cell)=true
   ·rw[Qn hc,a0e,Qr hx];exact ih
   ·rw[Qr hc,a0e,Qr hx];exact ih
theorem a5o:∀{names:List (Str×NameKind)}{n:Nat}{acc:List (Str×Addr)}{x:Str}{c0:Addr},acc.lookup x=some c0->∃c,(cellsFrom n names acc).lookup x=some c/\(c=c0∨n≤c)
 |[],n,acc,x,c0,h=>⟨c0,h,.inl rfl⟩
 |(m,k)::r,n,acc,x,c0,h=>by
  unfold cellsFrom;split
  ·by_cases hx:x=m
   ·obtain⟨c,h1,h2⟩:=a5o (names:=r) (n:=n+1) (acc:=(m,n)::acc) (x:=x) (c0:=n) (by rw[a0e,Qn hx])
    exact⟨c,h1,.inr (h2.elim (fun z=>Xy z.symm) fun z=>Jm z)⟩
   ·obtain⟨c,h1,h2⟩:=a5o (names:=r) (n:=n+1) (acc:=(m,n)::acc) (x:=x) (c0:=c0) (by rw[a0e,Qr hx];exact h)
    exact⟨c,h1,h2.elim .inl fun z=>.inr (Jm z)⟩
  ·exact a5o h
theorem a6T:∀{names:List (Str×NameKind)}{n:Nat}{acc:List (Str×Addr)}{x:Str},(x,NameKind.cell)∈names->∃c,(cellsFrom n names acc).lookup x=some c/\n≤c
 |[],n,acc,x,h=>by cases h
 |(m,k)::r,n,acc,x,h=>by
  unfold cellsFrom
  rcases Qm.mp h with e|h
  ·cases e
   rw[Qn (by decide)]
   obtain⟨c,h1,h2⟩:=a5o (names:=r) (n:=n+1) (acc:=(m,n)::acc) (x:=m) (c0:=n) (by rw[a0e,Qn rfl])
   exact⟨c,h1,h2.elim (fun z=>Xy z.symm) fun z=>Jm z⟩
  ·split
   ·obtain⟨c,h1,h2⟩:=a6T (names:=r) (n:=n+1) (acc:=(m,n)::acc) h
    exact⟨c,h1,Jm h2⟩
   ·exact a6T h
def a3r(scope:Scope)(env:Env)(C:Addr):Env:=
 {scope:=relabel scope env,locals:=C,globals:=env.globals,cells:=cellsFrom (C+1) scope.names (j4_ env.cells scope.names []),qual:=env.qual,func:=none,code:=env.code,frame:=env.frame,builtins:=env.builtins}
def k6_(X:Cx)(N':List Str)(scope:Scope)(s:Shared)(H:Hp)(fp:List Addr):Cx where
 prog:=X.prog
 w:=X.w
 K:=X.K
 mg:=X.mg
 base:=X.base
 A:=X.A
 N:=N'
 s₀:=s
 H₀:=H
 env:=a3r scope X.env s.heap.objs.size
 outer:=X.stack
 stack:=X.stack
 ex:=fp
 fn:=fun x=>scope.names.lookup x==some .cell
 calm:=X.calm
 pn:=[]
 xe:=fun _ _=>False
structure CompOk(X:Cx)(N':List Str)(scope:Scope)(keep:List Bool)(more:Nat):Prop where
 kind:scope.kind=.function
 uniq:∀y∈scope.names,scope.names.lookup y.1=some y.2
 clos:closureFor scope X.env=pure (j4_ X.env.cells scope.names [])
 free:∀y∈scope.names,y.2=.free->(X.env.cells.lookup y.1).isSome=true
 klen:keep.length=X.N.length
 len:N'.length=X.N.length+more
 kept:∀(i:Nat) (x:Str),keep[i]? =some true->N'[i]? =some x->X.N[i]? =some x/\scope.names.lookup x≠some .local/\scope.names.lookup x≠some .cell
 outVis:∀(i:Nat) (x:Str),keep[i]? =some true->X.N[i]? =some x->scope.names.lookup x=some .free->X.env.scope.names.lookup x=some .cell∨X.env.scope.names.lookup x=some .free
def k7_(keep:List Bool)(more:Nat)(σ:St):St:=List.zipWith (fun k v=>if k then v else none) keep σ++List.replicate more none
theorem a2J{keep:List Bool}{more:Nat}{σ:St}{i:Nat}{v:V}(h:(k7_ keep more σ)[i]? =some (some v)):keep[i]? =some true/\σ[i]? =some (some v):=by
 unfold k7_ at h
 rcases a1W h with⟨_,h⟩|⟨_,h⟩
 ·rw[Yi]at h
  cases e1:keep[i]? with
  |none=>rw[e1]at h;cases h
  |some k=>
   cases e2:σ[i]? with
   |none=>rw[e1,e2]at h;cases h
   |some u=>
    rw[e1,e2]at h;cases k with
    |true=>simp at h;exact⟨rfl,by rw[h]⟩
    |false=>simp at h
 ·cases h
theorem b5j{X:Cx}{N':List Str}{scope:Scope}{keep:List Bool}{more:Nat}{pins:OX}{σ:St}{H:Hp}{s:Shared}{fp:List Addr}(ok:CompOk X N' scope keep more)(I:Inv X pins σ H s)
  (hf:∀b∈fp,a0n X pins H b/\b<s.heap.objs.size):
  Inv (k6_ X N' scope s H fp) [] (k7_ keep more σ) H {s with heap:=pushCells (s.heap.push {cls:=.type "dict",data:=.dict #[]}) scope.names}:=by
 have hsz:(s.heap.push {cls:=.type "dict",data:=.dict #[]}).objs.size=s.heap.objs.size+1:=Zt ..
 have keepAll:∀b u,s.heap.get? b=some u->(pushCells (s.heap.push {cls:=.type "dict",data:=.dict #[]}) scope.names).get? b=some u:=fun b u e=>Vl _ _ _ _ (Qj _ e)
 have cases':∀x c,(a3r scope X.env s.heap.objs.size).cells.lookup x=some c->X.env.cells.lookup x=some c∨((pushCells (s.heap.push {cls:=.type "dict",data:=.dict #[]}) scope.names).IsCell c none/\s.heap.objs.size+1≤c/\(x,NameKind.cell)∈scope.names):=fun x c e=>by
  have e':(cellsFrom ((s.heap.push {cls:=.type "dict",data:=.dict #[]}).objs.size) scope.names (j4_ X.env.cells scope.names [])).lookup x=some c:=by rw[hsz];exact e
  rcases a6R e' with z|⟨z1,z2,z3⟩
  ·rcases a1Z z with y|y
   ·cases y
   ·exact .inl y
  ·rw[hsz]at z2;exact .inr ⟨z1,z2,z3⟩
 have cellLt:∀x c,X.env.cells.lookup x=some c->c<s.heap.objs.size:=fun x c e=>by
  obtain⟨v,q⟩:=I.cell x c e;exact q.lt
 have fsSub:∀b∈frs X.stack,b<s.heap.objs.size:=fun b hb=>by
  obtain⟨_,o,ho,_⟩:=I.stack.mem hb;exact Qu ho
 refine⟨⟨I.ok.mod,?_,I.ok.glob,I.ok.blt,Qw _,fun x y c e1 e2=>?_,fun x hx=>?_,fun x c e1 e2=>?_,I.ok.hd,I.ok.frames,.inl rfl,fun b hb=>?_,I.bs,Qt I.ok.bsz I.sz,fun b o e hb=>?_,fun b hb hb2=>?_,I.stack,I.stkFree⟩,
  rfl,I.bare,Un.kept keepAll,⟨fun _=>none,(Heap.Ns.new s.heap (.type "dict")).keeps (Vl _ _),fun i x v e1 e2 e3=>?_⟩,fun x c e=>?_,I.hok.fresh (Qw _),fun x c e=>?_,fun p hp=>absurd (show p∈([]:OX)from hp) (by simp),I.hok.kept keepAll,?_⟩
 ·show(relabel scope X.env).kind=.function
  exact ok.kind
 ·refine a6S (names:=scope.names) (n:=s.heap.objs.size+1) (acc:=j4_ X.env.cells scope.names []) (fun x y c q1 q2=>?_) (fun x c q=>?_) x y c e1 e2
  ·rcases a1Z q1 with z1|z1
   ·cases z1
   ·rcases a1Z q2 with z2|z2
    ·cases z2
    ·exact I.ok.inj x y c z1 z2
  ·rcases a1Z q with z1|z1
   ·cases z1
   ·exact Jh (cellLt x c z1)
 ·have hx':(relabel scope X.env).names.lookup x=some .cell∨(relabel scope X.env).names.lookup x=some .free:=hx
  have h1:scope.names.lookup x=some .cell∨scope.names.lookup x=some .free:=by
   unfold relabel at hx';rw[a5n]at hx';cases q:scope.names.lookup x with
   |none=>rw[q]at hx';simp at hx'
   |some k=>
    rw[q]at hx';cases k<;>simp at hx'<;>first|exact .inl rfl|exact .inr rfl
  refine Yz.mp (Uv scope.names _ _ ?_)
  rcases h1 with h1|h1
  ·exact .inl h1
  ·exact .inr (a2I (Zj h1) (ok.free _ (Zj h1) rfl))
 ·have e1':scope.names.lookup x=some .cell:=by simpa [k6_]using e1
  obtain⟨c',q1,q2⟩:=a6T (names:=scope.names) (n:=s.heap.objs.size+1) (acc:=j4_ X.env.cells scope.names []) (Zj e1');have e2':(cellsFrom (s.heap.objs.size+1) scope.names (j4_ X.env.cells scope.names [])).lookup x=some c:=e2;rw[q1]at e2';cases e2';exact Jm q2
 ·refine⟨Qi (hf b hb).2,fun x c e z=>?_⟩
  rcases cases' x c e with y|⟨_,y,_⟩
  ·exact(hf b hb).1.2.2.2.2.1 x c y z
  ·exact absurd (Ql (hf b hb).2 (Jm y)) (by rw[z];exact Yh _)
 ·have:=(I.bs b o e).1
  rcases(hf b hb).1.2.2.2.1 with z|z
  ·exact I.ok.noex b o e z
  ·exact absurd (Ql (Qu e) (Qt I.ok.bsz z)) (Yh _)
 ·rcases Qm.mp (I.stkSub b hb2)with z|z
  ·exact(hf b hb).1.2.1 z
  ·exact(hf b hb).1.2.2.1 z
 ·obtain⟨k1,k2⟩:=a2J e2
  obtain⟨h1,h2,h3⟩:=ok.kept i x k1 e1;have e3':(relabel scope X.env).names.lookup x=some .local∨(relabel scope X.env).names.lookup x=some .cell∨(relabel scope X.env).names.lookup x=some .free:=e3;have hfree:scope.names.lookup x=some .free:=by
   unfold relabel at e3';rw[a5n]at e3';cases q:scope.names.lookup x with
   |none=>rw[q]at e3';simp at e3'
   |some k=>
    rw[q]at e3' h2 h3;cases k<;>simp at e3' h2 h3<;>rfl
  obtain⟨m,hn,hl⟩:=I.loc;have ov:=ok.outVis i x k1 h1 hfree;obtain⟨u,r,l⟩:=hl i x v h1 k2 (.inr ov);refine⟨u,r,.inr ?_⟩;obtain⟨c0,hc0⟩:=Yz.mp (ok.free _ (Zj hfree) rfl);have hcell:s.heap.IsCell c0 (some u):=by
   rcases l with⟨kl,_⟩|⟨_,c,hc,hz⟩
   ·have kl':X.env.scope.names.lookup x=some .local:=kl
    rcases ov with z|z<;>(rw[z]at kl';cases kl')
   ·have hc':X.env.cells.lookup x=some c:=hc
    have hc0':X.env.cells.lookup x=some c0:=hc0
    rw[hc']at hc0';cases hc0';exact hz
  have hk:(a3r scope X.env s.heap.objs.size).kindOf x=some .cell∨(a3r scope X.env s.heap.objs.size).kindOf x=some .free:=by
   show(relabel scope X.env).names.lookup x=some .cell∨(relabel scope X.env).names.lookup x=some .free
   rcases e3' with z|z
   ·exfalso
    unfold relabel at z;rw[a5n,hfree]at z;simp only[Xg,Zl]at z;split at z<;>cases z
   ·exact z
  refine⟨hk,c0,?_,hcell.keeps keepAll⟩;obtain⟨c1,hc1⟩:=Yz.mp (Uv (x:=x) scope.names (s.heap.objs.size+1) (j4_ X.env.cells scope.names []) (.inr (a2I (Zj hfree) (ok.free _ (Zj hfree) rfl))));have hc1':(a3r scope X.env s.heap.objs.size).cells.lookup x=some c1:=hc1
  rcases cases' x c1 hc1' with z|⟨_,_,z⟩
  ·have hc0':X.env.cells.lookup x=some c0:=hc0
   rw[hc0']at z;cases z;exact hc1'
  ·have:=ok.uniq _ z
   rw[hfree]at this;cases this
 ·rcases cases' x c e with y|⟨y,_,_⟩
  ·obtain⟨v,q⟩:=I.cell x c y
   exact⟨v,q.keeps keepAll⟩
  ·exact⟨none,y⟩
 ·rcases cases' x c e with y|⟨_,y,_⟩
  ·exact I.freeC x c y
  ·exact I.hok.fresh (by omega)
 ·show(k7_ keep more σ).length=N'.length
  unfold k7_;rw[Qs,Yu,Zr,ok.len,ok.klen,I.len]
  omega
section
variable{prog:Program}{w:World}{A:Around}{R:Result->Shared->Prop}{s:Shared}
theorem b5k{elt target iter:Expr}{ifs:List Expr}{scope:Scope}{pos:Pos}{it acc:Value}{env:Env}(I:Nat->Shared->Prop)
  (turn:∀n s,I n s->wpAny (model prog w) A (pyNext it) (fun r s₁=>match r with
   |none=>R (.ok .next) s₁
   |some v=>wpAny (model prog w) A (letOwnedTupleGo target it v) (fun _ s₁'=>wpAny (model prog w) A (assign target env v) (fun _ s₂=>
     wpAny (model prog w) A (forIn ifs true fun c r=>if r=true then do let ok←isTrue c env (eval c env);pure (ForInStep.yield ok)else pure (ForInStep.yield r)) (fun ok s₃=>
      if ok=true then wpAny (model prog w) A (eval elt env) (fun x s₄=>
       wpAny (model prog w) A (call (.builtin "list.append") [acc,x]) (fun _ s₅=>∃m,m<n/\I m s₅) (fun _ _=>False) s₄) (fun _ _=>False) s₃
      else∃m,m<n/\I m s₃) (fun _ _=>False) s₂) (fun _ _=>False) s₁') (fun _ _=>False) s₁) (fun _ _=>False) s)
  (n:Nat)(h:I n s):
  codeAny (model prog w) A (.compLoop (.ListComp elt [⟨target,iter,ifs,0⟩] scope pos) 0 it acc env) R s:=by
 refine codeAny_loop rfl I (fun n s hI=>?_) n h
 show wpAny _ A ((compTurn (.ListComp elt [⟨target,iter,ifs,0⟩] scope pos) 0 it acc env).onRaise (fun x=>do noteFrame x env;theTreesLotGoes x)) _ _ s
 refine wpAny_noted ?_
 rw[compTurn_list];refine Qz (wpAny_standAt (Qz (Zp (turn n s hI) (fun r s₁ h₁=>?_) fun _ _ h'=>h'.elim)))
 cases r with
 |none=>exact Qd h₁
 |some v=>
  refine Qz (Zp h₁ (fun _ s₁' h₁'=>?_) fun _ _ h'=>h'.elim)
  refine Qz (Zp h₁' (fun _ s₂ h₂=>Qz (Zp h₂ (fun ok s₃ h₃=>?_) fun _ _ h'=>h'.elim)) fun _ _ h'=>h'.elim)
  cases ok with
  |false=>exact Qd ⟨rfl,h₃⟩
  |true=>
   exact Qz (Qz (Zp h₃ (fun x s₄ h₄=>Qz (Zp h₄ (fun _ s₅ h₅=>Qd (Qd ⟨rfl,h₅⟩)) fun _ _ h'=>h'.elim)) fun _ _ h'=>h'.elim))
theorem b5l{M:Model}{E:OE}{scope:Scope}{env:Env}{Q:Env->Shared->Prop}(cl:List (Str×Addr))
  (h:Q {scope:=scope,locals:=s.heap.objs.size,globals:=env.globals,cells:=cellsFrom (s.heap.objs.size+1) scope.names cl,qual:=env.qual,func:=none,code:=env.code,frame:=env.frame,builtins:=env.builtins}
   {s with heap:=pushCells (s.heap.push {cls:=.type "dict",data:=.dict #[]}) scope.names}):
  wpAny M A (newFunctionEnv scope env.globals cl [] env.qual none .none (some env)) Q E s:=by
 simp only[newFunctionEnv,Option.isSome_some,Zs];refine Qz (wpAny_alloc ?_);refine Qz (wpAny_layCells _ (fun name kind cells=>by cases hkc:kind==NameKind.cell<;>simp[hkc]) _ _ _ _ ?_)
 rw[show({s with heap:=s.heap.push {cls:=.type "dict",data:=.dict #[]}}:Shared).heap.objs.size=s.heap.objs.size+1 from Zt ..]
 exact Qz (by rw[List.forIn_nil];exact Qd (Qd h))
end
def a1D(X:Cx)(ifs:List Expr)(t:TT):Prop:=
 ∀(pins:OX) (s:Shared) (σ:St) (H:Hp) (Q:Bool->Hp->Prop),Inv X pins σ H s->t σ H Q->
  wpAny (model X.prog X.w) X.A (forIn ifs true fun c r=>if r=true then do let ok←isTrue c X.env (eval c X.env);pure (ForInStep.yield ok)else pure (ForInStep.yield r)) (TP X pins σ Q) X.xe s
theorem b5m{X:Cx}:a1D X [] (fun _ H Q=>Q true H):=fun _ _ _ H _ I h=>wpAny_tests_nil ⟨H,I,h⟩
theorem b5n{X:Cx}{c:Expr}{t:TT}(h:PT X c t):a1D X [c] t:=fun pins s σ H Q I q=>wpAny_tests_one (h pins s σ H Q I q)
def b0a(J:It)(g:TG)(tt:TT)(te:TE)(p:Addr)(σ₀:St)(H₀:Hp)(Q:Hp->Prop):Prop:=
 ∃W:Nat->Nat->St->Hp->Prop,(∃m,W 0 m σ₀ (upd H₀ p (.lst [])))/\∀i m σ H,W i m σ H->
  (J.stop i H/\Q H)∨(J.go i H/\∀x H',J.yld i H x H'->g x σ H' fun σ2 H2=>tt σ2 H2 fun b H3=>
   if b=true then te σ2 H3 fun y H4=>∃ys,H4 p=some (.lst ys)/\ys.length<sizeLine/\∃m',m'<m/\W (i+1) m' σ2 (upd H4 p (.lst (ys++[y])))
   else∃m',m'<m/\W (i+1) m' σ2 H3)
section
variable{X:Cx}{N':List Str}{scope:Scope}{keep:List Bool}{more:Nat}{tg iter elt:Expr}{ifs:List Expr}{g:TG}{tt:TT}{te:TE}{pos:Pos}
theorem b0b{E:OE}{pins:OX}{σ:St}{H:Hp}{s:Shared}{it:Addr}{fp:List Addr}{tn:Nat->Heap->Prop}{J:It}{Qf:Addr->Hp->Prop}{RR:Value->Addr->Result->Shared->Prop}
  (ok:CompOk X N' scope keep more)(hc:X.calm=true)(hg:∀s H fp,PG (k6_ X N' scope s H fp) tg g)(ht:∀s H fp,a1D (k6_ X N' scope s H fp) ifs tt)(he:∀s H fp,PE (k6_ X N' scope s H fp) elt te)
  (I:Inv X pins σ H s)(T:Turn X.prog X.w X.K tg J fp it tn)(st:tn 0 s.heap)(hf:∀b∈fp,a0n X pins H b)
  (run:∀p,H p=none->b0a J g tt te p (k7_ keep more σ) H (Qf p))
  (hRR:∀p C s' H' m,Inv X pins σ H' s'->Qf p H'->s'.heap.Ns C m->C≠X.env.locals->(∀x c,X.env.cells.lookup x=some c->c≠C)->H' C=none->(∀σ'' H'' s'' h',Inv X pins σ'' H'' s''->H'' C=none->Heap.SameBut C s''.heap h'->Inv X pins σ'' H'' {s'' with heap:=h'})->RR (.ref p) C (.ok .next) s'):
  wpAny (model X.prog X.w) X.A (newList []) (fun acc s₃=>wpAny (model X.prog X.w) X.A (newFunctionEnv scope X.env.globals (j4_ X.env.cells scope.names []) [] X.env.qual none .none (some X.env)) (fun cenv s₄=>
   codeAny (model X.prog X.w) X.A (.compStart (.ListComp elt [⟨tg,iter,ifs,0⟩] scope pos) 0 (.ref it) acc {cenv with scope:=relabel scope X.env}) (RR acc cenv.locals) s₄) E s₃) E s:=by
 have hp0:H s.heap.objs.size=none:=I.hok.fresh (Qw _)
 refine wpAny_newObj_type ?_
 have I3:Inv X pins σ (upd H s.heap.objs.size (.lst [])) {s with heap:=s.heap.push {cls:=.type "list",dict:=none,data:=.seq ([]:List Value).toArray}}:=
  I.laid (t':=s.toks) (fun b u e=>Qj _ e) (Qw _) ⟨Jd _,[],0,.nil,Qh _ rfl⟩
 have fpOld:∀b∈fp,b<s.heap.objs.size:=fun b hb=>by
  obtain⟨o,e,_⟩:=T.obj 0 _ st b hb;exact Qu e
 have hf3:∀b∈fp,a0n X pins (upd H s.heap.objs.size (.lst [])) b/\b<(s.heap.push {cls:=.type "list",dict:=none,data:=.seq ([]:List Value).toArray}).objs.size:=fun b hb=>by
  refine⟨⟨by rw[q4_ (Qi (fpOld b hb))];exact(hf b hb).1,(hf b hb).2⟩,?_⟩
  rw[Zt];exact Jh (fpOld b hb)
 have st3:tn 0 (s.heap.push {cls:=.type "list",dict:=none,data:=.seq ([]:List Value).toArray}):=T.keep 0 _ _ st fun b hb o e=>Qj _ e
 generalize hs3:({s with heap:=s.heap.push {cls:=.type "list",dict:=none,data:=.seq ([]:List Value).toArray}}:Shared)=s3 at I3 ⊢
 have hs3h:s3.heap=s.heap.push {cls:=.type "list",dict:=none,data:=.seq ([]:List Value).toArray}:=by rw[←hs3]
 rw[←hs3h]at hf3 st3;generalize hp:s.heap.objs.size=p at hp0 I3 hf3 ⊢;generalize hH3:upd H p (.lst [])=H3 at I3 hf3;refine b5l _ ?_
 have I4:=b5j ok I3 hf3
 generalize hs4:({s3 with heap:=pushCells (s3.heap.push {cls:=.type "dict",data:=.dict #[]}) scope.names}:Shared)=s4 at I4 ⊢
 have st4:tn 0 s4.heap:=T.keep 0 _ _ st3 fun b hb o e=>by rw[←hs4];exact Vl _ _ _ _ (Qj _ e)
 obtain⟨W,⟨m0,w0⟩,turn⟩:=run p hp0;have stat:∀{H':Hp},(∀b∈fp,H' b=none)->∀b∈fp,a0n (k6_ X N' scope s3 H3 fp) [] H' b:=fun hn b hb=>by
  have z:=I4.ok.exf b hb
  exact⟨hn b hb,z.1,I4.ok.exfs b hb,.inl hb,z.2,fun p hp=>absurd (show p∈([]:OX)from hp) (by simp)⟩
 have loop:codeAny (model X.prog X.w) X.A (.compLoop (.ListComp elt [⟨tg,iter,ifs,0⟩] scope pos) 0 (.ref it) (.ref p) (a3r scope X.env s3.heap.objs.size)) (RR (.ref p) s3.heap.objs.size) s4:=by
  refine b5k (fun n s'=>∃i σ' H',Inv (k6_ X N' scope s3 H3 fp) [] σ' H' s'/\tn i s'.heap/\(∀b∈fp,H' b=none)/\W i n σ' H') ?_ m0 ⟨0,_,H3,I4,st4,fun b hb=>(hf3 b hb).1.1,by rw[←hH3];exact w0⟩
  rintro n s5 ⟨i,σ5,H5,I5,st5,fr5,w5⟩
  rcases turn i n σ5 H5 w5 with⟨stop,qf⟩|⟨go,step⟩
  ·refine thn (T.done (k6_ X N' scope s3 H3 fp) rfl rfl rfl hc i [] s5 σ5 H5 (fun _ _=>False) I5 (stat fr5) st5 stop) fun r s6 ⟨hr,I6⟩=>?_
   subst hr;obtain⟨m6,hn6,_⟩:=I6.loc;have hch:∀b∈fp,(b∈X.ex∨X.s₀.heap.objs.size≤b)/\b≠X.env.locals/\(∀x c,X.env.cells.lookup x=some c->c≠b)/\∀p∈X.pn++pins,p.1≠b:=fun b hb=>by
    obtain⟨_,f1,_,f3,f4,f5⟩:=hf b hb;exact⟨f3,f1,f4,f5⟩
   have IX:Inv X pins σ H5 s6:=I3.call' (s':=s6) (I6.os) (I6.base) I6.hok I6.bare hch
   have szC:X.s₀.heap.objs.size≤s3.heap.objs.size:=I3.sz
   have hCL:s3.heap.objs.size≠X.env.locals:=Xw I3.lt
   have hCc:∀x c,X.env.cells.lookup x=some c->c≠s3.heap.objs.size:=fun x c e=>by
    obtain⟨v,q⟩:=I3.cell x c e;exact Qi q.lt
   have hCp:∀q∈X.pn++pins,q.1≠s3.heap.objs.size:=fun q hq=>Qi (Qu (I3.pin q hq).1)
   refine hRR p s3.heap.objs.size s6 H5 m6 IX qf hn6 hCL hCc I6.free fun σ'' H'' s'' h' I'' hn hs=>?_
   exact I''.turned (t':=s''.toks) (it:=s3.heap.objs.size) (fun b o hb e=>(hs.2 b hb).trans e) hn hCL (.inr szC) hCc hCp
  ·refine thn (T.item (k6_ X N' scope s3 H3 fp) rfl rfl rfl hc i [] s5 σ5 H5 (fun _ _=>False) I5 (stat fr5) st5 go) fun r s6 ⟨u,hr,h6⟩=>?_
   subst hr;refine thn h6 fun _ s7 ⟨x,H7,I7,r7,y7,st7,fr7⟩=>?_
   have I7':=I7.pinned (stat fr7) (T.obj _ _ st7)
   have back:∀{σ8:St}{H8:Hp}{s8:Shared}{m':Nat},Inv (k6_ X N' scope s3 H3 fp) ([]++a4a fp s7.heap) σ8 H8 s8->m'<n->W (i+1) m' σ8 H8->∃m,m<n/\∃i σ' H',Inv (k6_ X N' scope s3 H3 fp) [] σ' H' s8/\tn i s8.heap/\(∀b∈fp,H' b=none)/\W i m σ' H':=fun{σ8 H8 s8 m'} I8 hm w8=>by
    refine⟨m',hm,i+1,σ8,H8,I8.unpinned,T.keep _ _ _ st7 fun b hb o e=>(I8.pin (b,o) (Zm _ (Zm _ (a4W hb e)))).1,fun b hb=>?_,w8⟩
    obtain⟨o,e,d⟩:=T.obj _ _ st7 b hb;exact(I8.pin (b,o) (Zm _ (Zm _ (a4W hb e)))).2.1
   refine thn (hg s3 H3 fp _ s7 σ5 H7 x u _ I7' r7 (step x H7 y7)) fun _ s8 ⟨σ8,H8,I8,q8⟩=>?_
   refine thn (ht s3 H3 fp _ s8 σ8 H8 _ I8 q8) fun b s9 ⟨H9,I9,q9⟩=>?_
   cases b with
   |false=>
    simp only[Zn,Jv]at q9 ⊢;obtain⟨m',hm,w9⟩:=q9;exact back I9 hm w9
   |true=>
    simp only[Zs]at q9 ⊢;refine thn (he s3 H3 fp _ s9 σ8 H9 _ I9 q9) fun v s10 ⟨y,H10,I10,r10,ys,hys,hl,m',hm,w10⟩=>?_
    exact thn (a9w (X:=k6_ X N' scope s3 H3 fp) _ s10 σ8 H10 (.ref p) [y] (.ref p) [v] (fun _ H11=>W (i+1) m' σ8 H11) I10 rfl (.cons r10 .nil) ⟨p,ys,y,rfl,rfl,hys,hl,w10⟩) fun _ s11 ⟨_,H11,I11,_,w11⟩=>back I11 hm w11
 refine codeAny_compStart_list loop ?_
 exact Zp (T.self X.A 0 s4 _ (fun _ _=>False) st4 loop) (fun _ _ q=>q) fun _ _ q=>q.elim
def a6U(wi:TI)(keep:List Bool)(more:Nat)(g:TG)(tt:TT)(te:TE):TE:=fun σ H Q=>wi σ H fun J H1=>∀p,H1 p=none->b0a J g tt te p (k7_ keep more σ) H1 (Q (.ref p))
theorem b5o{wi:TI}(ok:CompOk X N' scope keep more)(hc:X.calm=true)(hi:PI X tg iter wi)(hg:∀s H fp,PG (k6_ X N' scope s H fp) tg g)(ht:∀s H fp,a1D (k6_ X N' scope s H fp) ifs tt)(he:∀s H fp,PE (k6_ X N' scope s H fp) elt te)
  (hs:∀x,foldedSetIterable iter X.env x=pure x:=by intro _;rfl):PE X (.ListComp elt [⟨tg,iter,ifs,0⟩] scope pos) (a6U wi keep more g tt te):=by
 intro pins s σ H Q I h;rw[eval_ListComp];refine wpAny_comprehension_free (use:=none) rfl hs ok.clos ok.kind (fun x hx hl=>by have:=ok.uniq x hx;rwa [hl]at this) (thn (hi pins s σ H _ I h) fun v s1 h1=>thn h1 fun itv s2 h2=>?_)
 obtain⟨it,fp,tn,J,H2,e,I2,T,st2,f2,run⟩:=h2;subst e;refine b0b (Qf:=fun p H'=>Q (.ref p) H') (RR:=fun acc C=>compPost (model X.prog X.w) X.A X.xe none (EP X pins σ Q) acc C) ok hc hg ht he I2 T st2 f2 run ?_
 intro p C s' H' m IX qf hn hCL hCc hCn turn;exact⟨m,hn,fun h' hs'=>⟨.ref p,H',turn σ H' s' h' IX hCn hs',rfl,qf⟩⟩
theorem b5p{wi:TI}{i:Nat}{y:Str}{py spos:Pos}(ok:CompOk X N' scope keep more)(hc:X.calm=true)(hN:X.N.Nodup)(hy:X.N[i]? =some y)(hyl:X.env.scope.names.lookup y=some .local)
  (hsw:swapsWith (.ListComp elt [⟨tg,iter,ifs,0⟩] scope pos) (some (.Name y py)) spos.line X.env=pure true)
  (hi:PI X tg iter wi)(hg:∀s H fp,PG (k6_ X N' scope s H fp) tg g)(ht:∀s H fp,a1D (k6_ X N' scope s H fp) ifs tt)(he:∀s H fp,PE (k6_ X N' scope s H fp) elt te)
  (hs:∀x,foldedSetIterable iter X.env x=pure x:=by intro _;rfl):PS X (.Assign [.Name y py] (.ListComp elt [⟨tg,iter,ifs,0⟩] scope pos) spos) (a6i (a6U wi keep more g tt te) (a6h i)):=by
 intro pins s σ H D I h;rw[exec_Assign_Name_used _ _ _ _ hsw];refine Qz (wpAny_standAt (Qz ?_));show wpAny _ X.A (do let _←comprehension (.ListComp elt [⟨tg,iter,ifs,0⟩] scope pos) scope X.env _ (newList []) false (eval iter X.env) (some (assign (.Name y py) X.env))) _ _ s
 refine Qz (Zp (wpAny_comprehension_free (use:=some (assign (.Name y py) X.env)) (Q:=fun _ s'=>SP X pins D .next s') rfl hs ok.clos ok.kind (fun x hx hl=>by have:=ok.uniq x hx;rwa [hl]at this) (thn (hi pins s σ H _ I h) fun v s1 h1=>thn h1 fun itv s2 h2=>?_)) (fun _ s' hq=>Qd (Qd hq)) fun _ _ e=>e)
 obtain⟨it,fp,tn,J,H2,e,I2,T,st2,f2,run⟩:=h2;subst e;refine b0b (Qf:=fun p H'=>D.nx (σ.set i (some (.ref p))) H') (RR:=fun acc C=>compPost (model X.prog X.w) X.A X.xe (some (assign (.Name y py) X.env)) (fun _ s'=>SP X pins D .next s') acc C) ok hc hg ht he I2 T st2 f2 run ?_
 intro p C s' H' m IX qf hn hCL hCc hCn turn;refine wpAny_assign_Name (a8L (v:=.ref p) (u:=.ref p) IX hN hy (.inl hyl) rfl (fun s'' I'' hs''=>?_) (.inr hyl))
 obtain⟨a,hsb,ha⟩:=hs'';have hCa:C≠a:=by
  rcases ha with z|z
  ·rw[z];exact hCL
  ·exact fun q=>hCc y a z q.symm
 exact⟨m,hn.sameBut hsb hCa,fun h' hs'=>⟨_,H',turn _ H' s'' h' I'' hCn hs',qf⟩⟩
end
def w6_(keep:List Bool)(more:Nat)(env:Env'):Env':=List.zipWith (fun k w=>if k then w else .nil) keep env++List.replicate more .nil
def a0H:Bool->W->W->Option W
 |false,w,_=>some w
 |true,.nil,_=>some .nil
 |true,.dat d,_=>some (.dat d)
 |true,.own _,.own ds=>some (.own ds)
 |true,.own _,.dat d=>some (.dat d)
 |true,.par _,.par ds=>some (.par ds)
 |true,.ownD _ _,.ownD ks vs=>some (.ownD ks vs)
 |true,.ownD _ _,.dat d=>some (.dat d)
 |true,.parD _ _,.parD ks vs=>some (.parD ks vs)
 |_,_,_=>none
theorem b5q{w w2 w':W}{m:Mu}(h:a0H true w w2=some w')(e:w'.mut=some m):w2=w'/\∃d0,w.mut=some d0/\w.isOwn=w'.isOwn/\w.isPar=w'.isPar:=by
 cases w<;>cases w2<;>first
  |(simp only[a0H,Zl]at h;subst h;exact⟨rfl,_,rfl,rfl,rfl⟩)
  |(simp only[a0H,Zl]at h;subst h;cases e;done)
  |(simp[a0H]at h;done)
theorem b5r{w w2:W}{d:D}(h:a0H true w w2=some (.dat d)):w=.dat d∨(w2=.dat d/\∃d0,w.mut=some d0):=by
 cases w<;>cases w2<;>first
  |(simp only[a0H,Zl]at h;exact .inl h)
  |(simp only[a0H,Zl]at h;exact .inr ⟨h,_,rfl⟩)
  |(simp[a0H]at h;done)
def w7_:List Bool->Env'->Env'->Option Env'
 |[],[],_=>some []
 |k::ks,w::ws,w2::ws2=>(a0H k w w2).bind fun x=>(w7_ ks ws ws2).map fun r=>x::r
 |_,_,_=>none
theorem a6V:∀{keep:List Bool}{env env2 env':Env'}{i:Nat}{w':W},w7_ keep env env2=some env'->env'[i]? =some w'->∃k w w2,keep[i]? =some k/\env[i]? =some w/\env2[i]? =some w2/\a0H k w w2=some w'
 |[],[],_,env',i,w',h,e=>by simp only[w7_,Zl]at h;subst h;simp at e
 |[],_::_,_,env',i,w',h,e=>by simp[w7_]at h
 |k::ks,[],_,env',i,w',h,e=>by simp[w7_]at h
 |k::ks,w::ws,[],env',i,w',h,e=>by simp[w7_]at h
 |k::ks,w::ws,w2::ws2,env',i,w',h,e=>by
  unfold w7_ at h;obtain⟨x,h1,h2⟩:=q1_ h;obtain⟨r,h3,h4⟩:=v8_ h2;subst h4;cases i with
  |zero=>simp at e;subst e;exact⟨k,w,w2,rfl,rfl,rfl,h1⟩
  |succ i=>simpa using a6V (i:=i) h3 (by simpa using e)
theorem b0c:∀{keep:List Bool}{env env2 env':Env'},w7_ keep env env2=some env'->env'.length=env.length
 |[],[],_,env',h=>by simp only[w7_,Zl]at h;subst h;rfl
 |[],_::_,_,env',h=>by simp[w7_]at h
 |k::ks,[],_,env',h=>by simp[w7_]at h
 |k::ks,w::ws,[],env',h=>by simp[w7_]at h
 |k::ks,w::ws,w2::ws2,env',h=>by
  unfold w7_ at h;obtain⟨x,h1,h2⟩:=q1_ h;obtain⟨r,h3,h4⟩:=v8_ h2;subst h4
  simp[b0c h3]
theorem a2K{keep:List Bool}{more:Nat}{env:Env'}{i:Nat}{w:W}(h:(w6_ keep more env)[i]? =some w)(hw:w≠.nil):keep[i]? =some true/\env[i]? =some w:=by
 unfold w6_ at h
 rcases a1W h with⟨_,h⟩|⟨_,h⟩
 ·rw[Yi]at h
  cases e1:keep[i]? with
  |none=>rw[e1]at h;cases h
  |some k=>
   cases e2:env[i]? with
   |none=>rw[e1,e2]at h;cases h
   |some u=>
    rw[e1,e2]at h;cases k with
    |true=>simp at h;exact⟨rfl,by rw[h]⟩
    |false=>simp at h;exact absurd h.symm hw
 ·exact absurd h hw
theorem a4o{keep:List Bool}{more:Nat}{σ:St}{i:Nat}{v:Option V}(hk:keep[i]? =some true)(h:σ[i]? =some v):(k7_ keep more σ)[i]? =some v:=by
 unfold k7_;have h1:i<keep.length:=(Qb.mp hk).1;have h2:i<σ.length:=(Qb.mp h).1;rw[Yt (by rw[Yu];omega),Yi,hk,h]
 rfl
theorem a4p{w:W}{ds:Mu}(h:w.mut=some ds):w≠.nil:=fun z=>by rw[z]at h;cases h
section
variable{K:Qq}{B:OA}{G G':Hp}{σ σ':St}{env env2 env':Env'}{H H':Hp}{keep:List Bool}{more:Nat}
theorem a6W{a:Addr}(h:Owned (k7_ keep more σ) (w6_ keep more env) a):Owned σ env a:=by
 obtain⟨i,w,ds,e1,e2,e3⟩:=h;exact⟨i,w,ds,(a2K e1 (a4p e2)).2,e2,(a2J e3).2⟩
theorem Rel.ext(r:Rel K B G σ env H)(hk:keep.length=σ.length):Rel K B G (k7_ keep more σ) (w6_ keep more env) H:=by
 refine⟨r.sub,?_,fun i d e=>?_,fun i w ds e1 e2=>?_,fun i j w w' ds es a q1 q2 q3 q4 q5 q6=>?_,fun i w a q1 qo q2=>?_,r.old,r.tabs,r.gnt⟩
 ·unfold w6_ k7_
  rw[Qs,Qs,Yu,Yu,Zr,Zr,r.len]
 ·obtain⟨k1,k2⟩:=a2K e (by simp)
  obtain⟨v,e1,e2⟩:=r.dat i d k2;exact⟨v,a4o k1 e1,e2⟩
 ·obtain⟨k1,k2⟩:=a2K e1 (a4p e2)
  obtain⟨a,xs,e3,e4⟩:=r.own i w ds k2 e2;exact⟨a,xs,a4o k1 e3,e4⟩
 ·exact r.inj i j w w' ds es a (a2K q1 (a4p q2)).2 q2 (a2K q3 (a4p q4)).2 q4 (a2J q5).2 (a2J q6).2
 ·exact r.fresh i w a (a2K q1 (by rintro rfl;cases qo)).2 qo (a2J q2).2
theorem Ev.out(r:Rel K B G σ env H)(hk:keep.length=σ.length)(ev:Ev K B G (k7_ keep more σ) (w6_ keep more env) H G' σ' env2 H')(hσ:∀j,j<σ.length->σ'[j]? =(k7_ keep more σ)[j]?)(ho:w7_ keep env env2=some env'):
  Ev K B G σ env H G' σ env' H':=by
 have mutO:∀(i:Nat) (w':W) (ds:Mu),env'[i]? =some w'->w'.mut=some ds->∃w0 d0,env[i]? =some w0/\w0.mut=some d0/\w0.isOwn=w'.isOwn/\w0.isPar=w'.isPar/\
   ∃a o,σ[i]? =some (some (V.ref a))/\H' a=some o/\RepM K G' o ds/\G' a=none:=fun i w' ds e1 e2=>by
  obtain⟨k,w,w2,h1,h2,h3,h4⟩:=a6V ho e1;have hi:i<σ.length:=by have:=(Qb.mp h2).1;rw[←r.len];exact this
  cases k with
  |false=>
   simp only[a0H,Zl]at h4;subst h4;obtain⟨a,xs,q1,q2,q3,q4⟩:=r.own i w ds h2 e2;have no:¬ Owned (k7_ keep more σ) (w6_ keep more env) a:=by
    rintro⟨j,v,es,y1,y2,y3⟩;obtain⟨z1,z2⟩:=a2K y1 (a4p y2);have:=r.inj j i v w es ds a z2 y2 h2 e2 (a2J y3).2 q1;subst this;rw[h1]at z1;cases z1
   exact⟨w,ds,h2,e2,rfl,rfl,a,xs,q1,ev.keep a _ no q3.nt q2,q3.mono ev.same,ev.stay a (by rw[q2];simp) no q4⟩
  |true=>
   obtain⟨z,d0,z1,z2,z3⟩:=b5q h4 e2;subst z;refine⟨w,d0,h2,z1,z2,z3,?_⟩;obtain⟨a,xs,q1,q2,q3,q4⟩:=ev.rel.own i w2 ds h3 e2;obtain⟨a0,xs0,p1,_⟩:=r.own i w d0 h2 z1;rw[hσ i hi,a4o h1 p1]at q1;cases q1;exact⟨a,xs,p1,q2,q3,q4⟩
 refine⟨⟨ev.rel.sub,by rw[b0c ho];exact r.len,fun i d e=>?_,fun i w ds e1 e2=>?_,fun i j w w' ds es a q1 q2 q3 q4 q5 q6=>?_,fun i w a q1 qo q2=>?_,ev.rel.old,ev.rel.tabs,ev.rel.gnt⟩,ev.same,fun b o n t e=>ev.keep b o (fun z=>n (a6W z)) t e,ev.live,fun b e n g=>ev.stay b e (fun z=>n (a6W z)) g,fun a z=>.inl ?_,fun i w e hp=>⟨rfl,?_⟩,rfl⟩
 ·obtain⟨k,w,w2,h1,h2,h3,h4⟩:=a6V ho e
  have hi:i<σ.length:=by have:=(Qb.mp h2).1;rw[←r.len];exact this
  have old:w=.dat d->∃v,σ[i]? =some (some v)/\Rep K G' v d:=fun z=>by
   subst z;obtain⟨v,e1,e2⟩:=r.dat i d h2;exact⟨v,e1,Rep.mono ev.same d e2⟩
  cases k with
  |false=>simp only[a0H,Zl]at h4;exact old h4
  |true=>
   rcases b5r h4 with z|⟨z,d0,z0⟩
   ·exact old z
   ·subst z
    obtain⟨v,q1,q2⟩:=ev.rel.dat i d h3;obtain⟨a0,xs0,p1,_⟩:=r.own i _ d0 h2 z0;rw[hσ i hi,a4o h1 p1]at q1;cases q1;exact⟨_,p1,q2⟩
 ·obtain⟨w0,d0,_,_,_,_,q⟩:=mutO i w ds e1 e2
  exact q
 ·obtain⟨w0,d0,y1,y2,_⟩:=mutO i w ds q1 q2
  obtain⟨w1,d1,y3,y4,_⟩:=mutO j w' es q3 q4;exact r.inj i j w0 w1 d0 d1 a y1 y2 y3 y4 q5 q6
 ·obtain⟨m,hm⟩:=own_mut qo
  obtain⟨w0,d0,y1,_,y3,_⟩:=mutO i _ m q1 hm;exact r.fresh i w0 a y1 (y3.trans qo) q2
 ·obtain⟨i,w,ds,e1,e2,e3⟩:=z
  obtain⟨w0,d0,y1,y2,_⟩:=mutO i w ds e1 e2;exact⟨i,w0,d0,y1,y2,e3⟩
 ·obtain⟨m,hm⟩:=par_mut hp
  obtain⟨w0,d0,y1,_,_,y4,_⟩:=mutO i _ m e hm;exact⟨w0,y1,y4.trans hp⟩
theorem Ev.swapAt{p:Addr}{o:HO}(ev:Ev K B G σ env H G' σ' env' H')(no:¬ Owned σ env p)(hp:H p≠none)(gp:G p=none)(nt:NT o)(nx:∀φ,H' p≠some (.ext φ)):Ev K B G σ env (upd H p o) G' σ' env' (upd H' p o):=by
 have np:∀(i:Nat) (w:W) (ds:Mu) (a:Addr),env'[i]? =some w->w.mut=some ds->σ'[i]? =some (some (V.ref a))->a≠p:=fun i w ds a e1 e2 e3 z=>by
  rcases ev.sub a ⟨i,w,ds,e1,e2,e3⟩with q|q
  ·exact no (z ▸ q)
  ·exact hp (z ▸ q)
 have gp':G' p=none:=ev.stay p hp no gp
 have live':∀b,H' b≠none->(upd H' p o) b≠none:=fun b h=>by
  by_cases hb:b=p
  ·subst hb;rw[y3_];simp
  ·rw[q4_ hb];exact h
 refine⟨⟨fun b u e=>?_,ev.rel.len,ev.rel.dat,fun i w ds e1 e2=>?_,ev.rel.inj,ev.rel.fresh,fun b h=>live' b (ev.rel.old b h),ev.rel.tabs.upd nt nx,ev.rel.gnt⟩,ev.same,fun b u n t e=>?_,fun b e=>?_,fun b e n g=>?_,fun a z=>?_,ev.par,ev.slen⟩
 ·have hb:b≠p:=fun z=>by rw[z,gp']at e;cases e
  rw[q4_ hb];exact ev.rel.sub b u e
 ·obtain⟨a,xs,e3,e4,e5,e6⟩:=ev.rel.own i w ds e1 e2
  exact⟨a,xs,e3,by rw[q4_ (np i w ds a e1 e2 e3)];exact e4,e5,e6⟩
 ·by_cases hb:b=p
  ·subst hb;rw[y3_]at e ⊢;exact e
  ·rw[q4_ hb]at e ⊢;exact ev.keep b u n t e
 ·by_cases hb:b=p
  ·subst hb;rw[y3_];simp
  ·rw[q4_ hb]at e ⊢;exact ev.live b e
 ·by_cases hb:b=p
  ·subst hb;exact gp'
  ·rw[q4_ hb]at e;exact ev.stay b e n g
 ·obtain⟨i,w,ds,e1,e2,e3⟩:=id z
  rw[q4_ (np i w ds a e1 e2 e3)];exact ev.sub a z
end
def k9_(g:OZ)(t:Mo Bool)(m:Mo D):List D->Mo (List D)
 |[],env=>some ([],env)
 |d::ds,env=>(g d env).bind fun e1=>(t e1).bind fun p=>if p.1 then(m p.2).bind fun q=>(k9_ g t m ds q.2).map fun r=>(q.1::r.1,r.2)else k9_ g t m ds p.2
def v6_(mi:Mo (List D))(keep:List Bool)(more:Nat)(g:OZ)(t:Mo Bool)(m:Mo D):Mo (List D):=fun env=>(mi env).bind fun p=>if p.1.length≤100000 then
 (k9_ g t m p.1 (w6_ keep more p.2)).bind fun q=>(w7_ keep p.2 q.2).map fun e=>(q.1,e)else none
def v9_:Mo Bool:=fun env=>some (true,env)
theorem u3_{X:Cx}{B:OA}:a1D X [] (TTm X.K B v9_):=fun pins s σ H Q I h=>by
 obtain⟨G,env,b,env',rl,e,k⟩:=h;cases e;exact b5m pins s σ H Q I (k G H (.refl rl))
theorem b0d{X:Cx}{B:OA}{c:Expr}{t:Mo Bool}(h:ET X B c t):a1D X [c] (TTm X.K B t):=b5n h
theorem b0e{K:Qq}{B:OA}{mi:Mo (List D)}{keep:List Bool}{more n:Nat}{g:OZ}{t:Mo Bool}{m:Mo D}(hkl:keep.length=n):
  ∀(σ:St) H Q,σ.length=n->TL K B (v6_ mi keep more g t m) σ H Q->a6U (TIm K B mi) keep more (TGm K B n g) (TTm K B t) (TD K B m) σ H Q:=by
 rintro σ H Q hσn ⟨G,env,total,env',rl,e,k⟩;obtain⟨⟨items,env1⟩,e1,e2⟩:=q1_ e;dsimp only at e2;split at e2
 ·rename_i hlen
  obtain⟨⟨total',envF⟩,e3,e4⟩:=q1_ e2;obtain⟨env'',e5,e6⟩:=v8_ e4;cases e6;refine⟨G,env,items,env1,rl,e1,fun J G1 H1 ev1 itd p hp=>?_⟩
  have hk:keep.length=σ.length:=by rw[hkl,hσn]
  have gp:G1 p=none:=ev1.rel.gnone hp
  have no1:¬ Owned σ env1 p:=ev1.rel.unowned hp
  have no:¬ Owned (k7_ keep more σ) (w6_ keep more env1) p:=fun z=>no1 (a6W z)
  have relS:∀ys,Rel K B G1 σ env1 (upd H1 p (.lst ys)):=fun ys=>(ev1.rel.allocM hp).rel
  refine⟨fun i m' σ2 H2=>m'=items.length-i/\i≤items.length/\∃G2 env2 ys acc rest,Ev K B G1 (k7_ keep more σ) (w6_ keep more env1) (upd H1 p (.lst ys)) G2 σ2 env2 H2/\(∀j,j<n->σ2[j]? =(k7_ keep more σ)[j]?)/\
   z6_ K G2 ys acc/\k9_ g t m (items.drop i) env2=some (rest,envF)/\acc++rest=total'/\acc.length≤i,⟨_,rfl,Jd _,G1,_,[],[],total',.refl ((relS []).ext hk),fun _ _=>rfl,repL_nil,by simpa using e3,by simp,Qw _⟩,?_⟩
  rintro i m' σ2 H2 ⟨rfl,hi,G2,env2,ys,acc,rest,ev2,y2,r2,c2,t2,l2⟩;have hpS:(upd H1 p (.lst ys)) p=some (.lst ys):=y3_;have hp2:H2 p=some (.lst ys):=ev2.keep p _ no nt_lst hpS;have lH:Le G1 H2:=ev2.same.trans ev2.rel.sub
  by_cases hlt:i<items.length
  ·refine .inr ⟨itd.go i H2 lH hlt,fun x H3 y=>?_⟩
   have ed:items.drop i=items[i]::items.drop (i+1):=List.drop_eq_getElem_cons hlt
   rw[ed]at c2;obtain⟨env4,e7,e8⟩:=q1_ c2;obtain⟨⟨b,env5⟩,e9,e10⟩:=q1_ e8;have hget:items[i]? =some items[i]:=by simp[hlt]
   have st:∃G3,Ev K B G1 (k7_ keep more σ) (w6_ keep more env1) (upd H1 p (.lst ys)) G3 σ2 env2 H3/\Le G2 G3/\Rep K G3 x items[i]:=by
    rcases itd.yld i H2 x H3 items[i] lH y hget with⟨rfl,r⟩|⟨q,o,hno,hq,rfl,r⟩
    ·exact⟨G2,ev2,Le.refl,Rep.mono ev2.same _ r⟩
    ·have gq:=ev2.rel.gnone hq
     refine⟨upd G2 q o,ev2.trans (ev2.rel.alloc hq hno),Le.upd gq,Rep.mono (fun b u z=>?_) _ r⟩
     by_cases hb2:b=q
     ·subst hb2;rw[y3_]at z ⊢;exact z
     ·rw[q4_ hb2]at z ⊢;exact ev2.same b u z
   obtain⟨G3,ev3,l3,r3⟩:=st;refine⟨G3,env2,items[i],env4,ev3.rel,r3,e7,fun σ4 G4 H4 ev4 y4=>?_⟩
   refine⟨G4,env4,b,env5,ev4.rel,e9,fun G5 H5 ev5=>?_⟩
   have ev6:=(ev3.trans ev4).trans ev5
   have r5:z6_ K G5 ys acc:=z6_.mono ((l3.trans ev4.same).trans ev5.same) acc r2
   have y5:∀j,j<n->σ4[j]? =(k7_ keep more σ)[j]?:=fun j hj=>(y4 j hj).trans (y2 j hj)
   cases b with
   |true=>
    simp only[Zs]at e10 ⊢;obtain⟨⟨d7,env7⟩,e11,e12⟩:=q1_ e10;obtain⟨⟨rest8,env8⟩,e13,e14⟩:=v8_ e12;cases e14;refine .bind ev5.rel e11 fun v G7 H7 ev7 r7=>?_
    have ev8:=ev6.trans ev7
    have hp7:H7 p=some (.lst ys):=ev8.keep p _ no nt_lst hpS
    refine⟨ys,hp7,by rw[r2.length];exact Xq l2 (Ql hlt (Qt hlen (by decide))),items.length-(i+1),by omega,rfl,hlt,G7,env7,ys++[v],acc++[d7],rest8,?_,y5,(z6_.mono ev7.same acc r5).append (repL_cons r7 repL_nil),e13,by rw[Jf];exact t2,by rw[Qs];simp;omega⟩
    have:=ev8.swapAt (o:=.lst (ys++[v])) no (by rw[hpS];simp) gp nt_lst (fun φ z=>by rw[ev8.keep p _ no nt_lst hpS]at z;cases z)
    rwa [a8H]at this
   |false=>
    simp only[Zn,Jv]at e10 ⊢;exact⟨items.length-(i+1),by omega,rfl,hlt,G5,env5,ys,acc,rest,ev6,y5,r5,e10,t2,by omega⟩
  ·have ei:i=items.length:=by omega
   subst ei;rw[List.drop_length]at c2;cases c2;rw[Je]at t2;subst t2;refine .inl ⟨itd.stop _ H2 lH (Qw _),?_⟩;have evO:=Ev.out (relS ys) hk ev2 (fun j hj=>y2 j (by omega)) e5
   have evA:=ev1.trans ((ev1.rel.allocM (o:=.lst ys) hp).trans evO)
   have hpn:H p=none:=by
    cases q:H p with
    |none=>rfl
    |some o=>exact absurd hp (ev1.live p (by rw[q];simp))
   refine k p ys G2 H2 evA hpn (fun z=>?_) hp2 (ev2.stay p (by rw[hpS];simp) no gp) r2
   rcases evO.sub p z with q|q
   ·exact no1 q
   ·rw[hpS]at q;cases q
 ·cases e2
section
variable{X:Cx}{B:OA}{N':List Str}{scope:Scope}{keep:List Bool}{more:Nat}{tg iter elt:Expr}{ifs:List Expr}{g:OZ}{t:Mo Bool}{m:Mo D}{mi:Mo (List D)}{pos:Pos}
theorem g7_(ok:CompOk X N' scope keep more)(hc:X.calm=true)(hi:EI X B tg iter mi)(hg:∀s H fp,EG (k6_ X N' scope s H fp) B X.N.length tg g)(ht:∀s H fp,a1D (k6_ X N' scope s H fp) ifs (TTm X.K B t))(he:∀s H fp,ED (k6_ X N' scope s H fp) B elt m)
  (hs:∀x,foldedSetIterable iter X.env x=pure x:=by intro _;rfl):EL X B (.ListComp elt [⟨tg,iter,ifs,0⟩] scope pos) (v6_ mi keep more g t m):=by
 intro pins s σ H Q I h;exact b5o ok hc hi hg ht he hs pins s σ H Q I (b0e ok.klen σ H Q I.len h)
theorem b5s{i:Nat}{y:Str}{py spos:Pos}(ok:CompOk X N' scope keep more)(hc:X.calm=true)(hN:X.N.Nodup)(hy:X.N[i]? =some y)(hyl:X.env.scope.names.lookup y=some .local)
  (hsw:swapsWith (.ListComp elt [⟨tg,iter,ifs,0⟩] scope pos) (some (.Name y py)) spos.line X.env=pure true)
  (hi:EI X B tg iter mi)(hg:∀s H fp,EG (k6_ X N' scope s H fp) B X.N.length tg g)(ht:∀s H fp,a1D (k6_ X N' scope s H fp) ifs (TTm X.K B t))(he:∀s H fp,ED (k6_ X N' scope s H fp) B elt m)
  (hs:∀x,foldedSetIterable iter X.env x=pure x:=by intro _;rfl):ES X B (.Assign [.Name y py] (.ListComp elt [⟨tg,iter,ifs,0⟩] scope pos) spos) (u7_ i (v6_ mi keep more g t m)):=by
 intro pins s σ H D I h;obtain⟨G,env,fl,env',rl,e,k⟩:=h;obtain⟨⟨d,env1⟩,e1,e2⟩:=v8_ e;cases e2;exact b5p ok hc hN hy hyl hsw hi hg ht he hs pins s σ H D I (b0e ok.klen σ H _ I.len ⟨G,env,d,_,rl,e1,fun a xs G' H' ev ha no h' g' r=>k _ G' H' (ev.setOwn (fun z=>rl.old a z ha) ha no h' g' r)⟩)
end
section
variable{X:Cx}{B:OA}{pos:Pos}{a b c e:Expr}{ma mb mc:Mo D}{ms:Mo (List D)}{es:List Expr}
def tyD:D->String
 |.non=>"NoneType"|.bl _=>"bool"|.int _=>"int"|.str _=>"str"|.tup _=>"tuple"|.lst _=>"list"|.emp=>"dict"|.obj _=>"object"|.dct _ _=>"dict"
def k1_(K:Qq)(T:String):Prop:=T∈(["tuple","list","int","bool","str"]:List String)
def a0f(t T:String):Bool:=t==T||(t=="bool"&&T=="int")
theorem a6X{K:Qq}{T:String}(h:k1_ K T):∀d,(∀o,d≠.obj o)->PySem.W.kitOne K (.type (tyD d)) (.type T)=some (a0f (tyD d) T):=by
 intro d hd;unfold k1_ at h;simp only[Qm,Zb,Jq]at h
 rcases h with rfl|rfl|rfl|rfl|rfl<;>cases d<;>first|rfl|exact absurd rfl (hd _)
theorem b5t{pins:OX}{σ:St}{G H:Hp}{s:Shared}{A:Around}{E:OE}{Q:OE}{T:String}{x:V}{u:Value}{d:D}(I:Inv X pins σ H s)(l:Le G H)(rx:q9_ x u)(rp:Rep X.K G x d)
  (kt:k1_ X.K T)(h:∀tk,Q (.bool (a0f (tyD d) T)) {s with toks:=tk}):wpAny (model X.prog X.w) A (call (.builtin "isinstance") [u,.type T]) Q E s:=by
 have e:=a6X kt d
 cases d with
 |non=>simp only[Rep]at rp;subst rp;exact a3g I rx (.non) (e nofun) h
 |bl b=>simp only[Rep]at rp;subst rp;exact a3g I rx (.bl b) (e nofun) h
 |int i=>simp only[Rep]at rp;subst rp;exact a3g I rx (.int i) (e nofun) h
 |str z=>simp only[Rep]at rp;obtain⟨rp,_⟩:=rp;subst rp;exact a3g I rx (.str z) (e nofun) h
 |tup ds=>
  simp only[Rep]at rp;obtain⟨a,xs,rfl,q,_⟩:=rp;cases rx;obtain⟨its,_,⟨o,h1,h2,_⟩,_⟩:=I.tuple (l.sqT q);exact Zu Vo I.kIn ⟨o,h1,h2⟩ (e nofun) (fun z=>nomatch z) h
 |lst ds=>
  simp only[Rep]at rp;obtain⟨a,xs,rfl,q,_⟩:=rp;cases rx;obtain⟨its,_,⟨o,n,h1,h2,_⟩,_⟩:=I.list (l.sqL q);exact Zu Vq I.kIn ⟨o,h1,h2⟩ (e nofun) (fun z=>nomatch z) h
 |emp=>
  simp only[Rep]at rp;obtain⟨a,kvs,rfl,q⟩:=rp;exact a3g I rx (.dK (l _ _ q)) (e nofun) h
 |dct ks vs=>
  simp only[Rep]at rp;obtain⟨a,kvs,rfl,q,_⟩:=rp;exact a3g I rx (.dT (l _ _ q)) (e nofun) h
 |obj o=>
  have h0:a0f "object" T=false:=by
   unfold k1_ at kt;simp only[Qm,Zb,Jq]at kt
   rcases kt with rfl|rfl|rfl|rfl|rfl<;>rfl
  have h':∀tk,Q (.bool false) {s with toks:=tk}:=fun tk=>by have:=h tk;rwa [show a0f (tyD (.obj o)) T=false from h0]at this
  simp only[Rep]at rp;cases o with
  |exc n=>
   obtain⟨a,C,HP,rfl,_,h3,h4,h5⟩:=rp;cases rx;exact Zu h4 I.kIn (I.hok a _ (l _ _ h3)).1 (h5 T kt) (fun z=>nomatch z) h'
  |fn n=>
   obtain⟨f,rfl,_,h4⟩:=rp;cases rx;refine Zu h4 I.kIn True.intro ?_ (fun z=>nomatch z) h'
   unfold k1_ at kt;simp only[Qm,Zb,Jq]at kt
   rcases kt with rfl|rfl|rfl|rfl|rfl<;>rfl
  |dk kvs=>
   obtain⟨a,rfl,q⟩:=rp;obtain⟨_,_,vs,_,dd⟩:=(show x5_ X.prog X.w H s.heap a (.dK _)from I.hok a _ (l _ _ q))
   obtain⟨o,h1,h2⟩:∃o,s.heap.get? a=some o/\o.cls=.type "dict":=by
    obtain⟨o,es,ep,g1,g2,_⟩:=dd;exact⟨o,g1,g2.1⟩
   cases rx;refine Zu Jg I.kIn ⟨o,h1,h2⟩ ?_ (fun z=>nomatch z) h'
   unfold k1_ at kt;simp only[Qm,Zb,Jq]at kt
   rcases kt with rfl|rfl|rfl|rfl|rfl<;>rfl
theorem a2a{K:Qq}:k1_ K "tuple":=by simp[k1_]
theorem a6Y{K:Qq}:k1_ K "list":=by simp[k1_]
theorem b0f{K:Qq}:k1_ K "int":=by simp[k1_]
theorem a5p{K:Qq}:k1_ K "bool":=by simp[k1_]
theorem b5u{K:Qq}:k1_ K "str":=by simp[k1_]
def mIs(T:String)(m:Mo D):Mo D:=fun env=>(m env).map fun p=>(.bl (a0f (tyD p.1) T),p.2)
theorem u8_{T:String}{y:Str}{p p2:Pos}(kt:k1_ X.K T)(ha:ED X B a ma)(hg:Gl X "isinstance")(hm:X.mg "isinstance"=none)(hgT:Gl X y)(hmT:X.mg y=none)(hvT:bootBuiltins y=some (.type T))
  (hnT:y≠"__name__":=by decide)(hdT:(y==("__debug__":Str))=false:=by decide)
  (he:starEach [a,.Name y p2] X.env=[(false,eval a X.env),(false,eval (.Name y p2) X.env)]:=by rfl):ED X B (.Call (.Name "isinstance" p) [a,.Name y p2] [] pos) (mIs T ma):=by
 have hT:PE X (.Name y p2) (tC (.ty T)):=a4T hgT hmT hvT rfl hnT hdT
 have hc:k3_ X (.builtin "isinstance") (fun xs H Q=>∃x G d,xs=[x,.ty T]/\Le G H/\Rep X.K G x d/\Q (.bl (a0f (tyD d) T)) H):=by
  intro pins s σ H xs us Q I r h;obtain⟨x,G,d,rfl,l,rp,q⟩:=h;obtain⟨u,w',rfl,r1,r2⟩:=a1O r;cases r2;exact b5t I l r1 rp kt fun tk=>⟨.bl _,H,I.tok _,rfl,q⟩
 have h1:starEach [Expr.Name y p2] X.env=[(false,eval (.Name y p2) X.env)]:=rfl
 refine pe_imp (a2x (pos:=pos) (p:=p) hc hg hm (by decide+kernel) (u0_ ha (u0_ hT a0R) he) (he:=he)) ?_
 rintro σ H Q ⟨G,env,d,env',rl,e,k⟩;obtain⟨⟨d1,env1⟩,e1,e2⟩:=v8_ e;cases e2;exact .bind rl e1 fun v G1 H1 ev r=>⟨v,G1,d1,rfl,ev.rel.sub,r,k _ G1 H1 ev (by simp only[Rep])⟩
def a0p:List D->Option Bool
 |[]=>some true
 |.bl b::r=>(a0p r).map fun k=>b&&k
 |_::_=>none
def a1m:List D->Option D
 |[.lst ds]=>(a0p ds).map fun k=>.bl k
 |_=>none
theorem b0g{K:Qq}{G:Hp}:∀{ds:List D}{xs:List V}{us:List Value}{k:Bool},z6_ K G xs ds->q3_ xs us->a0p ds=some k->∃bs,LSm.BoolsAre us bs/\bs.all id=k
 |[],_,us,k,r,v,e=>by
  simp only[z6_]at r;subst r;cases v;cases e;exact⟨[],.nil,rfl⟩
 |d::ds,_,us,k,r,v,e=>by
  simp only[z6_]at r;obtain⟨x,t,rfl,q,r⟩:=r;cases d<;>first|(exact absurd (show(none:Option Bool)=some k from e) (by simp))|skip
  obtain⟨k',e1,e2⟩:=v8_ (show(a0p ds).map _=some k from e)
  simp only[Rep]at q;subst q;cases v with
  |cons v1 v2=>
   cases v1;obtain⟨bs,h1,h2⟩:=b0g r v2 e1;exact⟨_::bs,.cons _ h1,by rw[←e2,←h2];rfl⟩
theorem a3s(hc:X.calm=true):k3_ X (.builtin "all") (fun xs H Q=>∃p G ys ds k,xs=[.ref p]/\Le G H/\SqL X.K G p ys/\z6_ X.K G ys ds/\a0p ds=some k/\Q (.bl k) H):=by
 intro pins s σ H xs us Q I r h;obtain⟨p,G,ys,ds,k,rfl,l,hq,rp,ek,q⟩:=h;obtain⟨u,rfl,rx⟩:=a1x r;cases rx;obtain⟨its,r',pl,hz⟩:=I.list (l.sqL hq);obtain⟨bs,hb,hk⟩:=b0g rp r' ek;have hh:X.A.handled=none:=I.ok.hd hc;have hl:=pl.isList;have hlt:p<s.heap.objs.size:=by obtain⟨_,e,_⟩:=hl;exact Qu e
 refine call_all_walk (Vz hl ?_);refine⟨s.heap.objs.size,[s.heap.objs.size,p],[s.heap.objs.size],its.toArray.size,_,_,fun i=>(bs[i]?).getD true,rfl,Walks.list (A:=X.A.in1) hh _ p (Qi hlt) its.toArray,
  ⟨⟨_,Qh _ rfl,rfl,rfl⟩,hl.push _⟩,fun i v s' Q' E' hP hQ=>?_,fun h' tk hk'=>?_⟩
 ·obtain⟨b,e,rfl⟩:=hb.get i v (by simpa using hP)
  simp only[e,Option.getD_some]at hQ;exact Yq hQ
 ·have e:((List.range its.toArray.size).all fun i=>(bs[i]?).getD true)=bs.all id:=by
   rw[Qp,hb.length];exact LSm.range_all bs
  rw[e,hk];exact⟨.bl k,H,I.kept (t':=tk) (LSm.kept_iter hk'),rfl,q⟩
theorem a3t:a0U X B (fun xs H Q=>∃p G ys ds k,xs=[.ref p]/\Le G H/\SqL X.K G p ys/\z6_ X.K G ys ds/\a0p ds=some k/\Q (.bl k) H) a1m:=by
 intro G σ env H xs ds c Q rl r e k;unfold a1m at e;split at e
 ·rename_i ds
  obtain⟨x,rfl,q⟩:=a0A r;obtain⟨k',e1,e2⟩:=v8_ e;subst e2;simp only[Rep]at q;obtain⟨a,ys,rfl,h1,h2⟩:=q;exact⟨a,G,ys,ds,k',rfl,rl.sub,h1,h2,e1,k _ G H (.refl rl) (by simp only[Rep])⟩
 ·cases e
def a3u:List D->Option D
 |[.int i,.int j]=>some (.int (if j>i then j else i))
 |_=>none
def a3v:List D->Option D
 |[.int i,.int j]=>some (.int (if j<i then j else i))
 |_=>none
def a6Z:List D->Option D
 |[.int i]=>some (.int i)
 |[.bl k]=>some (.int (if k then 1 else 0))
 |_=>none
theorem b5v:a0U X B (fun xs H Q=>∃i j,xs=[.int i,.int j]/\Q (.int (if j>i then j else i)) H) a3u:=by
 intro G σ env H xs ds c Q rl r e k;unfold a3u at e;split at e
 ·rename_i i j
  cases e;obtain⟨x,y,rfl,q1,q2⟩:=a6F r;simp only[Rep]at q1 q2;subst q1 q2;exact⟨i,j,rfl,k _ G H (.refl rl) (by simp only[Rep])⟩
 ·cases e
theorem b5w:a0U X B (fun xs H Q=>∃i j,xs=[.int i,.int j]/\Q (.int (if j<i then j else i)) H) a3v:=by
 intro G σ env H xs ds c Q rl r e k;unfold a3v at e;split at e
 ·rename_i i j
  cases e;obtain⟨x,y,rfl,q1,q2⟩:=a6F r;simp only[Rep]at q1 q2;subst q1 q2;exact⟨i,j,rfl,k _ G H (.refl rl) (by simp only[Rep])⟩
 ·cases e
theorem b5x:a0U X B (fun xs H Q=>(∃i,xs=[.int i]/\Q (.int i) H)∨ ∃k,xs=[.bl k]/\Q (.int (if k then 1 else 0)) H) a6Z:=by
 intro G σ env H xs ds c Q rl r e k;unfold a6Z at e;split at e
 ·rename_i i
  cases e;obtain⟨x,rfl,q1⟩:=a0A r;simp only[Rep]at q1;subst q1;exact .inl ⟨i,rfl,k _ G H (.refl rl) (by simp only[Rep])⟩
 ·rename_i b
  cases e;obtain⟨x,rfl,q1⟩:=a0A r;simp only[Rep]at q1;subst q1;exact .inr ⟨b,rfl,k _ G H (.refl rl) (by simp only[Rep])⟩
 ·cases e
def ints?:List D->Option (List Int)
 |[]=>some []
 |.int i::r=>(ints? r).map fun l=>i::l
 |_::_=>none
theorem a4q{K:Qq}{G:Hp}:∀{ds:List D}{xs:List V}{ns:List Int},z6_ K G xs ds->ints? ds=some ns->xs=ns.map V.int
 |[],_,ns,r,e=>by simp only[z6_]at r;subst r;cases e;rfl
 |d::ds,_,ns,r,e=>by
  simp only[z6_]at r;obtain⟨x,t,rfl,q,r⟩:=r;cases d<;>first|(exact absurd (show(none:Option (List Int))=some ns from e) (by simp))|skip
  obtain⟨l,e1,e2⟩:=v8_ (show(ints? ds).map _=some ns from e)
  subst e2;simp only[Rep]at q;subst q;rw[a4q r e1];rfl
def dIn(neg:Bool):D->D->Option D
 |.int i,d=>d.items.bind fun ds=>(ints? ds).map fun ns=>.bl (if neg then !ns.contains i else ns.contains i)
 |_,_=>none
theorem b5y(ns:List Int):(ns.map V.int).all a0E=true:=by
 induction ns with
 |nil=>rfl
 |cons n ns ih=>simp[a0E,ih]
theorem b5z(i:Int)(ns:List Int):inV (.int i) (ns.map V.int)=ns.contains i:=by
 unfold inV
 induction ns with
 |nil=>rfl
 |cons n ns ih=>
  rw[Qg,Xj,ih,Ut]
  congr 1
  show(n==i)=(i==n);exact Bool.beq_comm ..
theorem b0h{neg:Bool}:OpD X B (rIn X.K neg) (dIn neg):=by
 intro G σ env H x y a b d Q rl ra rb e k;cases a<;>first|(exact absurd (show(none:Option D)=some d from e) (by simp))|skip
 rename_i i;obtain⟨ds,e1,e2⟩:=q1_ (show b.items.bind _=some d from e)
 obtain⟨ns,e3,e4⟩:=v8_ e2;subst e4;simp only[Rep]at ra;subst ra;obtain⟨p,xs,rfl,h1,h2⟩:=a9P rl.sub rb e1;have hx:=a4q h2 e3;subst hx;exact⟨p,_,rfl,h1,rfl,b5y ns,k _ G H (.refl rl) (by rw[b5z];simp only[Rep])⟩
end
section
variable{X:Cx}{pins:OX}{σ:St}{G H:Hp}{s:Shared}
end
mutual
def toP:D->PyData
 |.non=>.none
 |.bl b=>.bool b
 |.int i=>.int i
 |.str x=>.str x
 |.tup ds=>.tuple (a0g ds)
 |.lst ds=>.list (a0g ds)
 |.emp=>.dict []
 |.obj _=>.dict []
 |.dct _ _=>.dict []
def a0g:List D->List PyData
 |[]=>[]
 |d::ds=>toP d::a0g ds
end
def shp(d:D):Bool:=SeqAt.shaped (toP d)
section
variable{X:Cx}{B:OA}{pins:OX}{σ:St}{G H:Hp}{s:Shared}
mutual
theorem reads_of(I:Inv X pins σ H s)(l:Le G H):∀(d:D) (x:V) (u:Value),(toP d).canLay0=true->q9_ x u->Rep X.K G x d->∃as,Reads s.heap u (toP d) as
 |.non,x,u,c,r,p=>by simp only[Rep]at p;subst p;cases r;exact⟨_,.none⟩
 |.bl b,x,u,c,r,p=>by simp only[Rep]at p;subst p;cases r;exact⟨_,.bool b⟩
 |.int i,x,u,c,r,p=>by simp only[Rep]at p;subst p;obtain⟨t,rfl⟩:=r;exact⟨_,.int i t⟩
 |.str z,x,u,c,r,p=>by simp only[Rep]at p;obtain⟨p,_⟩:=p;subst p;obtain⟨t,rfl⟩:=r;exact⟨_,.str z t⟩
 |.tup ds,x,u,c,r,p=>by
  simp only[Rep]at p;obtain⟨a,xs,rfl,q,rp⟩:=p;cases r;obtain⟨its,rv,⟨o,h1,h2,n,h3⟩,_⟩:=I.tuple (l.sqT q);have hc:PyData.canLayAll0 (a0g ds)=true:=by simpa [toP,PyData.canLay0]using c
  obtain⟨as,h⟩:=readsAll_of I l ds xs its hc rv rp;exact⟨_,.tuple h1 h2 h3 (by simpa using h)⟩
 |.lst ds,x,u,c,r,p=>by
  simp only[Rep]at p;obtain⟨a,xs,rfl,q,rp⟩:=p;cases r;obtain⟨its,rv,⟨o,n,h1,h2,_,h3⟩,_⟩:=I.list (l.sqL q);have hc:PyData.canLayAll0 (a0g ds)=true:=by simpa [toP,PyData.canLay0]using c
  obtain⟨as,h⟩:=readsAll_of I l ds xs its hc rv rp;exact⟨_,.list h1 h2 h3 (by simpa using h)⟩
 |.emp,x,u,c,r,p=>by simp[toP,PyData.canLay0]at c
 |.obj _,x,u,c,r,p=>by simp[toP,PyData.canLay0]at c
 |.dct _ _,x,u,c,r,p=>by simp[toP,PyData.canLay0]at c
theorem readsAll_of(I:Inv X pins σ H s)(l:Le G H):∀(ds:List D) (xs:List V) (us:List Value),PyData.canLayAll0 (a0g ds)=true->q3_ xs us->z6_ X.K G xs ds->∃as,ReadsAll s.heap us (a0g ds) as
 |[],xs,us,c,v,p=>by simp only[z6_]at p;subst p;cases v;exact⟨_,.nil⟩
 |d::ds,xs,us,c,v,p=>by
  simp only[z6_]at p;obtain⟨x,r,rfl,q,t⟩:=p;have hc:(toP d).canLay0=true/\PyData.canLayAll0 (a0g ds)=true:=by simpa [a0g,PyData.canLayAll0]using c
  cases v with
  |cons v1 v2=>
   obtain⟨as,h1⟩:=reads_of I l d x _ hc.1 v1 q;obtain⟨bs,h2⟩:=readsAll_of I l ds r _ hc.2 v2 t;exact⟨_,.cons h1 h2⟩
end
def rEqD(K:Qq)(neg:Bool):R2:=fun x y H Q=>∃G a b,Le G H/\Rep K G x a/\Rep K G y b/\shp a=true/\shp b=true/\Q (.bl (if neg then !PyData.eqv (toP a) (toP b)else PyData.eqv (toP a) (toP b))) H
theorem op_eqD(hu:X.A.units+64<cLine):OpR X (compareOp .Eq) (rEqD X.K false):=by
 intro pins s σ H x y v u Q I rx ry h;obtain⟨G,a,b,l,ra,rb,ha,hb,q⟩:=h;obtain⟨as,h1⟩:=reads_of I l a x v (Uw ha) rx ra;obtain⟨bs,h2⟩:=reads_of I l b y u (Uw hb) ry rb;exact eq_dataH h1 h2 ha hb hu ⟨.bl _,H,I,rfl,q⟩
theorem op_neD(hu:X.A.units+64<cLine):OpR X (compareOp .NotEq) (rEqD X.K true):=by
 intro pins s σ H x y v u Q I rx ry h;obtain⟨G,a,b,l,ra,rb,ha,hb,q⟩:=h;obtain⟨as,h1⟩:=reads_of I l a x v (Uw ha) rx ra;obtain⟨bs,h2⟩:=reads_of I l b y u (Uw hb) ry rb;exact ne_dataH h1 h2 ha hb hu ⟨.bl _,H,I,rfl,q⟩
def dEq(neg:Bool):D->D->Option D:=fun a b=>if shp a&&shp b then some (.bl (if neg then !PyData.eqv (toP a) (toP b)else PyData.eqv (toP a) (toP b)))else none
theorem opd_eq{neg:Bool}:OpD X B (rEqD X.K neg) (dEq neg):=by
 intro G σ env H x y a b d Q rl ra rb e k;unfold dEq at e;split at e
 ·rename_i h
  rw[Qy]at h;cases e;exact⟨G,a,b,rl.sub,ra,rb,h.1,h.2,k _ G H (.refl rl) (by simp only[Rep])⟩
 ·cases e
end
section
variable{X:Cx}{B:OA}
def rCatT'(K:Qq):R2:=fun x y H Q=>∃a b xs ys,x=.ref a/\y=.ref b/\SqT K H a xs/\SqT K H b ys/\xs.length+ys.length≤sizeLine/\
 (xs=[]->Q (.ref b) H)/\(ys=[]->Q (.ref a) H)/\(∀p,H p=none->Q (.ref p) (upd H p (.tup (xs++ys))))
theorem op_catT':OpR X (binaryOp .Add) (rCatT' X.K):=by
 intro pins s σ H x y v u Q I rx ry h;obtain⟨a,b,xs,ys,rfl,rfl,ha,hb,hz,q0,q1,q2⟩:=h;cases rx;cases ry;obtain⟨vs,r1,p1,_⟩:=I.tuple ha;obtain⟨ws,r2,p2,_⟩:=I.tuple hb;have hsz:vs.length+ws.length≤sizeLine:=by rw[←r1.length,←r2.length];exact hz
 obtain⟨⟨cls,dd,data,sl⟩,ho,hc,n,hd⟩:=id p1;obtain⟨⟨cls2,dd2,data2,sl2⟩,ho2,hc2,n2,hd2⟩:=id p2;simp only at hc hd hc2 hd2;subst hc hd hc2 hd2;have e:vs.toArray++ws.toArray=(vs++ws).toArray:=by simp
 by_cases hv:vs=[]
 ·exact concat_meets ⟨_,ho,rfl⟩ ⟨_,ho2,rfl⟩ noFill_tuple_add seq_tuple_add Vv Uo (Ua _ _)
   (tuple_addW0 a b vs.toArray ws.toArray n n2 dd dd2 sl sl2 (by simp[hv])) ⟨ho,ho2,⟨.ref b,H,I,rfl,q0 (r1.nil_iff.mp hv)⟩⟩
 ·by_cases hw:ws=[]
  ·exact concat_meets ⟨_,ho,rfl⟩ ⟨_,ho2,rfl⟩ noFill_tuple_add seq_tuple_add Vv Uo (Ua _ _)
    (tuple_addW1 a b vs.toArray ws.toArray n n2 dd dd2 sl sl2 (by simpa using hv) (by simp[hw])) ⟨ho,ho2,⟨.ref a,H,I,rfl,q1 (r2.nil_iff.mp hw)⟩⟩
  ·refine concat_meets ⟨_,ho,rfl⟩ ⟨_,ho2,rfl⟩ noFill_tuple_add seq_tuple_add Vv Uo (Ua _ _)
    (tuple_addW2 a b vs.toArray ws.toArray n n2 dd dd2 sl sl2 (by simpa using hv) (by simpa using hw) (by rw[Qp,Qp];exact hsz)) ⟨ho,ho2,?_⟩
   rw[e];refine⟨.ref s.heap.objs.size,_,I.laid (t':=s.toks) (o:=.tup (xs++ys)) (fun b ob q=>Qj _ q) (Qw _) ?_,rfl,q2 _ (I.hok.fresh (Qw _))⟩
   exact⟨by rw[Qs];exact hz,_,r1.append r2,a0P.new _ _⟩
def rCatL'(K:Qq):R2:=fun x y H Q=>∃a b xs ys,x=.ref a/\y=.ref b/\SqL K H a xs/\SqL K H b ys/\xs.length+ys.length≤sizeLine/\
 (∀p,H p=none->Q (.ref p) (upd H p (.lst (xs++ys))))
theorem op_catL':OpR X (binaryOp .Add) (rCatL' X.K):=by
 intro pins s σ H x y v u Q I rx ry h;obtain⟨a,b,xs,ys,rfl,rfl,ha,hb,hz,q2⟩:=h;cases rx;cases ry;obtain⟨vs,r1,p1,_⟩:=I.list ha;obtain⟨ws,r2,p2,_⟩:=I.list hb;have hsz:vs.length+ws.length≤sizeLine:=by rw[←r1.length,←r2.length];exact hz
 obtain⟨⟨cls,dd,data,sl⟩,ho,hc,n,hd⟩:=id p1.isList;obtain⟨⟨cls2,dd2,data2,sl2⟩,ho2,hc2,n2,hd2⟩:=id p2.isList;simp only at hc hd hc2 hd2;subst hc hd hc2 hd2;have e:vs.toArray++ws.toArray=(vs++ws).toArray:=by simp
 refine concat_meets ⟨_,ho,rfl⟩ ⟨_,ho2,rfl⟩ noFill_list_add seq_list_add PySem.F.slot_list_add PySem.F.entry_list_add (PySem.F.args_list_add_2 _ _)
    (list_addW a b vs.toArray ws.toArray n n2 dd dd2 sl sl2 (by rw[Qp,Qp];exact hsz)) ⟨ho,ho2,?_⟩
 rw[e];refine⟨.ref s.heap.objs.size,_,I.lnew (t':=s.toks) (r1.append r2) (by rw[Qs];exact hz),rfl,q2 _ I.fresh⟩
end
end L2.Mir
namespace L2.Mir
open PySem PySem.Spec PyProof.Rows PySem.Builtin
open AutoSeq1 (wpAny_loadPart')
theorem b5A:fillsNumberSlot (.type "tuple") "mul"=pure false:=
 PySem.fillsNumberSlot_seq (id:="tuple.__mul__") (r:=some (.builtin "tuple.__rmul__")) Vg.lookup (by decide+kernel) F.slot_tuple_rmul.lookup (by decide+kernel)
theorem b5B:seqRepeat? (.type "tuple")=pure (some (.builtin "tuple.__mul__")):=by
 unfold seqRepeat?;rw[PySem.seqSlot_of (T:="tuple") (name:="__mul__") (id:="tuple.__mul__") Vg.lookup (by decide+kernel),PySem.seqSlot_of (T:="tuple") (name:="__rmul__") (id:="tuple.__rmul__") F.slot_tuple_rmul.lookup (by decide+kernel)]
 rfl
theorem b5C(a:Int)(t:Tok)(l:Addr)(items:Array Value)(n:Nat)(dd:Option Addr)(sl:Array (Option Value)):
  Meets (Builtin.«int.__rmul__» ⟨[.int a t,.ref l],[]⟩) (fun _ R s=>s.heap.get? l=some {cls:=.type "tuple",dict:=dd,data:=.seq items n,slots:=sl}/\R (.ok (.ret Value.notImplemented)) s):=
 .of_wp fun prog w A R s h=>by obtain⟨hp,g,d,tk,os⟩:=s;obtain⟨hl,h⟩:=h;wp_walk;exact⟨_,rfl,h⟩
theorem b5D(l:Addr)(items:Array Value)(n:Nat)(dd:Option Addr)(sl:Array (Option Value))(x:Int)(u:Tok)(hx:x=1):
  Meets (Builtin.«tuple.__mul__» ⟨[.ref l,.int x u],[]⟩) (fun _ R s=>s.heap.get? l=some {cls:=.type "tuple",dict:=dd,data:=.seq items n,slots:=sl}/\R (.ok (.ret (.ref l))) s):=
 .of_wp fun prog w A R s h=>by
  obtain⟨hp,g,d,tk,os⟩:=s;obtain⟨hl,h⟩:=h;subst hx;have f1:=AutoSeq1.idx_int
  wp_walk using Jz hl
  exact⟨_,rfl,h⟩
theorem b5E(l:Addr)(its:List Value)(n:Nat)(dd:Option Addr)(sl:Array (Option Value))(x:Int)(u:Tok)(hi:its≠[])(h1:2≤x)(h2:x<2^63)(hz:its.length * x.toNat≤sizeLine):
  Meets (Builtin.«tuple.__mul__» ⟨[.ref l,.int x u],[]⟩) (fun _ R s=>s.heap.get? l=some {cls:=.type "tuple",dict:=dd,data:=.seq its.toArray n,slots:=sl}/\R (.ok (.ret (.ref s.heap.objs.size))) {s with heap:=s.heap.push {cls:=Value.type "tuple",data:=Data.seq (List.replicate x.toNat its).flatten.toArray}}):=
 .of_wp fun prog w A R s h=>by
  obtain⟨hp,g,d,tk,os⟩:=s;obtain⟨hl,h⟩:=h;have f1:=AutoSeq1.idx_int;have hi':its.toArray.isEmpty=false:=by simpa using hi
  have hb:¬ ((decide (x< -(2^63))||decide (x ≥ 2^63))=true):=by simp;omega
  have hc:¬ ((its.toArray.isEmpty||x==1)=true):=by rw[hi'];simp;omega
  have hd:¬ ((decide (x≤0)||its.toArray.isEmpty)=true):=by rw[hi'];simp;omega
  have e1:(its.toArray.size:Int) * x=((its.length * x.toNat:Nat):Int):=by rw[Qp,Int.natCast_mul,Int.toNat_of_nonneg (by omega)]
  have he:¬ ((its.toArray.size:Int) * x>(2^63-1)/8):=by
   have e2:(sizeLine:Nat)≤(2^63-1)/8:=by decide
   rw[e1];omega
  have hf:¬ (Tuple.tupleTooMany ((its.toArray.size:Int) * x)=true):=by
   rw[e1];intro z;have z':=Uu z
   omega
  have hnew:List.foldl (fun x1 x2=>x1++x2) #[] (List.replicate x.toNat its.toArray)=(List.replicate x.toNat its).flatten.toArray:=by
   have:=a9v its x.toNat [];rw[Vd]at this;exact this
  have hsz:sizeOk (.seq (List.replicate x.toNat its).flatten.toArray):=by
   show(List.replicate x.toNat its).flatten.toArray.size≤sizeLine;rw[Qp,a9x,Nat.mul_comm];exact hz
  wp_walk using Jz hl
  refine Uq (Zk hb) ?_
  wp_walk using Jz hl
  refine Uq (Zk hc) ?_
  wp_walk using Jz hl
  refine Uq (Zk hd) ?_
  wp_walk using Jz hl
  refine Uq (Zk he) ?_
  wp_walk using Jz hl
  refine Uq (Zk hf) ?_
  rw[hnew]
  wp_walk using Jz hl
  refine Uq (Zk (Nat.not_lt.mpr hsz)) ?_
  wp_walk using Jz hl
  exact⟨_,rfl,h⟩
section
variable{X:Cx}{B:OA}
def a5q(K:Qq):R2:=fun x y H Q=>∃a k xs,x=.ref a/\y=.int k/\SqT K H a xs/\xs≠[]/\1≤k/\k<2^63/\xs.length * k.toNat≤sizeLine/\
 (k=1->Q (.ref a) H)/\∀p,H p=none->Q (.ref p) (upd H p (.tup (List.replicate k.toNat xs).flatten))
theorem b5F:OpR X (binaryOp .Mult) (a5q X.K):=by
 intro pins s σ H x y v u Q I rx ry h;obtain⟨a,k,xs,rfl,rfl,ha,hne,h1,h2,hz,q1,q2⟩:=h;cases rx;obtain⟨t,rfl⟩:=ry;obtain⟨its,r,⟨⟨cls,dd,data,sl⟩,ho,hc,n,hd⟩,hzz⟩:=I.tuple ha;simp only at hc hd;subst hc hd;refine wpAny_binaryOp_repeat_ref (T:="tuple") (U:="int") (by decide) ⟨_,ho,rfl⟩ (fun s'=>typeIs_int s' k t) b5A F.fills_int_mul F.slot_int_rmul b5B F.slot_int_index.lookup
  (Uc F.slot_int_rmul (typeIs_int s k t) F.entry_int_rmul (F.args_int_rmul_2 _ _) (b5C k t a its.toArray n dd sl)
   ⟨ho,rfl,⟨_,ho,rfl⟩,?_⟩)
 by_cases hk:k=1
 ·exact Uc Vg ⟨_,ho,rfl⟩ F.entry_tuple_mul (F.args_tuple_mul_2 _ _) (b5D a its.toArray n dd sl k t hk) ⟨ho,⟨.ref a,H,I,rfl,q1 hk⟩⟩
 ·refine Uc Vg ⟨_,ho,rfl⟩ F.entry_tuple_mul (F.args_tuple_mul_2 _ _) (b5E a its n dd sl k t (fun z=>hne (r.nil_iff.mp z)) (by omega) h2 (by rw[←r.length];exact hz)) ⟨ho,?_⟩
  refine⟨.ref s.heap.objs.size,_,I.laid (t':=s.toks) (o:=.tup (List.replicate k.toNat xs).flatten) (fun b ob q=>Qj _ q) (Qw _) ?_,rfl,q2 _ (I.hok.fresh (Qw _))⟩
  exact⟨by rw[a9x,Nat.mul_comm];exact hz,_,r.rep k.toNat,a0P.new _ _⟩
end
section
variable{X:Cx}{B:OA}{pos:Pos}{a b:Expr}{ma mb:Mo D}
def a7a:D->D->Option D
 |.tup xs,.tup ys=>if xs.length+ys.length≤10000 then some (.tup (xs++ys))else none
 |_,_=>none
theorem a5r{n:Nat}(h:n≤10000):n≤sizeLine:=Qt h (by decide)
theorem b5G:OpD X B (rCatT' X.K) a7a:=by
 intro G σ env H x y a b d Q rl ra rb e k;cases a<;>cases b<;>first|(exact absurd (show(none:Option D)=some d from e) (by simp))|skip
 rename_i ds es;simp only[a7a]at e;split at e
 ·rename_i hl
  cases e;have ra0:=ra;have rb0:=rb;simp only[Rep]at ra rb;obtain⟨p,xs,rfl,q1,r1⟩:=ra;obtain⟨p',ys,rfl,q2,r2⟩:=rb;refine⟨p,p',xs,ys,rfl,rfl,rl.sub.sqT q1,rl.sub.sqT q2,by rw[r1.length,r2.length];exact a5r hl,fun z=>?_,fun z=>?_,fun l hp=>?_⟩
  ·subst z
   have:ds=[]:=List.length_eq_zero_iff.mp r1.length.symm;subst this;exact k _ G H (.refl rl) rb0
  ·subst z
   have:es=[]:=List.length_eq_zero_iff.mp r2.length.symm;subst this;exact k _ G H (.refl rl) (by rw[Je];exact ra0)
  ·exact k _ _ _ (rl.alloc hp) (a4e y3_ (z6_.mono (Le.upd (rl.gnone hp)) _ (r1.append r2)))
 ·cases e
def a7b:D->D->Option D
 |.tup [d],.int k=>if 1≤k/\k≤1000 then some (.tup (List.replicate k.toNat d))else none
 |_,_=>none
theorem b5H{α:Type}(x:α)(n:Nat):(List.replicate n [x]).flatten=List.replicate n x:=by
 induction n with
 |zero=>rfl
 |succ n ih=>rw[Zo,Uy,ih,Zo];rfl
theorem b0i{K:Qq}{G:Hp}{x:V}{d:D}(h:Rep K G x d):∀n,z6_ K G (List.replicate n x) (List.replicate n d)
 |0=>repL_nil
 |n+1=>by rw[Zo,Zo];exact repL_cons h (b0i h n)
theorem b5I:OpD X B (a5q X.K) a7b:=by
 intro G σ env H x y a b d Q rl ra rb e k;unfold a7b at e;split at e
 ·rename_i d0 n
  split at e
  ·rename_i hn
   cases e;have ra0:=ra;simp only[Rep]at ra rb;obtain⟨p,xs,rfl,q1,r1⟩:=ra;subst rb;obtain⟨v,rfl,rv⟩:=a0A r1;refine⟨p,n,[v],rfl,rfl,rl.sub.sqT q1,by simp,by omega,by omega,?_,fun z=>?_,fun l hp=>?_⟩
   ·exact a5r (by simp;omega)
   ·subst z
    exact k _ G H (.refl rl) ra0
   ·rw[b5H]
    exact k _ _ _ (rl.alloc hp) (a4e y3_ (z6_.mono (Le.upd (rl.gnone hp)) _ (b0i rv _)))
  ·cases e
 ·cases e
def y4_:=fOr a5d a7a
def j5_:=fOr a6z a7b
theorem u4_:OpR X (binaryOp .Add) (fun x y H Q=>rI0 (fun i j=>.int (i+j)) x y H Q∨rCatT' X.K x y H Q):=OpR.or b3X op_catT'
theorem u5_:OpD X B (fun x y H Q=>rI0 (fun i j=>.int (i+j)) x y H Q∨rCatT' X.K x y H Q) y4_:=a9H.or b5G
theorem a2L:OpR X (binaryOp .Mult) (fun x y H Q=>rI a2w (fun i j=>.int (i * j)) x y H Q∨a5q X.K x y H Q):=OpR.or b3Y b5F
theorem a2M:OpD X B (fun x y H Q=>rI a2w (fun i j=>.int (i * j)) x y H Q∨a5q X.K x y H Q) j5_:=b4O.or b5I
def a5s(ma mb:Mo D):Mo (List D):=fun env=>(ma env).bind fun p=>(mb p.2).bind fun q=>match p.1,q.1 with
 |.lst xs,.lst ys=>if xs.length+ys.length≤10000 then some (xs++ys,q.2)else none
 |_,_=>none
theorem a7c(ha:ED X B a ma)(hb:ED X B b mb):EL X B (.BinOp a .Add b pos) (a5s ma mb):=by
 refine pe_imp (a8V op_catL' ha hb) ?_
 rintro σ H Q ⟨G,env,ds,env',rl,e,k⟩;obtain⟨⟨d1,env1⟩,e1,e2⟩:=q1_ e;obtain⟨⟨d2,env2⟩,e3,e4⟩:=q1_ e2;dsimp only at e4 e3;refine .bind rl e1 fun v1 G1 H1 ev1 r1=>.bind ev1.rel e3 fun v2 G2 H2 ev2 r2=>?_
 split at e4
 ·rename_i xs ys
  split at e4
  ·rename_i hl
   cases e4;have r1':=Rep.mono ev2.same _ r1;simp only[Rep]at r1' r2;obtain⟨p,us,rfl,q1,t1⟩:=r1';obtain⟨p',ws,rfl,q2,t2⟩:=r2;exact⟨p,p',us,ws,rfl,rfl,ev2.rel.sub.sqL q1,ev2.rel.sub.sqL q2,by rw[t1.length,t2.length];exact a5r hl,fun l hp=>a5h (ev1.trans ev2) hp (t1.append t2) k⟩
  ·cases e4
 ·cases e4
end
end L2.Mir
namespace HT
open PySem PySem.Spec PyProof.Rows
section
variable{prog:Program}{w:World}{A:Around}{E:OE}{s:Shared}
end
end HT
namespace L2.Mir
open PySem PySem.Spec PyProof.Rows
section
variable{X:Cx}{B:OA}{e lo hi st:Expr}{ma ml mh:Mo D}{pos p2:Pos}
def b0j(xs:List D)(lo hi:Option Int):List D:=(xs.drop (HT.sIx xs.length 0 lo)).take (HT.sIx xs.length xs.length hi-HT.sIx xs.length 0 lo)
def u9_:Mo (Option Int):=fun env=>some (none,env)
def a0a(m:Mo D):Mo (Option Int):=fun env=>(m env).bind fun p=>match p.1 with
 |.int i=>some (some i,p.2)
 |_=>none
def TOm(K:Qq)(B:OA)(m:Mo (Option Int)):TO:=fun σ H Q=>∃G env o env',Rel K B G σ env H/\m env=some (o,env')/\∀G' H',Ev K B G σ env H G' σ env' H'->Q o H'
abbrev EO(X:Cx)(B:OA)(e:Option Expr)(m:Mo (Option Int)):Prop:=PO X e (TOm X.K B m)
theorem b0k{X:Cx}{e:Option Expr}{t t':TO}(h:PO X e t)(i:∀σ H Q,t' σ H Q->t σ H Q):PO X e t':=fun pins s σ H Q I q=>h pins s σ H Q I (i σ H Q q)
theorem a3w:EO X B none u9_:=by
 refine b0k b4s ?_
 rintro σ H Q ⟨G,env,o,env',rl,e,k⟩;cases e;exact k G H (.refl rl)
theorem a3x(h:ED X B e ma):EO X B (some e) (a0a ma):=by
 refine b0k (b4t h) ?_
 rintro σ H Q ⟨G,env,o,env',rl,e,k⟩;obtain⟨⟨d,env1⟩,e1,e2⟩:=q1_ e;dsimp only at e2;split at e2
 ·rename_i i
  cases e2;refine .bind rl e1 fun v G1 H1 ev r=>?_
  simp only[Rep]at r;exact⟨i,r,k G1 H1 ev⟩
 ·cases e2
theorem z6_.cut{K:Qq}{G:Hp}{xs:List V}{ds:List D}(r:z6_ K G xs ds)(lo hi:Option Int):z6_ K G (a3h xs lo hi) (b0j ds lo hi):=by
 unfold a3h b0j;rw[r.length];exact(r.drop _).take _
theorem a7d{j:Nat}{p:Pos}:PE X (.UnaryOp .USub (.Constant (.int 1) j p) pos) (tC (.int (-1))):=pe_imp (a8W a8Z a3d) fun σ H Q q=>⟨1,rfl,q⟩
end
section
variable{X:Cx}{pins:OX}{σ:St}{H:Hp}{s:Shared}{h':Heap}
theorem b0l{t':Nat}{ch:List Addr}(I:Inv X pins σ H s)(k:∀b o,b∉ch->s.heap.get? b=some o->h'.get? b=some o)(hf:∀b∈ch,a0n X pins H b):Inv X pins σ H {s with heap:=h',toks:=t'}:=by
 have nit:∀b u,H b=some u->b∉ch:=fun b u e z=>by rw[(hf b z).1]at e;cases e
 refine I.step (g':=s.gens) (d':=s.drawn) (ch:=ch) (fun b hb=>⟨(hf b hb).2.2.2.1,(hf b hb).2.1,(hf b hb).2.2.2.2.1,(hf b hb).2.2.2.2.2⟩) (fun b o _ _ hc e _=>k b o hc e) (fun b o _ _ hc e _=>⟨o.slots,k b o hc e⟩) (fun _ _ _ _ n=>n)
  (fun b o hc e=>⟨o,k b o hc e⟩) (fun _ _ e=>e) (fun _ _ _ e=>e) (fun b ps e=>⟨#[],by rw[e];simp⟩) (fun m hm=>?_) (fun b u e=>?_) I.bare
 ·obtain⟨o,es,ep,ho,r⟩:=hm
  exact⟨o,es,ep,k _ o (fun z=>(hf _ z).2.1 rfl) ho,r⟩
 ·refine(I.hok b u e).stay (fun c v hc q=>k c v ?_ q) (fun _ q=>q) fun _ _ q=>q
  rcases hc with z|z
  ·rw[z];exact nit b u e
  ·exact nit c _ z
theorem b5J{t':Nat}{ch:List Addr}{p:Addr}{o:HO}(I:Inv X pins σ H s)(k:∀b o,b∉ch->s.heap.get? b=some o->h'.get? b=some o)(hf:∀b∈ch,a0n X pins H b)
  (hp:s.heap.objs.size≤p)(new:x5_ X.prog X.w (upd H p o) h' p o):Inv X pins σ (upd H p o) {s with heap:=h',toks:=t'}:=by
 have nit:∀b u,H b=some u->b∉ch:=fun b u e z=>by rw[(hf b z).1]at e;cases e
 have hn:H p=none:=I.hok.fresh hp
 have np:∀b u,s.heap.get? b=some u->b≠p:=fun b u q=>Qi (Ql (Qu q) hp)
 refine I.step (g':=s.gens) (d':=s.drawn) (ch:=ch) (fun b hb=>⟨(hf b hb).2.2.2.1,(hf b hb).2.1,(hf b hb).2.2.2.2.1,(hf b hb).2.2.2.2.2⟩) (fun b o _ _ hc e _=>k b o hc e) (fun b o _ _ hc e _=>⟨o.slots,k b o hc e⟩) (fun b o _ e n=>by rw[q4_ (np b o e)];exact n)
  (fun b o hc e=>⟨o,k b o hc e⟩) (fun b xs q=>by rw[q4_ (w1_ q hn)];exact q) (fun b u xs q=>by rw[q4_ (w1_ q hn)];exact q) (fun b ps e=>⟨#[],by rw[q4_ (w1_ e hn),e];simp⟩) (fun m hm=>?_) (fun b u e=>?_) I.bare
 ·obtain⟨o,es,ep,ho,r⟩:=hm
  exact⟨o,es,ep,k _ o (fun z=>(hf _ z).2.1 rfl) ho,r⟩
 ·by_cases hb:b=p
  ·subst hb;rw[y3_]at e;cases e;exact new
  ·rw[q4_ hb]at e
   refine(I.hok b u e).stay (fun c v hc q=>k c v ?_ q) (fun c q=>by rw[q4_ (w1_ q hn)];exact q) fun c xs q=>by rw[q4_ (w1_ q hn)];exact q
   rcases hc with z|z
   ·rw[z];exact nit b u e
   ·exact nit c _ z
end
def Sq1(k:Bool)(h:Heap)(l:Addr)(xs:Array Value):Prop:=if k then h.IsTuple l xs else h.IsList l xs
def It1(k:Bool)(h:Heap)(i l:Addr)(n:Nat):Prop:=if k then h.IsTupleIter i l n else h.IsListIter i l n
section
variable{k:Bool}{h h':Heap}{i l b:Addr}{n:Nat}{xs:Array Value}
theorem Sq1.at'(x:Sq1 k h l xs)(e:∀o,h.get? l=some o->h'.get? l=some o):Sq1 k h' l xs:=by
 cases k
 ·exact Heap.IsList.at (show h.IsList l xs from x) e
 ·obtain⟨o,ho,r⟩:=(show h.IsTuple l xs from x)
  exact(⟨o,e _ ho,r⟩:h'.IsTuple l xs)
theorem It1.at'(x:It1 k h i l n)(e:∀o,h.get? i=some o->h'.get? i=some o):It1 k h' i l n:=by
 cases k
 ·exact Heap.IsListIter.at (show h.IsListIter i l n from x) e
 ·exact Heap.IsTupleIter.at (show h.IsTupleIter i l n from x) e
theorem It1.get(x:It1 k h i l n):∃o,h.get? i=some o/\∀v,o.data≠.cell v:=by
 cases k
 ·obtain⟨o,ho,_,d⟩:=(show h.IsListIter i l n from x);exact⟨o,ho,fun v z=>by rw[d]at z;cases z⟩
 ·obtain⟨o,ho,_,d⟩:=(show h.IsTupleIter i l n from x);exact⟨o,ho,fun v z=>by rw[d]at z;cases z⟩
theorem It1.but(x:It1 k h i l n)(hs:Heap.ExtBut b h h')(hb:i≠b):It1 k h' i l n:=x.at' fun o e=>hs i o hb e
theorem Sq1.but(x:Sq1 k h l xs)(hs:Heap.ExtBut b h h')(hb:l≠b):Sq1 k h' l xs:=x.at' fun o e=>hs l o hb e
end
section
variable{prog:Program}{w:World}{A:Around}{E:OE}{s:Shared}
theorem b5K{it l:Addr}{i:Nat}{items:Array Value}{x:Value}{Q:OE}(hit:s.heap.IsTupleIter it l i)(hl:s.heap.IsTuple l items)(hx:items[i]? =some x)
  (hQ:∀h',h'.IsTupleIter it l (i+1)->Heap.SameBut it s.heap h'->Q x {s with heap:=h'}):wpAny (model prog w) A (Builtin.SmallTypes.nextOf (.ref it)) Q E s:=by
 obtain⟨o,ho,hc,hd⟩:=id hit;obtain⟨ol,hol,_,nl,hdl⟩:=hl;unfold Builtin.SmallTypes.nextOf;refine Qz (Ji (name:=Str.ofString "__next__") hit.typeIs Yr (Ul Yr hit.typeIs Vw ?_ (Vj _)));show wpAny _ _ (field (.ref it) 0>>=_) _ _ s;refine Qz (Yl ho hd (x:=.ref l) rfl ?_);rw[Qr (show ¬ ((Value.ref l==Value.none)=true)from Yv)]
 refine Qz (Yl ho hd (x:=.int i 0) rfl ?_);refine Qz (Jw hol hdl ?_);simp only[Yc,hx];refine Qz (wpAny_setField ho hd (by simp) (Qd ⟨x,rfl,Qd (hQ _ ⟨_,Heap.get?_update_self _ ho (Obj.isFreed_of_fields (Obj.data_mapFields hd _)),(Obj.cls_mapFields ..).trans hc,?_⟩ (Heap.SameBut.update ..))⟩))
 rw[Obj.data_mapFields hd];simp[rawInt]
theorem b5L{it l:Addr}{i:Nat}{items:Array Value}{Q:OE}(hh:A.handled=none)(hit:s.heap.IsTupleIter it l i)(hl:s.heap.IsTuple l items)(hx:items[i]? =none)
  (hE:∀h' e,Heap.ExtBut it s.heap h'->(∃o,h'.get? e=some o/\o.cls=.type "StopIteration")->E (.ref e) {s with heap:=h'}):wpAny (model prog w) A (Builtin.SmallTypes.nextOf (.ref it)) Q E s:=by
 obtain⟨o,ho,hc,hd⟩:=id hit;obtain⟨ol,hol,_,nl,hdl⟩:=hl;unfold Builtin.SmallTypes.nextOf;refine Qz (Ji (name:=Str.ofString "__next__") hit.typeIs Yr (Ul Yr hit.typeIs Vw ?_ (Vj _)));show wpAny _ _ (field (.ref it) 0>>=_) _ _ s;refine Qz (Yl ho hd (x:=.ref l) rfl ?_);rw[Qr (show ¬ ((Value.ref l==Value.none)=true)from Yv)]
 refine Qz (Yl ho hd (x:=.int i 0) rfl ?_);refine Qz (Jw hol hdl ?_);simp only[Yc,hx];refine Qz (Xv (Qz (wpAny_setField ho hd (by simp) ?_)))
 refine Qz ?_
 simp only[newExc,newTuple];refine Qz (wpAny_newObj_type ?_ (by size_fits))
 refine Qz (m:=firstArgMember _ _) (wpAny_of_eq (a:=Value.none) (by first|rfl|(simp only[firstArgMember];rfl)) ?_)
 refine wpAny_newObj_type ?_ (by size_fits)
 simp only[raiseNew];refine Qz (wpAny_handled ?_)
 first|rw[show A.in1.handled=none from hh]|rw[hh]
 refine Qz (Qd (wpAny_throw ?_));exact hE _ _ (((Heap.SameBut.update ..).extBut.push _).push _) ⟨_,Qh _ rfl,rfl⟩
theorem a7e{k:Bool}{it l:Addr}{i:Nat}{items:Array Value}{x:Value}{Q:OE}(hit:It1 k s.heap it l i)(hl:Sq1 k s.heap l items)(hx:items[i]? =some x)
  (hQ:∀h',It1 k h' it l (i+1)->Heap.SameBut it s.heap h'->Q x {s with heap:=h'}):wpAny (model prog w) A (Builtin.SmallTypes.nextOf (.ref it)) Q E s:=by
 cases k
 ·exact wpAny_nextOf_list_item hit hl hx hQ
 ·exact b5K hit hl hx hQ
theorem b0m{k:Bool}{it l:Addr}{i:Nat}{items:Array Value}{Q:OE}(hh:A.handled=none)(hit:It1 k s.heap it l i)(hl:Sq1 k s.heap l items)(hx:items[i]? =none)
  (hE:∀h' e,Heap.ExtBut it s.heap h'->(∃o,h'.get? e=some o/\o.cls=.type "StopIteration")->E (.ref e) {s with heap:=h'}):wpAny (model prog w) A (Builtin.SmallTypes.nextOf (.ref it)) Q E s:=by
 cases k
 ·exact wpAny_nextOf_list_end hh hit hl hx hE
 ·exact b5L hh hit hl hx hE
end
section
variable{prog:Program}{w:World}{A:Around}{E:OE}{s:Shared}{c1 c2:Bool}
theorem b5M{z TI TO i1 i2 l1 l2:Addr}{k1 k2:Nat}{xs ys:Array Value}{x y a b:Value}{Q:OE}(D:ZipApart z TI TO i1 i2 l1 l2)
  (hz:IsZip s.heap z TI TO .none)(hTI:IsPair s.heap TI (.ref i1) (.ref i2))(hTO:IsPair s.heap TO a b)
  (h1:It1 c1 s.heap i1 l1 k1)(h2:It1 c2 s.heap i2 l2 k2)(hl1:Sq1 c1 s.heap l1 xs)(hl2:Sq1 c2 s.heap l2 ys)(hx:xs[k1]? =some x)(hy:ys[k2]? =some y)
  (hQ:∀h',IsZip h' z TI TO (rawInt s.heap.objs.size)->IsPair h' TO x y->It1 c1 h' i1 l1 (k1+1)->It1 c2 h' i2 l2 (k2+1)->IsPair h' s.heap.objs.size x y->h'.objs.size=s.heap.objs.size+1->
   (∀c o,c≠z->c≠TO->c≠i1->c≠i2->s.heap.get? c=some o->h'.get? c=some o)->Q (.ref s.heap.objs.size) {s with heap:=h'}):
  wpAny (model prog w) A (Builtin.«zip.__next__» ⟨[.ref z],[]⟩) (fun fin s'=>∃v,fin=.done (.ret v)/\Q v s') E s:=by
 show wpAny _ _ (field (.ref z) 2>>=_) _ _ _;refine Qz (Yl hz rfl (x:=.bool false) rfl (Qz (Yl hz rfl (x:=.ref TI) rfl ?_)));refine Qz (Jw hTI rfl (Qz ?_));unfold Builtin.SmallTypes.ownedTupleIsFree;refine Qz (Yl hz rfl (x:=.none) rfl (Qd ?_));simp only[Zs];refine Qz (Xv (Qz (Yl hz rfl (x:=.ref TO) rfl ?_)));refine Qz (Ju hz (by simp) fun g1 (z1:IsZip g1 z TI TO .ellipsis) s1=>Qz ?_)
 simp only[List.zipIdx_cons,List.zipIdx_nil,List.forIn_cons,List.forIn_nil];refine Qz (Qz (Vu (Qz (m:=Builtin.SmallTypes.nextOf (.ref i1)) ?_)));refine a7e (h1.but s1.extBut D.i1z) (hl1.but s1.extBut D.l1z) hx fun g2 a2 s2=>Qd ?_
 have p2:IsPair g2 TO a b:=s2.extBut _ _ D.TOi1 (s1.extBut _ _ D.TOz hTO)
 refine Qz (Jw p2 rfl (Qz (Vr p2 fun g3 (p3:IsPair g3 TO x b) s3=>?_)))
 refine Qz (wpAny_letGo (Qd (Qz (Qz (Vu (Qz (m:=Builtin.SmallTypes.nextOf (.ref i2)) ?_))))));refine a7e (((h2.but s1.extBut D.i2z).but s2.extBut D.i12.symm).but s3.extBut D.TOi2.symm) (((hl2.but s1.extBut D.l2z).but s2.extBut D.l2i1).but s3.extBut D.l2TO) hy fun g4 a4 s4=>Qd ?_
 have p4:IsPair g4 TO x b:=s4.extBut _ _ D.TOi2 p3
 refine Qz (Jw p4 rfl (Qz (Vr p4 fun g5 (p5:IsPair g5 TO x y) s5=>?_)))
 refine Qz (wpAny_letGo (Qd (Qd (Qz (Jw p5 rfl (Qz (wpAny_newTuple ?_)))))));have hsz:g5.objs.size=s.heap.objs.size:=by rw[s5.1,s4.1,s3.1,s2.1,s1.1]
 have z5:IsZip g5 z TI TO .ellipsis:=s5.extBut _ _ D.TOz.symm (s4.extBut _ _ D.i2z.symm (s3.extBut _ _ D.TOz.symm (s2.extBut _ _ D.i1z.symm z1)))
 have k5:∀c o,c≠z->c≠TO->c≠i1->c≠i2->s.heap.get? c=some o->g5.get? c=some o:=fun c o n1 n2 n3 n4 e=>
  s5.extBut _ _ n2 (s4.extBut _ _ n4 (s3.extBut _ _ n2 (s2.extBut _ _ n3 (s1.extBut _ _ n1 e))))
 have b1:It1 c1 g5 i1 l1 (k1+1):=((a2.but s3.extBut D.TOi1.symm).but s4.extBut D.i12).but s5.extBut D.TOi1.symm
 have b2:It1 c2 g5 i2 l2 (k2+1):=a4.but s5.extBut D.TOi2.symm
 refine Qz (m:=Builtin.SmallTypes.ownedTupleHandOut (.ref z) (.ref g5.objs.size)) ?_
 unfold Builtin.SmallTypes.ownedTupleHandOut;have z6:IsZip (g5.push {cls:=.type "tuple",data:=.seq #[x,y]}) z TI TO .ellipsis:=Qj _ z5;refine Qz (Ju z6 (by simp) fun g7 (z7:IsZip g7 z TI TO (rawInt g5.objs.size)) s7=>?_)
 refine Ju z7 (by simp) fun g8 (z8:IsZip g8 z TI TO (rawInt g5.objs.size)) s8=>?_
 have up:∀c o,c≠z->g5.get? c=some o->g8.get? c=some o:=fun c o n1 e=>s8.extBut _ _ n1 (s7.extBut _ _ n1 (Qj _ e))
 have t8:IsPair g8 g5.objs.size x y:=s8.extBut _ _ (Xw (Qu z5)) (s7.extBut _ _ (Xw (Qu z5)) (Qh _ rfl))
 have e8:g8.objs.size=g5.objs.size+1:=by rw[s8.1,s7.1,Zt]
 rw[hsz]at z8 t8 e8;refine Qd ⟨_,rfl,?_⟩;show Q (.ref g5.objs.size) _;rw[hsz];exact hQ g8 z8 (up _ _ D.TOz p5) (b1.at' fun o e=>up _ o D.i1z e) (b2.at' fun o e=>up _ o D.i2z e) t8 e8 fun c o n1 n2 n3 n4 e=>up c o n1 (k5 c o n1 n2 n3 n4 e)
theorem b5N{z TI TO i1 i2 l1 l2:Addr}{k1 k2:Nat}{xs ys:Array Value}{a b:Value}{Q:PySem.Fin->Shared->Prop}(hh:A.handled=none)(D:ZipApart z TI TO i1 i2 l1 l2)
  (hz:IsZip s.heap z TI TO .none)(hTI:IsPair s.heap TI (.ref i1) (.ref i2))(hTO:IsPair s.heap TO a b)
  (h1:It1 c1 s.heap i1 l1 k1)(h2:It1 c2 s.heap i2 l2 k2)(hl1:Sq1 c1 s.heap l1 xs)(hl2:Sq1 c2 s.heap l2 ys)(hend:xs[k1]? =none∨ys[k2]? =none)
  (hE:∀h' e,(∀c o,c≠z->c≠TO->c≠i1->c≠i2->s.heap.get? c=some o->h'.get? c=some o)->(∃o,h'.get? e=some o/\o.cls=.type "StopIteration")->E (.ref e) {s with heap:=h'}):
  wpAny (model prog w) A (Builtin.«zip.__next__» ⟨[.ref z],[]⟩) Q E s:=by
 show wpAny _ _ (field (.ref z) 2>>=_) _ _ _;refine Qz (Yl hz rfl (x:=.bool false) rfl (Qz (Yl hz rfl (x:=.ref TI) rfl ?_)));refine Qz (Jw hTI rfl (Qz ?_));unfold Builtin.SmallTypes.ownedTupleIsFree;refine Qz (Yl hz rfl (x:=.none) rfl (Qd ?_));simp only[Zs];refine Qz (Xv (Qz (Yl hz rfl (x:=.ref TO) rfl ?_)));refine Qz (Ju hz (by simp) fun g1 (z1:IsZip g1 z TI TO .ellipsis) s1=>Qz ?_)
 simp only[List.zipIdx_cons,List.zipIdx_nil,List.forIn_cons,List.forIn_nil];refine Qz (Qz (Vu (Qz (m:=Builtin.SmallTypes.nextOf (.ref i1)) ?_)));cases hx:xs[k1]? with
 |none=>
  refine b0m hh (h1.but s1.extBut D.i1z) (hl1.but s1.extBut D.l1z) hx fun g2 e s2 he=>?_
  obtain⟨oe,q1,q2⟩:=he;have z2:IsZip g2 z TI TO .ellipsis:=s2 _ _ D.i1z.symm z1;have ne:e≠z:=fun x=>by subst x;rw[z2]at q1;cases q1;simp at q2
  exact Ju z2 (by simp) fun g3 _ s3=>hE g3 e (fun c o n1 _ n3 _ x=>s3.extBut _ _ n1 (s2 _ _ n3 (s1.extBut _ _ n1 x))) ⟨oe,s3.extBut _ _ ne q1,q2⟩
 |some x=>
  have hy:ys[k2]? =none:=by
   rcases hend with h|h
   ·rw[hx]at h;cases h
   ·exact h
  refine a7e (h1.but s1.extBut D.i1z) (hl1.but s1.extBut D.l1z) hx fun g2 a2 s2=>Qd ?_
  have p2:IsPair g2 TO a b:=s2.extBut _ _ D.TOi1 (s1.extBut _ _ D.TOz hTO)
  refine Qz (Jw p2 rfl (Qz (Vr p2 fun g3 p3 s3=>?_)))
  refine Qz (wpAny_letGo (Qd (Qz (Qz (Vu (Qz (m:=Builtin.SmallTypes.nextOf (.ref i2)) ?_))))));refine b0m hh (((h2.but s1.extBut D.i2z).but s2.extBut D.i12.symm).but s3.extBut D.TOi2.symm) (((hl2.but s1.extBut D.l2z).but s2.extBut D.l2i1).but s3.extBut D.l2TO) hy fun g4 e s4 he=>?_
  obtain⟨oe,q1,q2⟩:=he;have z4:IsZip g4 z TI TO .ellipsis:=s4 _ _ D.i2z.symm (s3.extBut _ _ D.TOz.symm (s2.extBut _ _ D.i1z.symm z1));have ne:e≠z:=fun x=>by subst x;rw[z4]at q1;cases q1;simp at q2
  exact Ju z4 (by simp) fun g5 _ s5=>hE g5 e (fun c o n1 n2 n3 n4 x=>s5.extBut _ _ n1 (s4 _ _ n4 (s3.extBut _ _ n2 (s2.extBut _ _ n3 (s1.extBut _ _ n1 x))))) ⟨oe,s5.extBut _ _ ne q1,q2⟩
theorem b5O{z TI TO i1 i2 l1 l2:Addr}{k1 k2:Nat}{xs ys:Array Value}{x y a b:Value}{Q:Option Value->Shared->Prop}(D:ZipApart z TI TO i1 i2 l1 l2)
  (hz:IsZip s.heap z TI TO .none)(hTI:IsPair s.heap TI (.ref i1) (.ref i2))(hTO:IsPair s.heap TO a b)
  (h1:It1 c1 s.heap i1 l1 k1)(h2:It1 c2 s.heap i2 l2 k2)(hl1:Sq1 c1 s.heap l1 xs)(hl2:Sq1 c2 s.heap l2 ys)(hx:xs[k1]? =some x)(hy:ys[k2]? =some y)
  (hQ:∀h',IsZip h' z TI TO (rawInt s.heap.objs.size)->IsPair h' TO x y->It1 c1 h' i1 l1 (k1+1)->It1 c2 h' i2 l2 (k2+1)->IsPair h' s.heap.objs.size x y->h'.objs.size=s.heap.objs.size+1->
   (∀c o,c≠z->c≠TO->c≠i1->c≠i2->s.heap.get? c=some o->h'.get? c=some o)->Q (some (.ref s.heap.objs.size)) {s with heap:=h'}):
  wpAny (model prog w) A (pyNext (.ref z)) Q E s:=by
 have hT:s.TypeIs (.ref z) "zip":=⟨_,hz,rfl⟩
 unfold pyNext;exact Qz (wpAny_attempt (Ji (name:=Str.ofString "__next__") hT Ug (Ul Ug hT PySem.F.entry_zip_next
  (b5M D hz hTI hTO h1 h2 hl1 hl2 hx hy fun h' a1 a2 a3 a4 a5 a6 a7=>Qd (hQ h' a1 a2 a3 a4 a5 a6 a7)) (PySem.F.args_zip_next_1 _))))
theorem b5P{z TI TO i1 i2 l1 l2:Addr}{k1 k2:Nat}{xs ys:Array Value}{a b:Value}{Q:Option Value->Shared->Prop}(hh:A.handled=none)(D:ZipApart z TI TO i1 i2 l1 l2)
  (hz:IsZip s.heap z TI TO .none)(hTI:IsPair s.heap TI (.ref i1) (.ref i2))(hTO:IsPair s.heap TO a b)
  (h1:It1 c1 s.heap i1 l1 k1)(h2:It1 c2 s.heap i2 l2 k2)(hl1:Sq1 c1 s.heap l1 xs)(hl2:Sq1 c2 s.heap l2 ys)(hend:xs[k1]? =none∨ys[k2]? =none)
  (hQ:∀h',(∀c o,c≠z->c≠TO->c≠i1->c≠i2->s.heap.get? c=some o->h'.get? c=some o)->Q none {s with heap:=h'}):wpAny (model prog w) A (pyNext (.ref z)) Q E s:=by
 have hT:s.TypeIs (.ref z) "zip":=⟨_,hz,rfl⟩
 unfold pyNext;refine Qz (wpAny_attempt (Ji (name:=Str.ofString "__next__") hT Ug (Ul Ug hT PySem.F.entry_zip_next
  (b5N hh D hz hTI hTO h1 h2 hl1 hl2 hend fun h' e hk he=>?_) (PySem.F.args_zip_next_1 _))))
 obtain⟨o,ho,hc⟩:=he;exact Qz (wpAny_isInstance (T:="StopIteration") (b:=true) ⟨o,ho,hc⟩ isSubtype_stop (Qd (hQ _ hk)))
end
def b0n(c:Bool):String:=if c then "tuple_iterator" else "list_iterator"
abbrev zh1(c1:Bool)(h:Heap)(l1:Addr):Heap:=h.push {cls:=.type (b0n c1),data:=.fields #[.ref l1,.int 0 0]}
abbrev zh2(c1 c2:Bool)(h:Heap)(l1 l2:Addr):Heap:=(zh1 c1 h l1).push {cls:=.type (b0n c2),data:=.fields #[.ref l2,.int 0 0]}
abbrev zh3(c1 c2:Bool)(h:Heap)(l1 l2:Addr):Heap:=(zh2 c1 c2 h l1 l2).push {cls:=.type "tuple",data:=.seq #[.ref h.objs.size,.ref (zh1 c1 h l1).objs.size]}
abbrev zh4(c1 c2:Bool)(h:Heap)(l1 l2:Addr):Heap:=(zh3 c1 c2 h l1 l2).push {cls:=.type "tuple",data:=.seq #[.none,.none]}
abbrev zh5(c1 c2:Bool)(h:Heap)(l1 l2:Addr):Heap:=(zh4 c1 c2 h l1 l2).push {cls:=.type "zip",data:=.fields #[.none,.bool false,.bool false,.ref (zh2 c1 c2 h l1 l2).objs.size,.ref (zh3 c1 c2 h l1 l2).objs.size]}
section
variable{prog:Program}{w:World}{A:Around}{E:OE}{s:Shared}
theorem b0o{c:Bool}{l:Addr}{items:Array Value}{Q:OE}(hl:Sq1 c s.heap l items)(hQ:Q (.ref s.heap.objs.size) {s with heap:=zh1 c s.heap l}):wpAny (model prog w) A (pyIter (.ref l)) Q E s:=by
 cases c
 ·exact Vz hl hQ
 ·exact Xz hl hQ
end
theorem b5Q(c1 c2:Bool)(l1 l2:Addr)(xs ys:Array Value):
  Meets (Builtin.«zip.__new__» ⟨[.type "zip",.ref l1,.ref l2],[]⟩) (fun _ R s=>Sq1 c1 s.heap l1 xs/\Sq1 c2 s.heap l2 ys/\R (.ok (.ret (.ref (zh4 c1 c2 s.heap l1 l2).objs.size))) {s with heap:=zh5 c1 c2 s.heap l1 l2}):=
 .of_wp fun prog w A R s h=>by
  obtain⟨hp,g,d,tk,os⟩:=s;obtain⟨hl1,hl2,h⟩:=h;have hsub:=sub_zip;have hL1:Sq1 c1 (Shared.heap ⟨hp,g,d,tk,os⟩) l1 xs:=hl1;have hL2:Sq1 c2 (Shared.heap ⟨zh1 c1 hp l1,g,d,tk,os⟩) l2 ys:=Sq1.at' hl2 fun o e=>Qj _ e
  wp_walk using b0o hL1,b0o hL2
  exact⟨_,rfl,h⟩
section
variable{prog:Program}{w:World}{A:Around}{E:OE}{s:Shared}
theorem b5R{c1 c2:Bool}{l1 l2:Addr}{xs ys:Array Value}{Q:OE}(hl1:Sq1 c1 s.heap l1 xs)(hl2:Sq1 c2 s.heap l2 ys)
  (h:∀h',IsZip h' (s.heap.objs.size+4) (s.heap.objs.size+2) (s.heap.objs.size+3) .none->IsPair h' (s.heap.objs.size+2) (.ref s.heap.objs.size) (.ref (s.heap.objs.size+1))->
   IsPair h' (s.heap.objs.size+3) .none .none->It1 c1 h' s.heap.objs.size l1 0->It1 c2 h' (s.heap.objs.size+1) l2 0->h'.objs.size=s.heap.objs.size+5->
   (∀c o,s.heap.get? c=some o->h'.get? c=some o)->Q (.ref (s.heap.objs.size+4)) {s with heap:=h'}):
  wpAny (model prog w) A (call (.type "zip") [.ref l1,.ref l2]) Q E s:=by
 refine callType_new PySem.F.called_zip (by decide) (PySem.F.typeCall_zip_2 _ _) (PySem.F.newCall_zip_2 _ _) (fun obj=>PySem.F.args_object_init_3 obj _ _) PySem.F.entry_zip_new (b5Q c1 c2 l1 l2 xs ys) ⟨hl1,hl2,?_⟩
 have z1:(zh1 c1 s.heap l1).objs.size=s.heap.objs.size+1:=Zt ..
 have z2:(zh2 c1 c2 s.heap l1 l2).objs.size=s.heap.objs.size+2:=by rw[Zt,z1]
 have z3:(zh3 c1 c2 s.heap l1 l2).objs.size=s.heap.objs.size+3:=by rw[Zt,z2]
 have z4:(zh4 c1 c2 s.heap l1 l2).objs.size=s.heap.objs.size+4:=by rw[Zt,z3]
 have z5:(zh5 c1 c2 s.heap l1 l2).objs.size=s.heap.objs.size+5:=by rw[Zt,z4]
 have g5:(zh5 c1 c2 s.heap l1 l2).get? (zh4 c1 c2 s.heap l1 l2).objs.size=some _:=Qh _ rfl
 have g4:(zh5 c1 c2 s.heap l1 l2).get? (zh3 c1 c2 s.heap l1 l2).objs.size=some _:=Qj _ (Qh _ rfl)
 have g3:(zh5 c1 c2 s.heap l1 l2).get? (zh2 c1 c2 s.heap l1 l2).objs.size=some _:=Qj _ (Qj _ (Qh _ rfl))
 have g2:(zh5 c1 c2 s.heap l1 l2).get? (zh1 c1 s.heap l1).objs.size=some _:=Qj _ (Qj _ (Qj _ (Qh _ rfl)))
 have g1:(zh5 c1 c2 s.heap l1 l2).get? s.heap.objs.size=some _:=Qj _ (Qj _ (Qj _ (Qj _ (Qh _ rfl))))
 show _/\_;rw[z2,z3,z4]at g5;rw[z1,z2]at g3;rw[z3]at g4;rw[z1]at g2;rw[z4];refine⟨⟨_,g5,rfl⟩,h _ g5 g3 g4 ?_ ?_ z5 fun c o x=>Qj _ (Qj _ (Qj _ (Qj _ (Qj _ x))))⟩
 ·cases c1
  ·exact(⟨_,g1,rfl,rfl⟩:Heap.IsListIter _ _ _ _)
  ·exact(⟨_,g1,rfl,rfl⟩:Heap.IsTupleIter _ _ _ _)
 ·cases c2
  ·exact(⟨_,g2,rfl,rfl⟩:Heap.IsListIter _ _ _ _)
  ·exact(⟨_,g2,rfl,rfl⟩:Heap.IsTupleIter _ _ _ _)
end
def SqA(c:Bool)(K:Qq)(H:Hp)(a:Addr)(xs:List V):Prop:=if c then SqT K H a xs else SqL K H a xs
theorem Le.sqA{K:Qq}{G G':Hp}(l:Le G G'){c:Bool}{a:Addr}{xs:List V}(h:SqA c K G a xs):SqA c K G' a xs:=by
 cases c
 ·exact l.sqL h
 ·exact l.sqT' h
section
variable{X:Cx}{pins:OX}{σ:St}{H:Hp}{s:Shared}{c:Bool}{a b:Addr}{xs:List V}
theorem a3y(I:Inv X pins σ H s)(h:SqA c X.K H a xs):∃its:List Value,q3_ xs its/\Sq1 c s.heap a its.toArray/\xs.length≤sizeLine:=by
 cases c
 ·obtain⟨its,r,p,z⟩:=I.list h
  exact⟨its,r,p.isList,z⟩
 ·obtain⟨its,r,p,z⟩:=I.tuple h
  exact⟨its,r,p,z⟩
theorem a5t(I:Inv X pins σ H s)(f:a0n X pins H b)(h:SqA c X.K H a xs):a≠b:=by
 have k:∀{u:HO},Rd H a u->a≠b:=fun r z=>by
  subst z
  rcases r with r|⟨_,r⟩
  ·rw[f.1]at r;cases r
  ·rw[f.1]at r;cases r
 have m:∀{o:Obj},X.K.lookup a=some o->a≠b:=fun{o} q z=>by
  subst z;have e:X.base.get? a=some o:=I.mod.kin a o q
  rcases f.2.2.2.1 with z|z
  ·exact I.ok.noex a o e z
  ·exact absurd (Ql (Qu e) (Qt I.ok.bsz z)) (Yh _)
 cases c
 ·rcases h with h|⟨o,_,_,q,_⟩
  ·exact k h
  ·exact m q
 ·rcases h with h|⟨o,_,_,q,_⟩
  ·exact k h
  ·exact m q
end
def Itz(K:Qq)(c1 c2:Bool)(l1 l2:Addr)(xs ys:List V):It:=
 ⟨fun i H=>i<min xs.length ys.length/\SqA c1 K H l1 xs/\SqA c2 K H l2 ys,
  fun i H x H'=>∃p a b,H p=none/\x=.ref p/\H'=upd H p (.tup [a,b])/\xs[i]? =some a/\ys[i]? =some b,
  fun i H=>min xs.length ys.length≤i/\SqA c1 K H l1 xs/\SqA c2 K H l2 ys⟩
def b5S(c1 c2:Bool)(n:Nat)(l1 l2:Addr)(i:Nat)(h:Heap):Prop:=
 IsZip h (n+4) (n+2) (n+3) .none/\IsPair h (n+2) (.ref n) (.ref (n+1))/\(∃a b,IsPair h (n+3) a b)/\It1 c1 h n l1 i/\It1 c2 h (n+1) l2 i
theorem apart{n l1 l2:Addr}(h1:∀j,j<5->l1≠n+j)(h2:∀j,j<5->l2≠n+j):ZipApart (n+4) (n+2) (n+3) n (n+1) l1 l2:=by
 constructor<;>first
  |(show(_:Nat)≠_;omega)
  |exact h1 4 (by decide)
  |exact h1 3 (by decide)
  |exact h1 1 (by decide)
  |exact h1 0 (by decide)
  |exact h2 4 (by decide)
  |exact h2 3 (by decide)
  |exact h2 1 (by decide)
  |exact h2 0 (by decide)
abbrev fp5(n:Nat):List Addr:=[n+4,n+2,n+3,n,n+1]
abbrev fp4(n:Nat):List Addr:=[n+4,n+3,n,n+1]
theorem a5u(n:Nat):∀{j:Nat},j<5->(n+j:Nat)∈fp5 n
 |0,_=>by simp[fp5]
 |1,_=>by simp[fp5]
 |2,_=>by simp[fp5]
 |3,_=>by simp[fp5]
 |4,_=>by simp[fp5]
 |j+5,h=>by omega
theorem b0p{n:Nat}{c:Addr}(h:c∈fp4 n):c∈fp5 n:=by
 simp only[fp4,fp5,Qm,Zb,Jq]at h ⊢
 rcases h with h|h|h|h<;>simp[h]
theorem b5T{n:Nat}{c:Addr}(h:c∈[n+4]):c∈fp5 n:=by
 simp only[Qm,Zb,Jq]at h;rw[h];simp
theorem le5{n:Nat}{c:Addr}(h:c∈fp5 n):n≤c:=by
 simp only[fp5,Qm,Zb,Jq]at h
 rcases h with rfl|rfl|rfl|rfl|rfl
 ·exact Vf _ _
 ·exact Vf _ _
 ·exact Vf _ _
 ·exact Qw _
 ·exact Vf _ _
theorem b5U{P:Program}{w:World}{K:Qq}{elts:List Expr}{kk:Nat}{tp:Pos}(c1 c2:Bool)(n l1 l2:Addr)(xs ys:List V):
  Turn P w K (.Tuple elts kk tp) (Itz K c1 c2 l1 l2 xs ys) [n+4,n+2,n+3,n,n+1] (n+4) (b5S c1 c2 n l1 l2)where
 mem:=by simp
 obj:=fun i h st b hb=>by
  obtain⟨hz,hI,⟨a,b',hO⟩,h1,h2⟩:=st;simp only[Qm,Zb,Jq]at hb
  rcases hb with rfl|rfl|rfl|rfl|rfl
  ·exact⟨_,hz,fun v z=>by cases z⟩
  ·exact⟨_,hI,fun v z=>by cases z⟩
  ·exact⟨_,hO,fun v z=>by cases z⟩
  ·exact h1.get
  ·exact h2.get
 keep:=fun i h h' st k=>by
  obtain⟨hz,hI,⟨a,b',hO⟩,h1,h2⟩:=st;exact⟨k _ (by simp) _ hz,k _ (by simp) _ hI,⟨a,b',k _ (by simp) _ hO⟩,h1.at' fun o e=>k _ (by simp) o e,h2.at' fun o e=>k _ (by simp) o e⟩
 item:=by
  intro X hP hw hK hc i pins s σ H E I hf st hg;subst hP hw hK;obtain⟨hi,q1,q2⟩:=hg;obtain⟨hz,hI,⟨a,b,hO⟩,h1,h2⟩:=st;obtain⟨its,r1,p1,_⟩:=a3y I q1;obtain⟨jts,r2,p2,_⟩:=a3y I q2;have ex:xs[i]? =some (xs[i]'(by omega)):=by simp
  have ey:ys[i]? =some (ys[i]'(by omega)):=by simp
  obtain⟨u,hu,ru⟩:=r1.get ex;obtain⟨v,hv,rv⟩:=r2.get ey;have D:ZipApart (n+4) (n+2) (n+3) n (n+1) l1 l2:=apart
   (fun j hj=>a5t I (hf _ (a5u n hj)) q1)
   (fun j hj=>a5t I (hf _ (a5u n hj)) q2)
  refine b5O D hz hI hO h1 h2 p1 p2 (x:=u) (y:=v) (by simpa using hu) (by simpa using hv) fun h' a1 a2 a3 a4 a5 a6 a7=>?_
  have hn:H s.heap.objs.size=none:=I.fresh
  have I1:Inv X pins σ (upd H s.heap.objs.size (.tup [xs[i]'(by omega),ys[i]'(by omega)])) {s with heap:=h'}:=b5J (ch:=[n+4,n+3,n,n+1]) (t':=s.toks) I
   (fun c o hc e=>a7 c o (fun z=>hc (by simp[z])) (fun z=>hc (by simp[z])) (fun z=>hc (by simp[z])) (fun z=>hc (by simp[z])) e)
   (fun c hc=>hf c (b0p hc)) (Qw _)
   ⟨by show 2≤sizeLine;decide,[u,v],.cons ru (.cons rv .nil),_,a5,rfl,rfl,0,rfl⟩
  have lt5:∀c∈[n+4,n+2,n+3,n,n+1],c≠s.heap.objs.size:=fun c hc=>by
   have:∃o,s.heap.get? c=some o:=by
    simp only[Qm,Zb,Jq]at hc
    rcases hc with rfl|rfl|rfl|rfl|rfl
    ·exact⟨_,hz⟩
    ·exact⟨_,hI⟩
    ·exact⟨_,hO⟩
    ·obtain⟨o,e,_⟩:=h1.get;exact⟨o,e⟩
    ·obtain⟨o,e,_⟩:=h2.get;exact⟨o,e⟩
   obtain⟨o,e⟩:=this;exact Qi (Qu e)
  have hf2:∀c∈[n+4,n+2,n+3,n,n+1],a0n X pins (upd H s.heap.objs.size (.tup [xs[i]'(by omega),ys[i]'(by omega)])) c:=fun c hc=>⟨by rw[q4_ (lt5 c hc)];exact(hf c hc).1,(hf c hc).2⟩
  have hI':IsPair h' (n+2) (.ref n) (.ref (n+1)):=a7 _ _ D.TIz D.TITO D.TIi1 D.TIi2 hI
  refine⟨.ref s.heap.objs.size,rfl,wpAny_letOwnedTupleGo_zip (s:={s with heap:=h'}) a1 fun h2' b1 b2=>?_⟩
  have I2:Inv X pins σ (upd H s.heap.objs.size (.tup [xs[i]'(by omega),ys[i]'(by omega)])) {s with heap:=h2'}:=b0l (s:={s with heap:=h'}) (ch:=[n+4]) (t':=s.toks) I1
   (fun c o hc e=>b2.extBut _ _ (fun z=>hc (by simp[z])) e) (fun c hc=>hf2 c (b5T hc))
  exact⟨.ref s.heap.objs.size,_,I2,rfl,⟨_,_,_,hn,rfl,rfl,ex,ey⟩,
   ⟨b1,b2.extBut _ _ D.TIz hI',⟨_,_,b2.extBut _ _ D.TOz a2⟩,a3.but b2.extBut D.i1z,a4.but b2.extBut D.i2z⟩,fun c hc=>(hf2 c hc).1⟩
 done:=by
  intro X hP hw hK hc i pins s σ H E I hf st hg;subst hP hw hK;obtain⟨hi,q1,q2⟩:=hg;obtain⟨hz,hI,⟨a,b,hO⟩,h1,h2⟩:=st;obtain⟨its,r1,p1,_⟩:=a3y I q1;obtain⟨jts,r2,p2,_⟩:=a3y I q2;have D:ZipApart (n+4) (n+2) (n+3) n (n+1) l1 l2:=apart
   (fun j hj=>a5t I (hf _ (a5u n hj)) q1)
   (fun j hj=>a5t I (hf _ (a5u n hj)) q2)
  have e1:=r1.length
  have e2:=r2.length
  have hend:its.toArray[i]? =none∨jts.toArray[i]? =none:=by
   by_cases h:its.length≤i
   ·exact .inl (by simp;omega)
   ·exact .inr (by simp;omega)
  exact b5P (I.ok.hd hc) D hz hI hO h1 h2 p1 p2 hend fun h' hk=>⟨rfl,b0l (ch:=[n+4,n+3,n,n+1]) (t':=s.toks) I
   (fun c o hc e=>hk c o (fun z=>hc (by simp[z])) (fun z=>hc (by simp[z])) (fun z=>hc (by simp[z])) (fun z=>hc (by simp[z])) e)
   (fun c hc=>hf c (b0p hc))⟩
 self:=fun _ _ _ _ _ st h=>wpAny_pyIter_zip st.1 h
theorem b5V:bootBuiltins "zip"=some (.type "zip"):=by decide+kernel
section
variable{X:Cx}{B:OA}{pos p:Pos}{a b:Expr}{ms:Mo (List D)}{elts:List Expr}{kk:Nat}{tp:Pos}
def b5W(K:Qq)(ta:TA):TI:=fun σ H R=>ta σ H fun vs H1=>∃c1 c2 l1 l2 xs ys,vs=[.ref l1,.ref l2]/\SqA c1 K H1 l1 xs/\SqA c2 K H1 l2 ys/\R (Itz K c1 c2 l1 l2 xs ys) H1
theorem b5X{ta:TA}(hg:Gl X "zip")(hm:X.mg "zip"=none)(ha:PA X [a,b] ta)(hs:starEach [a,b] X.env=[(false,eval a X.env),(false,eval b X.env)]:=by rfl)(hs2:starEach [b] X.env=[(false,eval b X.env)]:=by rfl):
  PI X (.Tuple elts kk tp) (.Call (.Name "zip" p) [a,b] [] pos) (b5W X.K ta):=by
 intro pins s σ H R I h;refine Call_ (a3Z I hg hm b5V (Uf (thn (ha pos pins s σ H _ I h) fun us s1 ⟨vs,H1,I1,r1,q1⟩=>?_) (by rw[hs,hs2]) (by rw[hs2];rfl)))
 obtain⟨c1,c2,l1,l2,xs,ys,rfl,h1,h2,q⟩:=q1;obtain⟨u,v,rfl,ru,rv⟩:=a1O r1;cases ru;cases rv;obtain⟨its,r1,p1,_⟩:=a3y I1 h1;obtain⟨jts,r2,p2,_⟩:=a3y I1 h2;refine b5R p1 p2 fun h' a1 a2 a3 a4 a5 a6 a7=>?_
 refine wpAny_pyIter_zip a1 ?_
 refine⟨s1.heap.objs.size+4,_,_,_,H1,rfl,I1.kept (t':=s1.toks) a7,b5U c1 c2 s1.heap.objs.size l1 l2 xs ys,⟨a1,a2,⟨_,_,a3⟩,a4,a5⟩,fun c hc=>?_,q⟩
 have hle:s1.heap.objs.size≤c:=le5 hc
 exact I1.fpOk hle (I1.hok.fresh hle)
def a1n(xs ys:List D):List D:=(xs.zip ys).map fun p=>.tup [p.1,p.2]
def a1o(ms:Mo (List D)):Mo (List D):=fun env=>(ms env).bind fun p=>match p.1 with
 |[d,e]=>d.items.bind fun xs=>e.items.map fun ys=>(a1n xs ys,p.2)
 |_=>none
theorem b0q{K:Qq}{G:Hp}{v:V}{d:D}{ds:List D}(r:Rep K G v d)(h:d.items=some ds):∃c a xs,v=.ref a/\SqA c K G a xs/\z6_ K G xs ds:=by
 cases d<;>first|(exact absurd (show(none:Option (List D))=some ds from h) (by simp))|skip
 ·cases h;simp only[Rep]at r;obtain⟨a,xs,e,q,t⟩:=r;exact⟨true,a,xs,e,q.t,t⟩
 ·cases h;simp only[Rep]at r;obtain⟨a,xs,e,q,t⟩:=r;exact⟨false,a,xs,e,q,t⟩
theorem b5Y{K:Qq}{G:Hp}{c1 c2:Bool}{l1 l2:Addr}{xs ys:List V}{ds es:List D}(h1:SqA c1 K G l1 xs)(h2:SqA c2 K G l2 ys)(r1:z6_ K G xs ds)(r2:z6_ K G ys es):ItD K (Itz K c1 c2 l1 l2 xs ys) G (a1n ds es)where
 go:=fun i H l hi=>⟨by rw[r1.length,r2.length];simpa [a1n]using hi,l.sqA h1,l.sqA h2⟩
 stop:=fun i H l hi=>⟨by rw[r1.length,r2.length];simpa [a1n]using hi,l.sqA h1,l.sqA h2⟩
 yld:=fun i H x H' d l y e=>by
  obtain⟨p,a,b,hp,rfl,rfl,ea,eb⟩:=y;obtain⟨da,e1,ra⟩:=r1.get' ea;obtain⟨db,e2,rb⟩:=r2.get' eb;have ed:d=.tup [da,db]:=by
   unfold a1n at e;rw[Zi,List.getElem?_zip_eq_some.mpr (⟨e1,e2⟩:ds[i]? =some (da,db).1/\es[i]? =some (da,db).2)]at e;cases e;rfl
  subst ed;have gp:G p=none:=by
   cases q:G p with
   |none=>rfl
   |some o=>rw[l p o q]at hp;cases hp
  exact .inr ⟨p,_,nt_tup,hp,rfl,a4e y3_ (repL_cons (Rep.mono (Le.upd gp) _ ra) (repL_cons (Rep.mono (Le.upd gp) _ rb) repL_nil))⟩
theorem b0r(hg:Gl X "zip")(hm:X.mg "zip"=none)(ha:EDs X B [a,b] ms)(hs:starEach [a,b] X.env=[(false,eval a X.env),(false,eval b X.env)]:=by rfl)(hs2:starEach [b] X.env=[(false,eval b X.env)]:=by rfl):
  EI X B (.Tuple elts kk tp) (.Call (.Name "zip" p) [a,b] [] pos) (a1o ms):=by
 refine a6K (b5X hg hm ha hs hs2) ?_
 rintro σ H R ⟨G,env,ds,env',rl,e,k⟩;obtain⟨⟨ds',env1⟩,e1,e2⟩:=q1_ e;dsimp only at e2;split at e2
 ·rename_i d1 d2
  obtain⟨xs,e3,e4⟩:=q1_ e2;obtain⟨ys,e5,e6⟩:=v8_ e4;cases e6;refine⟨G,env,_,_,rl,e1,fun vs G1 H1 ev r=>?_⟩
  obtain⟨v,w,rfl,r1,r2⟩:=a6F r;obtain⟨c1,l1,us,rfl,q1,t1⟩:=b0q r1 e3;obtain⟨c2,l2,ws,rfl,q2,t2⟩:=b0q r2 e5;exact⟨c1,c2,l1,l2,us,ws,rfl,ev.rel.sub.sqA q1,ev.rel.sub.sqA q2,k _ G1 H1 ev (b5Y q1 q2 t1 t2)⟩
 ·cases e2
end
def a4r{α:Type}(n:Nat)(lt:Nat->Nat->Bool):PySem.W.KasT α->Option α
 |.ret a=>some a
 |.ask i j k=>if i<n/\j<n then a4r n lt (k (lt i j))else none
theorem b0s{α:Type}{n:Nat}{lt:Nat->Nat->Bool}{cmp:Nat->Nat->(Bool->Shared->Prop)->Shared->Prop}{s:Shared}(hc:∀i j C,i<n->j<n->C (lt i j) s->cmp i j C s):
  ∀(t:PySem.W.KasT α) {Q:α->Shared->Prop}{a:α},a4r n lt t=some a->Q a s->t.kasWp cmp Q s
 |.ret a,Q,a',e,q=>by cases e;exact q
 |.ask i j k,Q,a',e,q=>by
  unfold a4r at e;split at e
  ·rename_i h
   exact hc i j _ h.1 h.2 (b0s hc (k (lt i j)) e q)
  ·cases e
def g8_(h:Heap):List Value->OI->Prop
 |[],[]=>True
 |v::vs,k::ks=>(∃a its,v=.ref a/\IsTup h a its.toArray/\IntsAre its k/\k≠[])/\g8_ h vs ks
 |_,_=>False
theorem b5Z{P:Program}{w:World}{H:Hp}{h:Heap}{a:Addr}{o:HO}(x:x5_ P w H h a o):∃ob,h.get? a=some ob:=by
 cases o with
 |lst xs=>obtain⟨_,_,_,_,e⟩:=x;exact⟨_,e⟩
 |tup xs=>obtain⟨_,_,_,ob,e,_⟩:=x;exact⟨_,e⟩
 |dK kvs=>obtain⟨_,_,_,_,o,_,_,e,_⟩:=x;exact⟨_,e⟩
 |dT C kvs=>obtain⟨_,_,_,_,o,_,_,e,_⟩:=x;exact⟨_,e⟩
 |set S n=>obtain⟨o,_,_,_,e,_⟩:=x;exact⟨_,e⟩
 |ins C dx fs=>obtain⟨_,_,_,e,_⟩:=x;exact⟨_,e⟩
 |own y=>obtain⟨_,e⟩:=x;exact⟨_,e⟩
 |xd fs=>obtain⟨_,⟨_,_,_,e,_⟩,_⟩:=x;exact⟨_,e⟩
 |rng lo hi=>obtain⟨_,_,_,e⟩:=x;exact⟨_,e⟩
 |frz ob u=>obtain⟨e,_⟩:=x;exact⟨_,e⟩
 |tbl ps=>exact⟨_,(show h.get? a=some _ from x)⟩
 |met f y=>exact⟨_,(show h.get? a=some _ from x)⟩
 |ext φ=>obtain⟨_,⟨_,e⟩,_⟩:=x;exact⟨_,e⟩
theorem g8_.mono{h h':Heap}:∀{vs:List Value}{ks:OI},g8_ h vs ks->(∀a its,IsTup h a its->IsTup h' a its)->g8_ h' vs ks
 |[],[],_,_=>trivial
 |v::vs,k::ks,⟨⟨a,its,e,t,i,n⟩,r⟩,f=>⟨⟨a,its,e,f _ _ t,i,n⟩,g8_.mono r f⟩
 |[],_::_,h,_=>h.elim
 |_::_,[],h,_=>h.elim
theorem g8_.len{h:Heap}:∀{vs:List Value}{ks:OI},g8_ h vs ks->vs.length=ks.length
 |[],[],_=>rfl
 |v::vs,k::ks,h=>by simp[g8_.len h.2]
 |[],_::_,h=>h.elim
 |_::_,[],h=>h.elim
theorem g8_.get{h:Heap}:∀{vs:List Value}{ks:OI}{i:Nat},g8_ h vs ks->i<vs.length->∃a its,vs.getD i Value.none=.ref a/\IsTup h a its.toArray/\IntsAre its (ks.getD i [])
 |v::vs,k::ks,0,⟨⟨a,its,e,t,i,n⟩,r⟩,_=>⟨a,its,by simpa using e,t,by simpa using i⟩
 |v::vs,k::ks,i+1,⟨_,r⟩,hi=>by
  obtain⟨a,its,e,t,j⟩:=g8_.get (i:=i) r (by simpa using hi)
  exact⟨a,its,by simpa using e,t,by simpa using j⟩
 |[],_,_,_,hi=>by simp at hi
 |_::_,[],_,h,_=>h.elim
theorem g8_.firsts{h:Heap}:∀{vs:List Value}{ks:OI},g8_ h vs ks->∃fs,PySem.W.KatTups h vs fs/\fs.length=vs.length/\∀v∈fs,∃i t,v=Value.int i t
 |[],[],_=>⟨[],.nil,rfl,fun _ h=>nomatch h⟩
 |_::vs,k::ks,⟨⟨a,its,rfl,⟨o,h1,h2,n,h3⟩,hi,hn⟩,r⟩=>by
  obtain⟨fs,f1,f2,f3⟩:=g8_.firsts r;cases hi with
  |nil=>exact absurd rfl hn
  |cons i t hi=>
   refine⟨.int i t::fs,.cons h1 h2 h3 (by simp) f1,by simp[f2],fun v hv=>?_⟩
   rcases Qm.mp hv with rfl|hv
   ·exact⟨i,t,rfl⟩
   ·exact f3 v hv
 |[],_::_,h=>h.elim
 |_::_,[],h=>h.elim
def a2b(fin:Bool):List Int->List Int->Bool
 |a::as,b::bs=>if a=b then a2b fin as bs else decide (a<b)
 |_,_=>fin
theorem b0t:∀(as bs:List Int),a2b (decide (as.length<bs.length)) as bs=HT.lexLt as bs
 |[],[]=>rfl
 |[],_::_=>by simp[a2b,HT.lexLt]
 |_::_,[]=>by simp[a2b,HT.lexLt]
 |a::as,b::bs=>by
  rw[HT.lexLt_cons,←b0t as bs]
  simp[a2b]
section
variable{prog:Program}{w:World}{A:Around}{s:Shared}{fin:Bool}{Q:Bool->Shared->Prop}
theorem b0u:∀{us ws:List Value}{as bs:List Int}{i:Nat},IntsAre us as->IntsAre ws bs->Q (a2b fin as bs) s->PySem.W.KatLex prog w A true fin Q (us.zip ws) i s
 |[],_,[],_,_,.nil,_,q=>q
 |_::_,[],_::_,[],_,.cons _ _ _,.nil,q=>q
 |_,_,_,_,i,.cons (vs:=us) (ns:=as) a t ha,.cons (vs:=ws) (ns:=bs) b u hb,q=>by
  refine PySem.W.kat_cons (SeqAt.EqAt.int_int a t b u prog w _ _ ?_)
  by_cases e:a=b
  ·subst e
   rw[Uh];exact PySem.W.kat_yes (b0u ha hb (by simpa [a2b]using q))
  ·have e':(a==b)=false:=by simpa using e
   rw[e'];refine PySem.W.kat_no ?_
   have q':Q (decide (a<b)) s:=by simpa [a2b,e]using q
   cases i with
   |zero=>exact oneLt_int q'
   |succ i=>exact PySem.W.kat_one _ _ (PyProof.Rows.lt_int (show PySem.W.BoolBack Q (.bool (decide (a<b))) s from q'))
end
section
variable{X:Cx}{pins:OX}{σ:St}{H:Hp}{s:Shared}
theorem b6a{h':Heap}{t':Nat}{m:OU}(I:Inv X pins σ H s)(hm:s.heap.Ns X.env.locals m)(hm':h'.Ns X.env.locals m)(k:∀b o,b≠X.env.locals->s.heap.get? b=some o->h'.get? b=some o):Inv X pins σ H {s with heap:=h',toks:=t'}:=by
 refine I.step (g':=s.gens) (d':=s.drawn) (ch:=[]) (fun _ z=>nomatch z) (fun b o hL _ _ e _=>k b o hL e) (fun b o hL _ _ e _=>⟨o.slots,k b o hL e⟩) (fun _ _ _ _ n=>n) (fun b o _ e=>?_) (fun _ _ e=>e) (fun _ _ _ e=>e) (fun b ps e=>⟨#[],by rw[e];simp⟩) (fun m2 hm2=>?_) (fun b u e=>?_) I.bare
 ·by_cases hb:b=X.env.locals
  ·subst hb
   obtain⟨o',_,_,ho,_⟩:=hm';exact⟨o',ho⟩
  ·exact⟨o,k b o hb e⟩
 ·have e:m2=m:=by
   funext x
   obtain⟨o1,es1,ep1,h1,h2,_,h3⟩:=hm;obtain⟨o2,es2,ep2,g1,g2,_,g3⟩:=hm2;rw[h1]at g1;cases g1;rw[h2]at g2;injection g2 with g4 _
   subst g4;rw[←h3,←g3]
  rw[e];exact hm'
 ·refine(I.hok b u e).stay (fun c v hc q=>k c v ?_ q) (fun _ q=>q) fun _ _ q=>q
  rcases hc with z|z
  ·rw[z];intro z2;rw[z2,I.free]at e;cases e
  ·intro z2;rw[z2,I.free]at z;cases z
theorem b0v{p:Addr}(I:Inv X pins σ H s)(np:∀b u,s.heap.get? b=some u->b≠p):H p=none:=by
 cases e:H p with
 |none=>rfl
 |some o=>
  obtain⟨ob,q⟩:=b5Z (I.hok p o e);exact absurd rfl (np p ob q)
theorem b6b{h':Heap}{t' n:Nat}{m:OU}{p:Addr}{ys:List V}{its:List Value}(I:Inv X pins σ H s)(hm:s.heap.Ns X.env.locals m)(hm':h'.Ns X.env.locals m)(k:∀b o,b≠X.env.locals->s.heap.get? b=some o->h'.get? b=some o)
  (np:∀b u,s.heap.get? b=some u->b≠p)(hv:q3_ ys its)(hz:ys.length≤sizeLine)(hn:h'.get? p=some {cls:=.type "list",data:=.seq its.toArray n}):Inv X pins σ (upd H p (.lst ys)) {s with heap:=h',toks:=t'}:=by
 have I1:Inv X pins σ H {s with heap:=h',toks:=t'}:=b6a I hm hm' k
 have hf:H p=none:=b0v I np
 refine I.step (g':=s.gens) (d':=s.drawn) (ch:=[]) (fun _ z=>nomatch z) (fun b o hL _ _ e _=>k b o hL e) (fun b o hL _ _ e _=>⟨o.slots,k b o hL e⟩) (fun b o _ e n=>by rw[q4_ (np b o e)];exact n) (fun b o _ e=>?_) (fun b xs q=>by rw[q4_ (w1_ q hf)];exact q) (fun b u xs q=>by rw[q4_ (w1_ q hf)];exact q) (fun b ps e=>⟨#[],by rw[q4_ (w1_ e hf),e];simp⟩) (fun m2 hm2=>?_) (fun b u e=>?_) I.bare
 ·by_cases hb:b=X.env.locals
  ·subst hb
   obtain⟨o',_,_,ho,_⟩:=hm';exact⟨o',ho⟩
  ·exact⟨o,k b o hb e⟩
 ·have e:m2=m:=by
   funext x
   obtain⟨o1,es1,ep1,h1,h2,_,h3⟩:=hm;obtain⟨o2,es2,ep2,g1,g2,_,g3⟩:=hm2;rw[h1]at g1;cases g1;rw[h2]at g2;injection g2 with g4 _
   subst g4;rw[←h3,←g3]
  rw[e];exact hm'
 ·by_cases hb:b=p
  ·subst hb
   rw[y3_]at e;cases e;exact⟨hz,its,n,hv,hn⟩
  ·rw[q4_ hb]at e
   exact(I1.hok b u e).stay (fun c v hc q=>q) (fun c q=>by rw[q4_ (w1_ q hf)];exact q) fun c xs q=>by rw[q4_ (w1_ q hf)];exact q
def keys(ds:List D):Option (OI):=ds.mapM fun d=>match d with
 |.tup es=>(ints? es).bind fun ns=>if ns.isEmpty then none else some ns
 |_=>none
def b0w(ks:OI):Option (List Nat):=if ks.length<2 then some (List.range ks.length)else if ks.length<64 then
 (a4r ks.length (fun i j=>HT.lexLt (ks.getD i []) (ks.getD j [])) (PySem.W.kas_sort ks.length)).bind fun p=>if p.toList.length≤1000 then some p.toList else none else none
def a7f(ds:List D):Option (List D):=(keys ds).bind fun ks=>(b0w ks).bind fun p=>p.mapM fun i=>ds[i]?
theorem b6c{l:Addr}{vs:List Value}{ks:OI}{p:Array Nat}{Q:OE}{E:OE}(I:Inv X pins σ H s)(hl:s.heap.IsList l vs.toArray)(ht:g8_ s.heap vs ks)(h2:2≤vs.length)(h64:vs.length<64)
  (hp:a4r vs.length (fun i j=>HT.lexLt (ks.getD i []) (ks.getD j [])) (PySem.W.kas_sort vs.length)=some p)
  (h:∀D c h' m,(∀b u,s.heap.get? b=some u->b≠D)->s.heap.Ns X.env.locals m->h'.Ns X.env.locals m->(∀b o,b≠X.env.locals->s.heap.get? b=some o->h'.get? b=some o)->
   h'.get? D=some {cls:=.type "list",data:=.seq (p.toList.map fun i=>vs.getD i Value.none).toArray c}->Q (.ref D) {s with heap:=h'}):
  wpAny (model X.prog X.w) X.A (call (.builtin "sorted") [.ref l]) Q E s:=by
 obtain⟨m,F⟩:=I.fr;have hm:s.heap.Ns X.env.locals m:=F.ns;have hbk:=I.bk;have keepOf:∀{h':Heap}{pre:OX},Fr X.base X.env.locals h' m->News X.base X.env.locals h' (pre++a3W X.base s.heap X.env.locals)->∀b o,b≠X.env.locals->s.heap.get? b=some o->h'.get? b=some o:=fun{h' pre} F' N' b o hL e=>by
  cases q:X.base.get? b with
  |some u=>
   have:=hbk b u q;rw[e]at this;cases this;exact F'.keep b _ q
  |none=>exact(N' (b,o) (Zm _ (a8I hL q e))).1
 have tl:∀{h':Heap},(∀b o,b≠X.env.locals->s.heap.get? b=some o->h'.get? b=some o)->∀a its,IsTup s.heap a its->IsTup h' a its:=fun{h'} k a its ⟨o,e,c,r⟩=>by
  refine⟨o,k a o ?_ e,c,r⟩;intro z;subst z;obtain⟨o',es,ep,g1,g2,_⟩:=hm;rw[e]at g1;cases g1;obtain⟨n,r⟩:=r;rw[g2]at r;cases r
 refine PySem.W.kat_sorted F a8J hl h2 h64 fun D e1 h' F' N' hD=>?_
 have k1:=keepOf (pre:=[(D,seqObj "list" #[] e1)]) F' N'
 have t1:g8_ h' vs ks:=ht.mono (tl k1)
 obtain⟨fs,f1,f2,f3⟩:=t1.firsts;refine PySem.W.kat_kind (s:={s with heap:=h'}) (T:=.type "int") f1 (by omega) (fun v hv=>?_) (by decide) ?_
 ·obtain⟨i,t,rfl⟩:=f3 v hv
  exact PySem.W.Looks.of_pure rfl
 ·have hDs:∀b o,s.heap.get? b=some o->b≠D:=fun b o e z=>by
   subst z
   by_cases hL:b=X.env.locals
   ·have:=(N' (b,seqObj "list" #[] e1) (Zz ..)).2.1
    exact this hL
   ·cases q:X.base.get? b with
    |some u=>
     have:=(N' (b,seqObj "list" #[] e1) (Zz ..)).2.2;simp only at this;rw[q]at this;cases this
    |none=>exact absurd (hD (b,o) (a8I hL q e)) (Yh _)
  refine b0s (s:={s with heap:=h'}) (lt:=fun i j=>HT.lexLt (ks.getD i []) (ks.getD j [])) (fun i j C hi hj hc=>?_) _ hp ?_
  ·obtain⟨a,its,ea,⟨oa,p1,_,na,p2⟩,ia⟩:=t1.get hi
   obtain⟨b,jts,eb,⟨ob,q1,_,nb,q2⟩,ib⟩:=t1.get hj;unfold PySem.W.kas_ask;rw[ea,eb];have hb:(Value.type "int" !=Value.type "tuple")=true:=by decide
   rw[hb];refine PySem.W.kat_lt (s:={s with heap:=h'}) p1 p2 q1 q2 ?_
   have la:=ia.length
   have lb:=ib.length
   refine b0u ia ib ?_
   have e:decide (its.toArray.size<jts.toArray.size)=decide ((ks.getD i []).length<(ks.getD j []).length):=by
    rw[Qp,Qp,la,lb]
   rw[e,b0t];exact hc
  ·refine PySem.W.KasFin.intro (s:={s with heap:=h'}) F' N' (.head fun q hq=>?_) fun h2' c F2 N2=>?_
   ·exact hDs q.1 q.2 (a8J q hq).1
   ·have k2:=keepOf (pre:=[(D,PySem.W.listOf (List.toArray (p.toList.map fun i=>vs.getD i Value.none)) c)]) F2 N2
    exact h D c h2' m hDs hm F2.ns k2 (N2 _ (Zz ..)).1
theorem b6d{l:Addr}{vs:List Value}{Q:OE}{E:OE}(I:Inv X pins σ H s)(hl:s.heap.IsList l vs.toArray)(h2:vs.length<2)
  (h:∀D c h' m,(∀b u,s.heap.get? b=some u->b≠D)->s.heap.Ns X.env.locals m->h'.Ns X.env.locals m->(∀b o,b≠X.env.locals->s.heap.get? b=some o->h'.get? b=some o)->
   h'.get? D=some {cls:=.type "list",data:=.seq vs.toArray c}->Q (.ref D) {s with heap:=h'}):
  wpAny (model X.prog X.w) X.A (call (.builtin "sorted") [.ref l]) Q E s:=by
 obtain⟨m,F⟩:=I.fr;have hm:s.heap.Ns X.env.locals m:=F.ns;refine Calls.call_function_entry kind_sorted plain_sorted entry_sorted (args_sorted1 _) ?_
 unfold Builtin.«sorted»;refine Qz (m:=checkCount "sorted" 1 1 _) (Qd (Qz (collect_list hl ?_ (by rw[Jl];omega))))
 refine Qz (Xk ?_ (by rw[Jl];omega))
 have hsz:((s.heap.push (seqObj "list" #[] 0)).update s.heap.objs.size (Obj.mapSeq (· ++vs.toArray))).objs.size=s.heap.objs.size+1:=by rw[Heap.size_update,size_push']
 generalize eg:((s.heap.push (seqObj "list" #[] 0)).update s.heap.objs.size (Obj.mapSeq (· ++vs.toArray)))=g1 at hsz
 have k1:∀b o,s.heap.get? b=some o->g1.get? b=some o:=fun b o q=>by
  have hlt:b<s.heap.objs.size:=Qu q
  rw[←eg,Vs _ _ _ _ (Qi hlt),Heap.get?_push_ne _ _ _ (Qi hlt)];exact q
 generalize eg2:g1.push (seqObj "list" vs.toArray 0)=g2;have hg2:({cls:=.type "list",data:=.seq vs.toArray}:Obj)=seqObj "list" vs.toArray 0:=rfl;show wpAny _ _ _ _ _ {s with heap:=g2}
 dsimp only;rw[hsz];have k2:∀b o,s.heap.get? b=some o->g2.get? b=some o:=fun b o q=>by rw[←eg2];exact Qj _ (k1 b o q)
 have hD:g2.get? (s.heap.objs.size+1)=some (seqObj "list" vs.toArray 0):=by rw[←eg2,←hsz];exact Qh _ rfl
 have hs2:g2.objs.size=s.heap.objs.size+2:=by rw[←eg2,size_push',hsz]
 refine Qz (Vy (Ul slot_list_sort ⟨_,hD,rfl⟩ entry_list_sort ?_ (args_list_sort _)));rw[list_sort_plain];refine Qz (listItems_at hD rfl (Qz (listUpdate_at hD rfl ?_ (by rw[Qp,Jl];omega) (Jd _))))
 obtain⟨e1,ho1⟩:∃e1,(g2.update (s.heap.objs.size+1) (Obj.mapSeq fun _=>#[])).get? (s.heap.objs.size+1)=some (seqObj "list" #[] e1):=⟨_,get?_update_seq hD fun _=>#[]⟩
 refine Qz (seqEpoch_at ho1 rfl (Qz (wpAny_newTuple (Qz (Xk (Vy ?_) (by rw[Jl];simp))) (by rw[Jl];simp;omega))))
 generalize eg3:(g2.update (s.heap.objs.size+1) (Obj.mapSeq fun _=>#[]))=g3 at ho1 ⊢
 have hs3:g3.objs.size=s.heap.objs.size+2:=by rw[←eg3,Heap.size_update];exact hs2
 have k3:∀b o,s.heap.get? b=some o->g3.get? b=some o:=fun b o q=>by
  rw[←eg3,Vs _ _ _ _ (Qi (Jh (Qu q)))];exact k2 b o q
 generalize eg4:(g3.push {cls:=.type "tuple",data:=.seq vs.toArray}).push {cls:=.type "list",data:=.seq #[]}=g4;have up4:∀b o,g3.get? b=some o->g4.get? b=some o:=fun b o q=>by rw[←eg4];exact Qj _ (Qj _ q)
 have ho4:g4.get? (s.heap.objs.size+1)=some (seqObj "list" #[] e1):=up4 _ _ ho1
 dsimp only;have hlt2:vs.toArray.size<2:=by simpa using h2
 rw[Qn hlt2,Qn hlt2];refine Qz (Qd ?_);rw[StateT.run_pure];refine Qz (Qd ?_);dsimp only;have ez:Array.map (fun(x:Keyed)=>x.snd) (arrOf (SortSt.mk' general' (vs.toArray.zip vs.toArray) #[] 7 none))=vs.toArray:=by
  show Array.map (fun(x:Keyed)=>x.snd) (vs.toArray.zip vs.toArray)=vs.toArray
  apply Array.toList_inj.mp
  rw[Array.toList_map,Array.toList_zip];exact List.map_snd_zip (Qw _)
 rw[ez];refine Qz (seqEpoch_at ho4 rfl (Qz (listUpdate_at ho4 rfl ?_ (by rw[Jl];simp) (by rw[Qp,Jl];omega))))
 rw[Qr (by simp)]
 have ho5:=get?_update_seq ho4 fun _=>vs.toArray
 refine Qd ⟨_,rfl,Qd ⟨_,rfl,?_⟩⟩;have k5:∀b o,s.heap.get? b=some o->(g4.update (s.heap.objs.size+1) (Obj.mapSeq fun _=>vs.toArray)).get? b=some o:=fun b o q=>by
  rw[Vs _ _ _ _ (Qi (Jh (Qu q)))];exact up4 b o (k3 b o q)
 obtain⟨ol,es,ep,q1,q2⟩:=id hm;exact h (s.heap.objs.size+1) _ _ m (fun b u q=>Qi (Jh (Qu q))) hm ⟨ol,es,ep,k5 _ _ q1,q2⟩ (fun b o _ q=>k5 b o q) ho5
end
section
variable{X:Cx}{B:OA}
theorem b0x{K:Qq}{G:Hp}:∀{es:List D}{xs:List V}{us:List Value}{ns:List Int},z6_ K G xs es->q3_ xs us->ints? es=some ns->IntsAre us ns
 |[],_,us,ns,r,v,e=>by simp only[z6_]at r;subst r;cases v;cases e;exact .nil
 |d::es,_,us,ns,r,v,e=>by
  simp only[z6_]at r;obtain⟨x,t,rfl,q,r⟩:=r;cases d<;>first|(exact absurd (show(none:Option (List Int))=some ns from e) (by simp))|skip
  obtain⟨l,e1,e2⟩:=v8_ (show(ints? es).map _=some ns from e)
  subst e2;simp only[Rep]at q;subst q;cases v with
  |cons v1 v2=>
   obtain⟨tk,rfl⟩:=v1;exact .cons _ _ (b0x r v2 e1)
theorem b0y{pins:OX}{σ:St}{G H:Hp}{s:Shared}(I:Inv X pins σ H s)(l:Le G H):∀{ds:List D}{xs:List V}{us:List Value}{ks:OI},z6_ X.K G xs ds->q3_ xs us->keys ds=some ks->g8_ s.heap us ks
 |[],_,us,ks,r,v,e=>by simp only[z6_]at r;subst r;cases v;cases e;trivial
 |d::ds,_,us,ks,r,v,e=>by
  simp only[z6_]at r;obtain⟨x,t,rfl,q,r⟩:=r;unfold keys at e;rw[List.mapM_cons]at e;obtain⟨k,e1,e2⟩:=q1_ e;obtain⟨ks',e3,e4⟩:=q1_ e2;cases e4;cases v with
  |cons v1 v2=>
   refine⟨?_,b0y I l r v2 e3⟩;split at e1
   ·rename_i es
    obtain⟨ns,e5,e6⟩:=q1_ e1;split at e6
    ·cases e6
    ·rename_i hne
     cases e6;simp only[Rep]at q;obtain⟨a,ys,rfl,q1,q2⟩:=q;cases v1;obtain⟨its,rv,p,_⟩:=I.tuple (l.sqT q1);exact⟨a,its,rfl,p,b0x q2 rv e5,fun z=>hne (by rw[z];rfl)⟩
   ·cases e1
theorem b0z{K:Qq}{G:Hp}{ds:List D}{xs:List V}{us:List Value}(r:z6_ K G xs ds)(v:q3_ xs us):∀{p:List Nat}{es:List D},(p.mapM fun i=>ds[i]?)=some es->∃ys,q3_ ys (p.map fun i=>us.getD i Value.none)/\z6_ K G ys es
 |[],es,e=>by cases e;exact⟨[],.nil,repL_nil⟩
 |i::p,es,e=>by
  rw[List.mapM_cons]at e;obtain⟨d,e1,e2⟩:=q1_ e;obtain⟨es',e3,e4⟩:=q1_ e2;cases e4;obtain⟨ys,h1,h2⟩:=b0z r v e3;obtain⟨x,g1,g2⟩:=r.get e1;obtain⟨u,g3,g4⟩:=v.get g1;refine⟨x::ys,?_,repL_cons g2 h2⟩;rw[Qg];have:us.getD i Value.none=u:=by simp[g3]
  rw[this];exact .cons g4 h1
theorem b6e:k3_ X (.builtin "sorted") (fun xs H Q=>∃p G ys ds es,xs=[.ref p]/\Le G H/\SqL X.K G p ys/\z6_ X.K G ys ds/\a7f ds=some es/\∀l zs,H l=none->z6_ X.K G zs es->Q (.ref l) (upd H l (.lst zs))):=by
 intro pins s σ H xs us Q I r h;obtain⟨p,G,ys,ds,es,rfl,l,hq,rp,es',q⟩:=h;obtain⟨u,rfl,rx⟩:=a1x r;cases rx;obtain⟨vs,rv,pl,hz⟩:=I.list (l.sqL hq);obtain⟨ks,e1,e2⟩:=q1_ es';obtain⟨pm,e3,e4⟩:=q1_ e2;have ht:g8_ s.heap vs ks:=b0y I l rp rv e1;have hlen:=ht.len;have hlen2:vs.length=ds.length:=by rw[←rv.length,rp.length]
 obtain⟨zs,h1,h2⟩:=b0z rp rv e4;have fin:∀(D:Addr) (c:Nat) (h':Heap) (m:OU),(∀b u,s.heap.get? b=some u->b≠D)->s.heap.Ns X.env.locals m->h'.Ns X.env.locals m->(∀b o,b≠X.env.locals->s.heap.get? b=some o->h'.get? b=some o)->
   h'.get? D=some {cls:=.type "list",data:=.seq (pm.map fun i=>vs.getD i Value.none).toArray c}->pm.length≤1000->EP X pins σ Q (.ref D) {s with heap:=h'}:=fun D c h' m a1 a2 a3 a4 a5 hpl=>by
  have hzl:zs.length≤sizeLine:=by
   have:=h1.length;rw[Qk]at this;rw[this];exact Ye (a3k hpl)
  exact⟨.ref D,_,b6b (t':=s.toks) I a2 a3 a4 a1 h1 hzl a5,rfl,q D zs (b0v I a1) h2⟩
 unfold b0w at e3;split at e3
 ·rename_i hn
  cases e3;refine b6d I pl.isList (by omega) fun D c h' m a1 a2 a3 a4 a5=>fin D c h' m a1 a2 a3 a4 ?_ (by simp;omega)
  have:((List.range ks.length).map fun i=>vs.getD i Value.none)=vs:=by
   apply Xu
   ·simp[hlen]
   ·intro i h1 h2
    simp[h2]
  rw[this];exact a5
 ·rename_i hn
  split at e3
  ·rename_i h64
   obtain⟨pa,e5,e6⟩:=q1_ e3;split at e6
   case isFalse=>cases e6
   rename_i hpl;cases e6;refine b6c (p:=pa) I pl.isList ht (by omega) (by omega) (by rw[hlen];exact e5) fun D c h' m a1 a2 a3 a4 a5=>fin D c h' m a1 a2 a3 a4 a5 hpl
  ·cases e3
end
section
variable{X:Cx}{B:OA}{pos:Pos}
theorem b6f{pins:OX}{σ:St}{H:Hp}{s:Shared}(I:Inv X pins σ H s):sysModules<s.heap.objs.size:=by
 have h:mainGlobals<s.heap.objs.size:=(I.mod.glob.keeps I.bk).lt
 exact Vc (by decide) h
theorem b6g:PE X (.Dict [] [] pos) (fun _ H Q=>∀p,H p=none->Q (.ref p) (upd H p (.dK []))):=fun pins s σ H Q I h=>
 wpAny_Dict_empty ⟨.ref s.heap.objs.size,_,I.laid (a:=s.heap.objs.size) (o:=.dK []) (t':=s.toks) (fun _ _ q=>Qj _ q) (Qw _)
  ⟨Jd _,Qa.mpr (Zh (Qi (b6f I))),[],.nil,Heap.DictOf.new s.heap⟩,rfl,h _ (I.hok.fresh (Qw _))⟩
theorem b6h:ED X B (.Dict [] [] pos) (mC .emp):=by
 refine pe_imp b6g ?_
 rintro σ H Q ⟨G,env,d,env',rl,e,k⟩;cases e;exact fun p hp=>k _ _ _ (rl.alloc hp) (by simp only[Rep];exact⟨p,[],rfl,y3_⟩)
end
section
variable{X:Cx}{B:OA}{pos p:Pos}{e:Expr}{es:List Expr}{as:Mo (List Ar)}{fn:Fn}{k n:Nat}{f:Addr}{fd:FuncData}{ps:List Str}{x:Str}
structure Def(P:Program)(w:World)(K:Qq)(mg:OU)(base:Heap)(x:Str)(k n:Nat)(fn:Fn):Prop where
 ex:∃(f:Addr) (fd:FuncData) (ps:List Str),FnOk P w K mg base CX0 k f fd ps (SpF K n fn)/\ps.length=n/\mg x=some (.ref f)/\PySem.W.keepIn K (.ref f)=true/\a0w K fd ps []
theorem x0_(D:Def X.prog X.w X.K X.mg X.base x k n fn)(hr:Room k X.A)(hg:Gl X x)(ha:EAr X B (e::es) as)(hdb:(x==("__debug__":Str))=false:=by decide)
  (he:starEach (e::es) X.env=(false,eval e X.env)::starEach es X.env:=by rfl)(hpl:(backTo pos (starEach es X.env)).any (·.1)=false:=by rfl):
  ED X B (.Call (.Name x p) (e::es) [] pos) (mCD n fn as):=by
 obtain⟨f,fd,ps,F,rfl,hm,hk,hb⟩:=D.ex;exact b5h F hr hg hm hk hb ha hdb he hpl
theorem b0A(D:Def X.prog X.w X.K X.mg X.base x k n fn)(hr:Room k X.A)(hg:Gl X x)(ha:EAr X B (e::es) as)(hdb:(x==("__debug__":Str))=false:=by decide)
  (he:starEach (e::es) X.env=(false,eval e X.env)::starEach es X.env:=by rfl)(hpl:(backTo pos (starEach es X.env)).any (·.1)=false:=by rfl):
  EL X B (.Call (.Name x p) (e::es) [] pos) (a1C n fn as):=by
 obtain⟨f,fd,ps,F,rfl,hm,hk,hb⟩:=D.ex;exact b5i F hr hg hm hk hb ha hdb he hpl
def a2c:Option NameKind->Option NameKind->Bool:=fun a b=>decide (a=b)
def b0B(outN N':List Str)(outNames:List (Str×NameKind))(cells:List (Str×Addr))(scope:Scope)(keep:List Bool)(more:Nat):Bool:=
 (decide (scope.kind=.function)&&(scope.names.all (fun y=>a2c (scope.names.lookup y.1) (some y.2))&&(scope.names.all (fun y=>!a2c (some y.2) (some .free)||(cells.lookup y.1).isSome)&&(decide (keep.length=outN.length)&&(decide (N'.length=outN.length+more)&&
  (List.range keep.length).all fun i=>!(keep.getD i false)||match N'[i]?,outN[i]? with
   |some x,some y=>decide (x=y)&&(!a2c (scope.names.lookup x) (some .local)&&(!a2c (scope.names.lookup x) (some .cell)&&(!a2c (scope.names.lookup x) (some .free)||(a2c (outNames.lookup x) (some .cell)||a2c (outNames.lookup x) (some .free)))))
   |_,_=>false)))))
theorem w8_{N':List Str}{scope:Scope}{keep:List Bool}{more:Nat}(c:closureFor scope X.env=pure (j4_ X.env.cells scope.names []))(h:b0B X.N N' X.env.scope.names X.env.cells scope keep more=true):CompOk X N' scope keep more:=by
 unfold b0B at h;simp only[Qy,Zf,Qv,a2c]at h;obtain⟨h1,h2,h3,h4,h5,h6⟩:=h;have gt:∀(i:Nat) (x:Str),keep[i]? =some true->N'[i]? =some x->∃y,X.N[i]? =some y/\x=y/\ ¬ (scope.names.lookup x=some .local)/\ ¬ (scope.names.lookup x=some .cell)/\(scope.names.lookup x=some .free->X.env.scope.names.lookup x=some .cell∨X.env.scope.names.lookup x=some .free):=fun i x e1 e2=>by
  have hi:i<keep.length:=(Qb.mp e1).1
  have q:=h6 i (Yy.mpr hi)
  have e3:keep.getD i false=true:=by simp[e1]
  rw[e3,e2]at q;cases e4:X.N[i]? with
  |none=>rw[e4]at q;simp at q
  |some y=>
   rw[e4]at q;simp only[Bool.not_true,Xx,Qy,Zf,Up,decide_eq_false_iff_not,Xh]at q;obtain⟨q1,q2,q3,q4⟩:=q;exact⟨y,rfl,q1,q2,q3,fun z=>q4.elim (fun n=>absurd z n) id⟩
 refine⟨h1,h2,c,fun y hy hf=>?_,h4,h5,fun i x e1 e2=>?_,fun i x e1 e2 e3=>?_⟩
 ·have q:=h3 y hy
  rw[hf]at q
  simpa using q
 ·obtain⟨y,g1,g2,g3,g4,_⟩:=gt i x e1 e2
  exact⟨by rw[g1,g2],g3,g4⟩
 ·have hi:i<keep.length:=(Qb.mp e1).1
  have hN:i<N'.length:=by omega
  obtain⟨y,g1,g2,g3,g4,g5⟩:=gt i _ e1 (Zx hN);rw[e2]at g1;cases g1;rw[g2]at g5;exact g5 e3
end
section
variable{X:Cx}{B:OA}{pos:Pos}
theorem b6i{x:Str}{i:Int}(hg:Gl X x)(hm:∃t,X.mg x=some (.int i t))(hd:(x==("__debug__":Str))=false:=by decide):ED X B (.Name x pos) (mC (.int i)):=by
 obtain⟨t,hm⟩:=hm;exact b4N hg hm hd
def Kp(i:Nat)(m:Mo D):Prop:=∀env d env' w ds,m env=some (d,env')->env'[i]? =some w->w.mut=some ds->∃w0 ds0,env[i]? =some w0/\w0.mut=some ds0
theorem a2N{i:Nat}{d:D}:Kp i (mC d):=fun env d' env' w ds e h1 h2=>by cases e;exact⟨w,ds,h1,h2⟩
theorem a5v{i j:Nat}(hj:j≠i):Kp i (z0_ j):=fun env d' env' w ds e h1 h2=>by
 unfold z0_ at e;split at e
 ·cases e;exact⟨w,ds,h1,h2⟩
 ·cases e
  rw[Qc hj]at h1;exact⟨w,ds,h1,h2⟩
 ·cases e
  rw[Qc hj]at h1;exact⟨w,ds,h1,h2⟩
 ·cases e
theorem a7g:bootBuiltins "int"=some (.type "int"):=by decide+kernel
theorem a5w:bootBuiltins "bool"=some (.type "bool"):=by decide+kernel
theorem b6j:bootBuiltins "str"=some (.type "str"):=by decide+kernel
theorem a0b:bootBuiltins "tuple"=some (.type "tuple"):=by decide+kernel
theorem a7h:bootBuiltins "list"=some (.type "list"):=by decide+kernel
theorem a3z:bootBuiltins "all"=some (.builtin "all"):=by decide+kernel
theorem b6k:bootBuiltins "max"=some (.builtin "max"):=by decide+kernel
theorem b6l:bootBuiltins "min"=some (.builtin "min"):=by decide+kernel
theorem b6m:bootBuiltins "sorted"=some (.builtin "sorted"):=by decide+kernel
end
theorem a7i{K:Qq}{G:Hp}:∀ns:List Int,z6_ K G (ns.map V.int) (ns.map D.int)
 |[]=>repL_nil
 |n::ns=>repL_cons (by simp only[Rep]) (a7i ns)
def a4s:Expr->Bool
 |.Starred _ _=>true
 |_=>false
theorem z1_{e:Expr}{es:List Expr}{env:Env}(h:a4s e=false):starEach (e::es) env=(false,eval e env)::starEach es env:=by
 cases e<;>first|rfl|cases h
theorem se1{a:Expr}{env:Env}(h:a4s a=false):starEach [a] env=[(false,eval a env)]:=by rw[z1_ h];rfl
theorem se2{a b:Expr}{env:Env}(h:a4s a=false)(h2:a4s b=false):starEach [a,b] env=[(false,eval a env),(false,eval b env)]:=by rw[z1_ h,se1 h2]
theorem q2_{pos:Pos}{env:Env}:∀{es:List Expr},es.all (fun e=>!a4s e)=true->(backTo pos (starEach es env)).any (·.1)=false
 |[],_=>rfl
 |e::es,h=>by
  rw[Za,Qy,Up]at h;rw[z1_ h.1];show(false||(backTo pos (starEach es env)).any (·.1))=false
  rw[q2_ h.2];rfl
theorem x3_{m n:Mo Fl}{e e1:Env'}(h:m e=some (.nx,e1)):z9_ m n e=n e1:=by unfold z9_;rw[h];rfl
theorem j9_{m n:Mo Fl}{e e1:Env'}{d:D}(h:m e=some (.ret d,e1)):z9_ m n e=some (.ret d,e1):=by unfold z9_;rw[h];rfl
theorem a0I{t:Mo Bool}{m n:Mo Fl}{e e1:Env'}(h:t e=some (true,e1)):v1_ t m n e=m e1:=by unfold v1_;rw[h];rfl
theorem a0C{t:Mo Bool}{m n:Mo Fl}{e e1:Env'}(h:t e=some (false,e1)):v1_ t m n e=n e1:=by unfold v1_;rw[h];rfl
theorem b6n(neg:Bool)(i j:Int):dEq neg (.int i) (.int j)=some (.bl (if neg then !(i==j)else(i==j))):=rfl
theorem a7j{g:OZ}{m:Mo D}{P:Env'->Prop}{f:D->D}:∀{ds:List D}{env:Env'},(∀d∈ds,∀e,P e->∃e1 e2,g d e=some e1/\m e1=some (f d,e2)/\P e2)->P env->
  ∃env',k9_ g v9_ m ds env=some (ds.map f,env')/\P env'
 |[],env,_,p=>⟨env,rfl,p⟩
 |d::ds,env,h,p=>by
  obtain⟨e1,e2,h1,h2,h3⟩:=h d (by simp) env p
  obtain⟨e3,h4,h5⟩:=a7j (ds:=ds) (fun x hx=>h x (by simp[hx])) h3
  refine⟨e3,?_,h5⟩;unfold k9_;rw[h1];simp only[Qx,v9_,Zs];rw[h2];simp only[Qx];rw[h4];rfl
theorem a2O{α:Type}(f:α->Bool):∀l:List α,a0p (l.map fun x=>D.bl (f x))=some (l.all f)
 |[]=>rfl
 |x::l=>by simp[a0p,a2O f l]
theorem w3_{N:Nat}{mb:Mo Fl}{ws env:List W}{d:D}(h:mb (ws++List.replicate (N-ws.length) .nil)=some (.ret d,env)):fnM N mb ws=some (.d d,a0B ws env):=by unfold fnM;rw[h]
theorem b0C{N:Nat}{mb:Mo Fl}{ws env:List W}{d:List D}(h:mb (ws++List.replicate (N-ws.length) .nil)=some (.retL d,env)):fnM N mb ws=some (.l d,a0B ws env):=by unfold fnM;rw[h]
def stop(b:Bool)(d:D):Fl:=if b then .nx else .ret d
theorem a7k{g:OZ}{b:Mo Fl}{P:Env'->Prop}{ok:D->Bool}{r:D}:∀{ds:List D}{env:Env'},(∀d∈ds,∀e,P e->∃e1 e2,g d e=some e1/\b e1=some (stop (ok d) r,e2)/\P e2)->P env->∃env',loop g b ds env=some (stop (ds.all ok) r,env')/\P env'
 |[],env,_,p=>⟨env,rfl,p⟩
 |d::ds,env,h,p=>by
  obtain⟨e1,e2,h1,h2,h3⟩:=h d (by simp) env p
  by_cases hk:ok d=true
  ·obtain⟨e3,h4,h5⟩:=a7k (ds:=ds) (fun x hx=>h x (by simp[hx])) h3
   refine⟨e3,?_,h5⟩;unfold loop;rw[h1];simp only[Qx];rw[h2,hk,Za,hk,Ze];exact h4
  ·have hk':ok d=false:=by simpa using hk
   refine⟨e2,?_,h3⟩;unfold loop;rw[h1];simp only[Qx];rw[h2,hk',Za,hk',Jk];rfl
theorem a2d{mi:Mo (List D)}{keep:List Bool}{more:Nat}{g:OZ}{t:Mo Bool}{m:Mo D}{env e1 e2 e3:Env'}{ds r:List D}(h:mi env=some (ds,e1))(hl:ds.length≤100000)(hc:k9_ g t m ds (w6_ keep more e1)=some (r,e2))(ho:w7_ keep e1 e2=some e3):
  v6_ mi keep more g t m env=some (r,e3):=by
 unfold v6_;rw[h];show(if ds.length≤100000 then(k9_ g t m ds (w6_ keep more e1)).bind _ else none)=_
 rw[Qn hl,hc];show(w7_ keep e1 e2).map _=_;rw[ho];rfl
theorem a4t{ms:Mo (List D)}{env e1:Env'}{j:Int}(h:ms env=some ([.int j],e1))(h1: -1000000<j)(h2:j<1000000):j2_ ms env=some (a0d 0 j.toNat,e1):=by
 unfold j2_;rw[h];exact Qn ⟨h1,h2⟩
theorem a0q{f:List D->Option D}{ms:Mo (List D)}{env e1:Env'}{ds:List D}{d:D}(h:ms env=some (ds,e1))(hf:f ds=some d):mCB f ms env=some (d,e1):=by unfold mCB;rw[h];show(f ds).map _=_;rw[hf];rfl
theorem k2_{m:Mo D}{ms:Mo (List D)}{env e1 e2:Env'}{d:D}{ds:List D}(h:m env=some (d,e1))(h2:ms e1=some (ds,e2)):z2_ m ms env=some (d::ds,e2):=by unfold z2_;rw[h];show(ms e1).map _=_;rw[h2];rfl
theorem a1E{m:Mo D}{ms:Mo (List Ar)}{env e1 e2:Env'}{d:D}{ds:List Ar}(h:m env=some (d,e1))(h2:ms e1=some (ds,e2)):z7_ m ms env=some (.d d::ds,e2):=by unfold z7_;rw[h];show(ms e1).map _=_;rw[h2];rfl
theorem g0_{m:Mo (List D)}{env e1:Env'}{ds:List D}(h:m env=some (ds,e1)):mF m env=some (.lst ds,e1):=by unfold mF;rw[h];rfl
theorem a3A{m:Mo D}{env e1:Env'}{d:D}{ds:List D}(h:m env=some (d,e1))(hd:d.items=some ds):y6_ m env=some (ds,e1):=by unfold y6_;rw[h];show d.items.map _=_;rw[hd];rfl
theorem v3_{f:D->D->Option D}{ma mb:Mo D}{env e1 e2:Env'}{a b c:D}(h1:ma env=some (a,e1))(h2:mb e1=some (b,e2))(hf:f a b=some c):z3_ f ma mb env=some (c,e2):=by
 unfold z3_;rw[h1];show(mb e1).bind _=_;rw[h2];show(f a b).map _=_;rw[hf];rfl
theorem a0h{m:Mo D}{env e1:Env'}{d:D}(h:m env=some (d,e1)):q7_ m env=some (.ret d,e1):=by unfold q7_;rw[h];rfl
theorem b6o{m:Mo (List D)}{env e1:Env'}{d:List D}(h:m env=some (d,e1)):a2E m env=some (.retL d,e1):=by unfold a2E;rw[h];rfl
theorem a0V{i:Nat}{m:Mo D}{env e1:Env'}{d:D}(h:m env=some (d,e1)):v2_ i m env=some (.nx,e1.set i (.dat d)):=by unfold v2_;rw[h];rfl
theorem b0D{i:Nat}{m:Mo (List D)}{env e1:Env'}{d:List D}(h:m env=some (d,e1)):u7_ i m env=some (.nx,e1.set i (.own d)):=by unfold u7_;rw[h];rfl
theorem g1_{m:Mo D}{env e1:Env'}{b:Bool}(h:m env=some (.bl b,e1)):mT m env=some (b,e1):=by unfold mT;rw[h];rfl
theorem a0W{m:Mo Bool}{env e1:Env'}{b:Bool}(h:m env=some (b,e1)):y2_ m env=some (!b,e1):=by unfold y2_;rw[h];rfl
theorem a3B{mi:Mo (List D)}{g:OZ}{b:Mo Fl}{env e1:Env'}{ds:List D}(h:mi env=some (ds,e1)):j3_ mi g b env=loop g b ds e1:=by unfold j3_;rw[h];rfl
theorem a2e{n:Nat}{f:Fn}{as:Mo (List Ar)}{env e1:Env'}{av:List Ar}{r:Rr}{ws':List W}(h:as env=some (av,e1))(hn:av.length=n)(hs:slots av=[])(hf:f (av.map (j8_ (.l [])))=some (r,ws')):a1B n f as env=some (r,e1):=by
 unfold a1B;rw[h];show(if av.length=n then _ else none)=_
 rw[Qn hn];simp only[hs];rw[hf];rfl
theorem a3C{n i:Nat}{f:Fn}{as:Mo (List Ar)}{env e1:Env'}{av:List Ar}{r:Rr}{ws':List W}{w:W}{c c':List D}(h:as env=some (av,e1))(hn:av.length=n)(hs:slots av=[i])(hw:e1[i]? =some w)(hm:w.mutL=some c)(hf:f (av.map (j8_ (.l c)))=some (r,ws'))(hp:a1X ws'=some (.l c')):
  a1B n f as env=some (r,e1.set i (w.put c')):=by
 unfold a1B;rw[h];show(if av.length=n then _ else none)=_
 rw[Qn hn];simp only[hs];rw[hw];simp only[Qx];rw[W.mutL_of hm];simp only[Qx];rw[hf];simp only[Qx];rw[hp,W.put_eq hm];rfl
theorem a0J{n:Nat}{f:Fn}{as:Mo (List Ar)}{env e1:Env'}{d:D}(h:a1B n f as env=some (.d d,e1)):mCD n f as env=some (d,e1):=by unfold mCD;rw[h];rfl
theorem b0E{n:Nat}{f:Fn}{as:Mo (List Ar)}{env e1:Env'}{d:List D}(h:a1B n f as env=some (.l d,e1)):a1C n f as env=some (d,e1):=by unfold a1C;rw[h];rfl
section
variable{X:Cx}{B:OA}{pos:Pos}{e:Expr}{ma:Mo D}
def a2P(m:Mo D):Mo Fl:=fun env=>(m env).map fun p=>(.nx,p.2)
theorem b6p(h:ED X B e ma)(hsw:swapsWith e none pos.line X.env=pure false:=by rfl):ES X B (.Expr e pos) (a2P ma):=by
 refine ps_imp (a6f (te:=TD X.K B ma) h hsw) ?_
 rintro D σ H ⟨G,env,fl,env',rl,e,k⟩;obtain⟨⟨d,env1⟩,e1,e2⟩:=v8_ e;cases e2;exact .bind rl e1 fun v G' H' ev r=>k σ G' H' ev
theorem b6q{m:Mo D}{env e1:Env'}{d:D}(h:m env=some (d,e1)):a2P m env=some (.nx,e1):=by unfold a2P;rw[h];rfl
end
def a2Q(x:Int):List Int->List Int
 |[]=>[x]
 |y::l=>if x≤y then x::y::l else y::a2Q x l
def a1F:List Int->List Int
 |[]=>[]
 |x::l=>a2Q x (a1F l)
theorem a7l(x:Int):∀l,(a2Q x l).Perm (x::l)
 |[]=>.refl _
 |y::l=>by
  unfold a2Q;split
  ·exact .refl _
  ·exact((a7l x l).cons y).trans (.swap x y l)
theorem a7m:∀l,(a1F l).Perm l
 |[]=>.refl _
 |x::l=>(a7l x (a1F l)).trans ((a7m l).cons x)
theorem b0F{x:Int}:∀{l:List Int},l.Pairwise (· ≤ ·)->(a2Q x l).Pairwise (· ≤ ·)
 |[],_=>by simp[a2Q]
 |y::l,h=>by
  unfold a2Q;obtain⟨h1,h2⟩:=Uz.mp h;split
  ·rename_i hx
   refine Uz.mpr ⟨fun z hz=>?_,h⟩
   rcases Qm.mp hz with rfl|hz
   ·exact hx
   ·exact Int.le_trans hx (h1 z hz)
  ·rename_i hx
   refine Uz.mpr ⟨fun z hz=>?_,b0F h2⟩
   rcases Qm.mp ((a7l x l).mem_iff.mp hz)with rfl|hz
   ·omega
   ·exact h1 z hz
theorem b0G:∀l,(a1F l).Pairwise (· ≤ ·)
 |[]=>.nil
 |x::l=>b0F (b0G l)
theorem b0H:∀{l k:List Int},l.Perm k->l.Pairwise (· ≤ ·)->k.Pairwise (· ≤ ·)->l=k
 |[],k,p,_,_=>p.nil_eq
 |x::l,k,p,h1,h2=>by
  cases k with
  |nil=>exact absurd p.symm.nil_eq (by simp)
  |cons y k=>
   obtain⟨a1,a2⟩:=Uz.mp h1;obtain⟨b1,b2⟩:=Uz.mp h2;have e:x=y:=by
    have m1:x∈y::k:=p.mem_iff.mp (by simp)
    have m2:y∈x::l:=p.mem_iff.mpr (by simp)
    rcases Qm.mp m1 with z|z
    ·exact z
    ·rcases Qm.mp m2 with w|w
     ·exact w.symm
     ·have:=a1 y w;have:=b1 x z;omega
   subst e;rw[b0H (p.cons_inv) a2 b2]
section
variable{X:Cx}{B:OA}
def b0I(X:Cx):List V->Hp->VK->Prop:=fun xs H Q=>∃p ns,xs=[.ref p]/\SqL X.K H p (ns.map V.int)/\ns.length<64/\∀l,H l=none->Q (.ref l) (upd H l (.lst ((a1F ns).map V.int)))
theorem b0J:∀{us:List Value}{ns:List Int},IntsAre us ns->q3_ (ns.map V.int) us
 |_,_,.nil=>.nil
 |_,_,.cons n t r=>.cons ⟨t,rfl⟩ (b0J r)
theorem b6r:k3_ X (.builtin "sorted") (b0I X):=by
 intro pins s σ H xs us Q I r h;obtain⟨p,ns,rfl,hq,h64,q⟩:=h;obtain⟨u,rfl,rx⟩:=a1x r;cases rx;obtain⟨vs,rv,pl,hz⟩:=I.list hq;have hi:IntsAre vs ns:=a6t rv;have hlen:vs.length=ns.length:=hi.length;refine sorted_ints pl.isList hi (by omega) fun out ns' a1 a2 a3=>?_
 obtain⟨e,he⟩:=sortedAll_at s.heap vs out;have es:ns'=a1F ns:=b0H (a2.trans (a7m ns).symm) a3 (b0G ns);subst es;have hl2:((a1F ns).map V.int).length≤sizeLine:=by
  rw[Qk,(a7m ns).length_eq];exact Ye (a3k (by omega))
 exact⟨.ref (s.heap.objs.size+1),_,I.laid (t':=s.toks) (a:=s.heap.objs.size+1) (o:=.lst ((a1F ns).map V.int)) (fun _ _ q=>sortedAll_old q) (Nat.le_succ _) ⟨hl2,out.toList,e,b0J a1,by simpa using he⟩,rfl,q _ (I.hok.fresh (Nat.le_succ _))⟩
def b0K(X:Cx):List V->Hp->VK->Prop:=fun xs H Q=>b0I X xs H Q∨ ∃p G ys ds es,xs=[.ref p]/\Le G H/\SqL X.K G p ys/\z6_ X.K G ys ds/\a7f ds=some es/\∀l zs,H l=none->z6_ X.K G zs es->Q (.ref l) (upd H l (.lst zs))
theorem b6s:k3_ X (.builtin "sorted") (b0K X):=k3_.or b6r b6e
def a7n:List D->Option (List D)
 |[.lst ds]=>match ints? ds with
  |some ns=>if ns.length<64 then some ((a1F ns).map .int)else none
  |none=>a7f ds
 |_=>none
theorem b6t:a6E X B (b0K X) a7n:=by
 intro G σ env H xs ds c Q rl r e k;unfold a7n at e;split at e
 ·rename_i ds
  obtain⟨x,rfl,q⟩:=a0A r;simp only[Rep]at q;obtain⟨a,ys,rfl,h1,h2⟩:=q;split at e
  ·rename_i ns en
   split at e
   ·rename_i h64
    cases e;have hx:=a4q h2 en;subst hx;exact .inl ⟨a,ns,rfl,rl.sub.sqL h1,h64,fun l hl=>k l _ G H (.refl rl) hl (a7i _)⟩
   ·cases e
  ·exact .inr ⟨a,G,ys,ds,c,rfl,rl.sub,h1,h2,e,fun l zs hl rz=>k l zs G H (.refl rl) hl rz⟩
 ·cases e
end
section
variable{X:Cx}{B:OA}{pos:Pos}{a b c e:Expr}{ma mb mc:Mo D}{ms:Mo (List D)}{es:List Expr}
theorem a5x{K:Qq}{t:Value}{T U:String}{b c:Bool}(h1:PySem.W.kitOne K t (.type T)=some b)(h2:PySem.W.kitOne K t (.type U)=some c):PySem.W.kitAny K t [.type T,.type U]=some (b||c):=by
 unfold PySem.W.kitAny;rw[h1];cases b with
 |true=>rfl
 |false=>
  dsimp only;unfold PySem.W.kitAny;rw[h2];cases c<;>rfl
theorem b6u{pins:OX}{σ:St}{G H:Hp}{s:Shared}{A:Around}{E:OE}{Q:OE}{tp:Addr}{T U:String}{x:V}{u:Value}{d:D}(I:Inv X pins σ H s)(l:Le G H)(rx:q9_ x u)(rp:Rep X.K G x d)
  (ht:IsTup s.heap tp [Value.type T,.type U].toArray)(kt:k1_ X.K T)(ku:k1_ X.K U)(h:∀tk,Q (.bool (a0f (tyD d) T||a0f (tyD d) U)) {s with toks:=tk}):wpAny (model X.prog X.w) A (call (.builtin "isinstance") [u,.ref tp]) Q E s:=by
 obtain⟨⟨oc,od,odt,os⟩,t1,t2,n,t3⟩:=ht;dsimp only at t2 t3;subst t2 t3;have e:(∀o,d≠.obj o)->_:=fun hd=>a5x (a6X kt d hd) (a6X ku d hd)
 cases d with
 |non=>simp only[Rep]at rp;subst rp;cases (show u=Value.none from rx);exact Yk PySem.W.kitx_none I.kIn True.intro t1 (e nofun) (fun z=>nomatch z) h
 |bl b=>simp only[Rep]at rp;subst rp;cases (show u=Value.bool b from rx);exact Yk PySem.W.kitx_bool I.kIn True.intro t1 (e nofun) (fun z=>nomatch z) h
 |int i=>simp only[Rep]at rp;subst rp;obtain⟨t,q⟩:=(show∃t,u=Value.int i t from rx);cases q;exact Yk PySem.W.kitx_int I.kIn True.intro t1 (e nofun) (fun z=>nomatch z) h
 |str z=>simp only[Rep]at rp;obtain⟨rp,_⟩:=rp;subst rp;obtain⟨t,q⟩:=(show∃t,u=Value.str z t from rx);cases q;exact Yk PySem.W.kitx_str I.kIn True.intro t1 (e nofun) (fun z=>nomatch z) h
 |tup ds=>
  simp only[Rep]at rp;obtain⟨a,xs,rfl,q,_⟩:=rp;cases rx;obtain⟨its,_,⟨o,h1,h2,_⟩,_⟩:=I.tuple (l.sqT q);exact Yk Vo I.kIn ⟨o,h1,h2⟩ t1 (e nofun) (fun z=>nomatch z) h
 |lst ds=>
  simp only[Rep]at rp;obtain⟨a,xs,rfl,q,_⟩:=rp;cases rx;obtain⟨its,_,⟨o,n,h1,h2,_⟩,_⟩:=I.list (l.sqL q);exact Yk Vq I.kIn ⟨o,h1,h2⟩ t1 (e nofun) (fun z=>nomatch z) h
 |emp=>
  simp only[Rep]at rp;obtain⟨a,kvs,rfl,q⟩:=rp;cases rx;obtain⟨_,_,vs,_,dd⟩:=(show x5_ X.prog X.w H s.heap a (.dK _)from I.hok a _ (l _ _ q))
  obtain⟨o,h1,h2⟩:∃o,s.heap.get? a=some o/\o.cls=.type "dict":=by
   obtain⟨o,es,ep,g1,g2,_⟩:=dd;exact⟨o,g1,g2.1⟩
  exact Yk Jg I.kIn ⟨o,h1,h2⟩ t1 (e nofun) (fun z=>nomatch z) h
 |dct ks vs=>
  simp only[Rep]at rp;obtain⟨a,kvs,rfl,q,_⟩:=rp;cases rx;obtain⟨_,_,_,_,o,_,_,h1,h2,_⟩:=(show x5_ X.prog X.w H s.heap a (.dT _ _)from I.hok a _ (l _ _ q))
  exact Yk Jg I.kIn ⟨o,h1,h2.1⟩ t1 (e nofun) (fun z=>nomatch z) h
 |obj o=>
  have h0:∀{T:String},k1_ X.K T->a0f "object" T=false:=fun{T} kt=>by
   unfold k1_ at kt;simp only[Qm,Zb,Jq]at kt
   rcases kt with rfl|rfl|rfl|rfl|rfl<;>rfl
  have hf:∀{T:String},k1_ X.K T->PySem.W.kitOne X.K (.type "function") (.type T)=some false:=fun{T} kt=>by
   unfold k1_ at kt;simp only[Qm,Zb,Jq]at kt
   rcases kt with rfl|rfl|rfl|rfl|rfl<;>rfl
  have h':∀tk,Q (.bool false) {s with toks:=tk}:=fun tk=>by have:=h tk;rwa [show a0f (tyD (.obj o)) T=false from h0 kt,show a0f (tyD (.obj o)) U=false from h0 ku]at this
  simp only[Rep]at rp;cases o with
  |exc n=>
   obtain⟨a,C,HP,rfl,_,h3,h4,h5⟩:=rp;cases rx;exact Yk h4 I.kIn (I.hok a _ (l _ _ h3)).1 t1 (a5x (h5 T kt) (h5 U ku)) (fun z=>nomatch z) h'
  |fn n=>
   obtain⟨f,rfl,_,h4⟩:=rp;cases rx;exact Yk h4 I.kIn True.intro t1 (a5x (hf kt) (hf ku)) (fun z=>nomatch z) h'
  |dk kvs=>
   obtain⟨a,rfl,q⟩:=rp;cases rx;obtain⟨_,_,vs,_,dd⟩:=(show x5_ X.prog X.w H s.heap a (.dK _)from I.hok a _ (l _ _ q))
   obtain⟨o,h1,h2⟩:∃o,s.heap.get? a=some o/\o.cls=.type "dict":=by
    obtain⟨o,es,ep,g1,g2,_⟩:=dd;exact⟨o,g1,g2.1⟩
   have hd:∀{T:String},k1_ X.K T->PySem.W.kitOne X.K (.type "dict") (.type T)=some false:=fun{T} kt=>by
    unfold k1_ at kt;simp only[Qm,Zb,Jq]at kt
    rcases kt with rfl|rfl|rfl|rfl|rfl<;>rfl
   exact Yk Jg I.kIn ⟨o,h1,h2⟩ t1 (a5x (hd kt) (hd ku)) (fun z=>nomatch z) h'
def b0L(T U:String)(m:Mo D):Mo D:=fun env=>(m env).map fun p=>(.bl (a0f (tyD p.1) T||a0f (tyD p.1) U),p.2)
theorem b6v{T U:String}{y z:Str}{p p2 p3 p4:Pos}{x1:Nat}(kt:k1_ X.K T)(ku:k1_ X.K U)(ha:ED X B a ma)(hg:Gl X "isinstance")(hm:X.mg "isinstance"=none)(hgT:Gl X y)(hmT:X.mg y=none)(hvT:bootBuiltins y=some (.type T))(hgU:Gl X z)(hmU:X.mg z=none)(hvU:bootBuiltins z=some (.type U))
  (hnT:y≠"__name__":=by decide)(hdT:(y==("__debug__":Str))=false:=by decide)(hnU:z≠"__name__":=by decide)(hdU:(z==("__debug__":Str))=false:=by decide)
  (he:starEach [a,.Tuple [.Name y p2,.Name z p3] x1 p4] X.env=[(false,eval a X.env),(false,eval (.Tuple [.Name y p2,.Name z p3] x1 p4) X.env)]:=by rfl):ED X B (.Call (.Name "isinstance" p) [a,.Tuple [.Name y p2,.Name z p3] x1 p4] [] pos) (b0L T U ma):=by
 have hT:PE X (.Name y p2) (tC (.ty T)):=a4T hgT hmT hvT rfl hnT hdT
 have hU:PE X (.Name z p3) (tC (.ty U)):=a4T hgU hmU hvU rfl hnU hdU
 have htup:PE X (.Tuple [.Name y p2,.Name z p3] x1 p4) (a9e (a6q (tC (.ty T)) (a6q (tC (.ty U)) a9d))):=a9f (u0_ hT (u0_ hU a0R))
 have hc:k3_ X (.builtin "isinstance") (fun xs H Q=>∃x q G d,xs=[x,.ref q]/\H q=some (.tup [.ty T,.ty U])/\Le G H/\Rep X.K G x d/\Q (.bl (a0f (tyD d) T||a0f (tyD d) U)) H):=by
  intro pins s σ H xs us Q I r h;obtain⟨x,q,G,d,rfl,hq,l,rp,qq⟩:=h;obtain⟨u,w',rfl,r1,r2⟩:=a1O r;cases r2;obtain⟨_,its,v,ht⟩:=(show x5_ X.prog X.w H s.heap q (.tup [.ty T,.ty U])from I.hok q _ hq)
  obtain⟨v1,v2,rfl,e1,e2⟩:=a1O v;cases e1;cases e2;exact b6u I l r1 rp ht.tup kt ku fun tk=>⟨.bl _,H,I.tok _,rfl,qq⟩
 refine pe_imp (a2x (pos:=pos) (p:=p) hc hg hm (by decide+kernel) (u0_ ha (u0_ htup a0R) he) (he:=he)) ?_
 rintro σ H Q ⟨G,env,d,env',rl,e,k⟩;obtain⟨⟨d1,env1⟩,e1,e2⟩:=v8_ e;cases e2;refine .bind rl e1 fun v G1 H1 ev r=>⟨(by decide:2≤sizeLine),fun q hq=>?_⟩
 have al:=ev.rel.allocM (o:=.tup [.ty T,.ty U]) hq
 exact⟨v,q,G1,d1,rfl,y3_,al.rel.sub,r,k _ G1 _ (ev.trans al) (by simp only[Rep])⟩
end
section
variable{X:Cx}{B:OA}
def b0M:List D->Option Bool
 |[]=>some false
 |.bl b::r=>(b0M r).map fun k=>b||k
 |_::_=>none
def dAny:List D->Option D
 |[.lst ds]=>(b0M ds).map fun k=>.bl k
 |_=>none
def a7o:List D->Option D
 |[.lst ds]=>(ints? ds).map fun ns=>.int ns.sum
 |[.tup ds]=>(ints? ds).map fun ns=>.int ns.sum
 |_=>none
theorem a7p:∀{us:List Value}{ns:List Int},IntsAre us ns->∀(i:Nat) (v:Value),us[i]? =some v->∃t,v=.int (ns.getD i 0) t
 |_,_,.nil,i,v,h=>by simp at h
 |_,_,.cons n t r,i,v,h=>by
  cases i with
  |zero=>simp at h;exact⟨t,by simp[←h]⟩
  |succ i=>exact a7p r i v (by simpa using h)
def b0N(X:Cx):List V->Hp->VK->Prop:=fun xs H Q=>∃(p:Addr) (ns:List Int),xs=[.ref p]/\(SqL X.K H p (ns.map V.int)∨SqT X.K H p (ns.map V.int))/\Q (.int ns.sum) H
theorem b6w(hc:X.calm=true):k3_ X (.builtin "sum") (b0N X):=by
 intro pins s σ H xs us Q I r h;obtain⟨p,ns,rfl,hq,q⟩:=h;obtain⟨u,rfl,rx⟩:=a1x r;cases rx;have hh:X.A.handled=none:=I.ok.hd hc
 rcases hq with hq|hq
 ·obtain⟨its,r',pl,hz⟩:=I.list hq
  have hi:IntsAre its ns:=a6t r'
  have hl:=pl.isList
  have hlt:p<s.heap.objs.size:=by obtain⟨_,e,_⟩:=hl;exact Qu e
  refine call_sum_walkG (Vz hl ?_);refine⟨s.heap.objs.size,[s.heap.objs.size,p],[s.heap.objs.size],its.toArray.size,_,_,fun i=>ns.getD i 0,rfl,Walks.list (A:=X.A.in1) hh _ p (Qi hlt) its.toArray,
   ⟨⟨_,Qh _ rfl,rfl,rfl⟩,hl.push _⟩,fun b hb=>?_,fun i v hP=>a7p hi i v (by simpa using hP),fun h' tk t' hk'=>?_⟩
  ·have hs:=Qu (Qh s.heap (o:={cls:=.type "list_iterator",data:=.fields #[.ref p,.int 0 0]}) rfl)
   rcases Qm.mp hb with rfl|hb
   ·exact hs
   ·rcases Qm.mp hb with rfl|hb
    ·exact Vc hlt hs
    ·cases hb
  ·rw[Qp,hi.length,PyProof.Rows.preSum_getD,Yd (Qw _)]
   exact⟨.int ns.sum,H,I.kept (t':=tk) (LSm.kept_iter hk'),⟨t',rfl⟩,q⟩
 ·obtain⟨its,r',pl,hz⟩:=I.tuple hq
  have hi:IntsAre its ns:=a6t r'
  have hl:s.heap.IsTuple p its.toArray:=pl
  have hlt:p<s.heap.objs.size:=by obtain⟨_,e,_⟩:=hl;exact Qu e
  refine call_sum_walkG (Xz hl ?_);refine⟨s.heap.objs.size,[s.heap.objs.size,p],[s.heap.objs.size],its.toArray.size,_,_,fun i=>ns.getD i 0,rfl,Walks.tuple (A:=X.A.in1) hh _ p (Qi hlt) its.toArray,
   ⟨⟨_,Qh _ rfl,rfl,rfl⟩,hl.push _⟩,fun b hb=>?_,fun i v hP=>a7p hi i v (by simpa using hP),fun h' tk t' hk'=>?_⟩
  ·have hs:=Qu (Qh s.heap (o:={cls:=.type "tuple_iterator",data:=.fields #[.ref p,.int 0 0]}) rfl)
   rcases Qm.mp hb with rfl|hb
   ·exact hs
   ·rcases Qm.mp hb with rfl|hb
    ·exact Vc hlt hs
    ·cases hb
  ·rw[Qp,hi.length,PyProof.Rows.preSum_getD,Yd (Qw _)]
   exact⟨.int ns.sum,H,I.kept (t':=tk) (LSm.kept_iter hk'),⟨t',rfl⟩,q⟩
theorem b6x:a0U X B (b0N X) a7o:=by
 intro G σ env H xs ds c Q rl r e k;unfold a7o at e;split at e
 ·rename_i ds
  obtain⟨x,rfl,q⟩:=a0A r;obtain⟨ns,e1,e2⟩:=v8_ e;subst e2;simp only[Rep]at q;obtain⟨a,ys,rfl,h1,h2⟩:=q;have:=a4q h2 e1;subst this;exact⟨a,ns,rfl,.inl (rl.sub.sqL h1),k _ G H (.refl rl) (by simp only[Rep])⟩
 ·rename_i ds
  obtain⟨x,rfl,q⟩:=a0A r;obtain⟨ns,e1,e2⟩:=v8_ e;subst e2;simp only[Rep]at q;obtain⟨a,ys,rfl,h1,h2⟩:=q;have:=a4q h2 e1;subst this;exact⟨a,ns,rfl,.inr (rl.sub.sqT h1),k _ G H (.refl rl) (by simp only[Rep])⟩
 ·cases e
end
theorem b6y:bootBuiltins "sum"=some (.builtin "sum"):=by decide+kernel
theorem b6z{P:Program}{w:World}{K:Qq}{mg:OU}{base:Heap}{k n:Nat}{f:Addr}{fd:FuncData}{ps:List Str}:FnOk P w K mg base CX0 k f fd ps (SpF K n fun _=>none):=
 ⟨fun _ _ _ _ h=>(by obtain⟨_,_,_,_,_,_,_,e,_⟩:=h;cases e),fun _ _ _ _ _ _ _ _ _ _ _ _ _ h=>(by obtain⟨_,_,_,_,_,_,_,e,_⟩:=h;cases e)⟩
section
variable{X:Cx}{B:OA}
end
section
variable{X:Cx}{B:OA}{pos:Pos}{a b c e:Expr}{ms:Mo (List D)}
end
section
variable{X:Cx}{B:OA}{pos:Pos}{c:Expr}{t:Mo Bool}
end
theorem z6_.erase{K:Qq}{G:Hp}:∀{ds:List D}{xs:List V}(n:Nat),z6_ K G xs ds->z6_ K G (xs.eraseIdx n) (ds.eraseIdx n)
 |[],_,n,r=>by simp only[z6_]at r;subst r;simp only[List.eraseIdx_nil,z6_]
 |d::ds,_,n,r=>by
  simp only[z6_]at r;obtain⟨x,t,rfl,q,r⟩:=r;cases n with
  |zero=>simpa using r
  |succ n=>
   simp only[List.eraseIdx_cons_succ,z6_];exact⟨_,_,rfl,q,z6_.erase n r⟩
section
variable{X:Cx}{B:OA}{pos:Pos}{e:Expr}{ma:Mo D}{ml:Mo (List D)}
def a4u(i:Nat)(m:Mo D):Mo D:=fun env=>((env[i]?).bind W.mutL).bind fun _=>(m env).bind fun p=>(p.2[i]?).bind fun w=>w.mutL.bind fun ds=>match p.1 with
 |.int k=>if-1000000<k/\k<1000000 then(ixN ds.length k).bind fun j=>(ds[j]?).map fun d=>(d,p.2.set i (w.put (ds.eraseIdx j)))else none
 |_=>none
theorem b6A{i:Nat}{x:Str}{p apos cpos:Pos}(ho:PE X (.Name x p) (a0Q i))(ha:EDs X B [e] (z2_ ma z5_))
  (hbase:attributeBase (.Name x p) "pop" X.env (eval (.Name x p) X.env)=eval (.Name x p) X.env:=by rfl)
  (hfew:((backTo cpos (starEach [e] X.env)).all (fun x=>!x.1)&&(backToKw cpos (keywordEach [] X.env)).all (fun x=>x.1.isSome)
   &&decide ([e].length+([]:List Keyword).length+(if([]:List Keyword).isEmpty then 0 else 1)<30))=true:=by rfl)
  (hline:(apos.endLine==cpos.line)=true:=by rfl)(hs:starEach [e] X.env=(false,eval e X.env)::starEach [] X.env:=by rfl)(hplain:(backTo cpos (starEach [] X.env)).any (·.1)=false:=by rfl):
  ED X B (.Call (.Attribute (.Name x p) "pop" apos) [e] [] cpos) (a4u i ma):=by
 refine pe_imp (a4c Js PySem.F.slot_list_pop PySem.F.type_list_pop b4J ho ha hbase hfew hline hs hplain) ?_
 rintro σ H Q ⟨G,env,d,env',rl,e,k⟩;obtain⟨ds0,e0,e⟩:=q1_ e;obtain⟨w0,e00,em0⟩:=q1_ e0;obtain⟨⟨d1,env1⟩,e1,e2⟩:=q1_ e;obtain⟨w,e3,e4⟩:=q1_ e2;obtain⟨ds,e5,e6⟩:=q1_ e4;dsimp only at e3 e6;split at e6
 ·rename_i n
  split at e6
  ·rename_i hn
   obtain⟨j,e7,e8⟩:=q1_ e6;obtain⟨d2,e9,e10⟩:=v8_ e8;cases e10;obtain⟨q,xs0,h1,h2,h3,h4⟩:=rl.ownL i w0 ds0 e00 em0;refine⟨_,h1,.inl ⟨rfl,xs0,.inl (.inl h2)⟩,G,env,[.int n],env1,rl,by show(ma env).bind _=_;rw[e1];rfl,fun vs G1 H1 ev r1=>?_⟩
   obtain⟨v,rfl,rv⟩:=a0A r1;simp only[Rep]at rv;subst rv;obtain⟨q',xs,g1,g2,g3,g4⟩:=ev.rel.ownL i w ds e3 e5;rw[h1]at g1;cases g1;obtain⟨y,hy,ry⟩:=g3.get e9;have hl:ds.length=xs.length:=g3.length.symm;rw[hl]at e7;exact⟨q,xs,n,j,y,rfl,rfl,g2,by omega,by omega,(a6u e7).1,hy,k _ G1 _ (ev.write e3 e5 h1 (g3.erase j)) ry⟩
  ·cases e6
 ·cases e6
end
section
variable{prog:Program}{w:World}{A:Around}{E:OE}{s:Shared}{c:Bool}
end
section
variable{prog:Program}{w:World}{A:Around}{E:OE}{s:Shared}
end
section
variable{X:Cx}{B:OA}{pos p:Pos}{a:Expr}{ms:Mo (List D)}{elts:List Expr}{kk:Nat}{tp:Pos}
end
theorem b0O{P:Program}{w:World}{H:Hp}{h h':Heap}(x:HOk P w H h)(k:∀b u o,H b=some u->h.get? b=some o->h'.get? b=some o):HOk P w H h':=fun a o e=>
 (x a o e).stay (fun b u hb q=>by
  rcases hb with rfl|hb
  ·exact k _ _ _ e q
  ·exact k _ _ _ hb q) (fun _ q=>q) fun _ _ q=>q
def CXE(P:Program)(w:World):CXT:=fun outer H s E ev s'=>
 ∃(e t C:Addr) (H':Hp) (Bh:Heap),ev=.ref e/\s'.os=s.os/\AllBare s'.gens/\Heap.FlyingW Bh outer e (.ref C) (.ref t) s'.heap/\
  Un (frs outer) [] H H' s.heap s'.heap/\HOk P w H' Bh/\(∀b o,s.heap.get? b=some o->H b=none->b∉frs outer->Bh.get? b=some o)/\
  (∀b o,s.heap.get? b=some o->b∉frs outer->∃o',Bh.get? b=some o')/\E (.ref C) none H'
section
variable{X:Cx}{pins:OX}{σ:St}{H H':Hp}{s s':Shared}{E:XK}{e t C:Addr}{Bh:Heap}
theorem a5y(hst:X.stack=X.env::X.outer)(hfr:X.env.frame=some X.env.locals)(hex:X.ex=[])(I:Inv X pins σ H s)(os:s'.os=s.os)(bare:AllBare s'.gens)(fly:Heap.FlyingW Bh X.outer e (.ref C) (.ref t) s'.heap)
  (kept:∀b o,s.heap.get? b=some o->H b=none->b∉frs X.stack->Bh.get? b=some o)
  (thr:∀b o,s.heap.get? b=some o->b∉frs X.stack->∃o',Bh.get? b=some o')
  (slots:∀b o,s.heap.get? b=some o->H b=none->b∈X.fs->∃sl,s'.heap.get? b=some {o with slots:=sl})
  (free:∀b o,s.heap.get? b=some o->H b=none->H' b=none)(tups:∀b xs,H b=some (.tup xs)->H' b=some (.tup xs))(frzs:∀b o u,H b=some (.frz o u)->H' b=some (.frz o u))
  (tbls:∀b ps,H b=some (.tbl ps)->∃more,H' b=some (.tbl (ps++more)))(hok:HOk X.prog X.w H' Bh)(hE:E (.ref C) none H'):
  CXE X.prog X.w X.outer X.H₀ X.s₀ E (.ref e) s':=by
 have nb:∀b o,X.s₀.heap.get? b=some o->b∉X.fs->b∉frs X.stack:=fun b o q n z=>by
  rw[hst]at z;unfold frs at z;rw[Ud,hfr]at z
  rcases Qm.mp z with z|z
  ·exact absurd (Qu q) (Nat.not_lt.mpr (by rw[z];exact I.ok.above))
  ·exact n z
 have nx:∀b,b∉X.ex:=fun b z=>by rw[hex]at z;cases z
 refine⟨e,t,C,H',Bh,rfl,os.trans I.os,bare,fly,⟨fun b o q n hb _=>?_,fun b o q n hb _=>?_,fun b o q n _=>?_,fun b o q _=>?_,fun b xs q=>tups b xs (I.base.tups b xs q),fun b o u q=>frzs b o u (I.base.frzs b o u q),fun b ps q=>?_⟩,hok,fun b o q n hb=>?_,fun b o q hb=>?_,hE⟩
 ·exact fly.1 b o (kept b o (I.base.keep b o q n hb (nx b)) (I.base.free b o q n (nx b)) (nb b o q hb))
 ·obtain⟨sl,q1⟩:=I.base.slot b o q n hb (nx b)
  obtain⟨sl',q2⟩:=slots b _ q1 (I.base.free b o q n (nx b)) hb;exact⟨sl',q2⟩
 ·obtain⟨o',q1⟩:=I.base.there b o q (nx b)
  exact free b o' q1 (I.base.free b o q n (nx b))
 ·obtain⟨o',q1⟩:=I.base.there b o q (nx b)
  by_cases hb:b∈X.fs
  ·obtain⟨sl,q2⟩:=slots b _ q1 (I.base.free b o q (I.ok.frf b hb) (nx b)) hb
   exact⟨_,q2⟩
  ·obtain⟨o2,q2⟩:=thr b o' q1 (nb b o q hb)
   exact⟨o2,fly.1 b o2 q2⟩
 ·obtain⟨m1,e1⟩:=I.base.tbls b ps q
  obtain⟨m2,e2⟩:=tbls b _ e1;exact⟨m1++m2,by rw[e2,Ve]⟩
 ·exact kept b o (I.base.keep b o q n hb (nx b)) (I.base.free b o q n (nx b)) (nb b o q hb)
 ·obtain⟨o',q1⟩:=I.base.there b o q (nx b)
  exact thr b o' q1 (nb b o q hb)
structure XOk(X:Cx)(E:XK):Prop where
 pass:a4X (CXE X.prog X.w) X E
 made:∀(pins:OX) (σ:St) (H:Hp) (s:Shared) (h':Heap) (e C:Addr) (vs:List Value),Inv X pins σ H s->Heap.MadeExcOf s.heap h' e (.ref C) vs->E (.ref C) none H->X.xe (.ref e) {s with heap:=h'}
end
theorem b6B{P:Program}{w:World}{K:Qq}{mg:OU}{base:Heap}{N:List Str}{qual:Str}{scope:Scope}{f:Addr}{cd:Value}{A:Around}{outer:List Env}{s₀:Shared}{H₀:Hp}{E:XK}:
  XOk (w4_ (CXE P w) P w K mg base N qual scope f cd A outer s₀ H₀ E) E:=by
 refine⟨fun pins σ H s ev s' I h=>?_,fun pins σ H s h' e C vs I hm hE=>?_⟩
 ·obtain⟨e,t,C,H',Bh,rfl,os,bare,fly,un,hok,kept,thr,hE⟩:=h
  refine wpAny_leaves_onW (L:=s₀.heap.objs.size) I.ok.frames rfl fly fun h2 fly2 ups=>?_
  refine a5y (X:=w4_ (CXE P w) P w K mg base N qual scope f cd A outer s₀ H₀ E) rfl rfl rfl I os bare fly2 kept thr (fun b o q n hb=>?_) (fun b o q n=>un.free b o q n (by simp)) un.tups un.frzs un.tbls hok hE
  obtain⟨sl,q1⟩:=un.any q n (by simp)
  obtain⟨_,o1,g1,g2⟩:=I.funs.mem hb;rw[q]at g1;cases g1;obtain⟨sl2,q2⟩:=ups b _ q1 g2;exact⟨sl2,q2⟩
 ·have hst:=I.stack
  have hmem:∀{b:Addr},b∈frs (w4_ (CXE P w) P w K mg base N qual scope f cd A outer s₀ H₀ E).stack->H b=none:=fun{b} hb=>I.stkFree b hb
  refine wpAny_leaves_madeW (L:=s₀.heap.objs.size) (base:=PySem.W.hideAll s.heap (frs (w4_ (CXE P w) P w K mg base N qual scope f cd A outer s₀ H₀ E).stack)) (h:=s.heap) I.ok.frames rfl (fun b o q=>PySem.W.of_hideAll _ q)
   (PySem.W.funFrames_hide hst fun env he b hb=>Ys.mpr ⟨env,he,hb⟩) hm fun h2 t fly _ hn ups=>?_
  refine a5y (X:=w4_ (CXE P w) P w K mg base N qual scope f cd A outer s₀ H₀ E) (s:=s) (s':={s with heap:=h2}) rfl rfl rfl I rfl I.bare fly (fun b o q _ hb=>Jy _ q hb) (fun b o q hb=>⟨o,Jy _ q hb⟩) (fun b o q n hb=>?_) (fun b o q n=>n) (fun _ _ q=>q) (fun _ _ _ q=>q) (fun b ps q=>⟨#[],by rw[q];simp⟩) ?_ hE
  ·obtain⟨_,o1,g1,g2⟩:=I.funs.mem hb
   rw[q]at g1;cases g1;obtain⟨sl2,q2⟩:=ups b _ (hm.keeps b o q) g2;exact⟨sl2,q2⟩
  ·exact b0O (P:=P) (w:=w) I.hok fun b u o q1 q2=>Jy _ q2 fun z=>by rw[hmem z]at q1;cases q1
theorem PS.nox{X:Cx}{st:Stmt}{t:TS}(h:PS X.nox st t):PS X st t:=fun pins s σ H D I hw=>
 Zp (h pins s σ H D (I.wish _) hw) (fun _ _ q=>q.unwish) fun _ _ z=>False.elim z
theorem PA.nox{X:Cx}{es:List Expr}{t:TA}(h:PA X.nox es t):PA X es t:=fun pos pins s σ H Q I hw=>
 Zp (h pos pins s σ H Q (I.wish _) hw) (fun _ _ ⟨v,H',I',r,q⟩=>⟨v,H',I'.unwish,r,q⟩) fun _ _ z=>False.elim z
def vmro:List Value:=[.type "ValueError",.type "Exception",.type "BaseException",.type "object"]
def a2f(K:Qq)(n:Str):Bool:=match PySem.W.nsIn K mainGlobals n with
 |some (some (.ref C))=>PySem.W.excIn K C vmro "ValueError.__new__"
 |_=>false
theorem b0P{K:Qq}{n:Str}(h:a2f K n=true):∃C,PySem.W.nsIn K mainGlobals n=some (some (.ref C))/\PySem.W.excIn K C vmro "ValueError.__new__"=true:=by
 unfold a2f at h;split at h
 ·rename_i C hC;exact⟨C,hC,h⟩
 ·cases h
theorem b6C{K:Qq}{h₀:Heap}{mg:OU}{x:Str}{C:Addr}{bmB:List Value}{newId:String}(X:K.In h₀)(G:h₀.Ns mainGlobals mg)(e:PySem.W.nsIn K mainGlobals x=some (some (.ref C)))(q:PySem.W.excIn K C bmB newId=true):OwnCls x C bmB newId mg h₀:=by
 refine⟨Vp X G e,?_⟩;unfold PySem.W.excIn at q;split at q
 ·rename_i dd cd sl ho
  split at q
  ·rename_i C' bm k0 k1 k2 k3 n k5 hm hs
   simp only[Qy,Jj,Up]at q;obtain⟨⟨⟨⟨⟨rfl,rfl⟩,hdel⟩,ht⟩,hok⟩,hni⟩:=q;obtain⟨nm,bs,mro,ns,qn,hd,sn,sub,ab,col,del⟩:=cd;dsimp only at hm hdel hok hni;subst hm hdel;have hsl:sl= #[k0,k1,k2,k3,some (.builtin n),k5]:=by
    obtain⟨l⟩:=sl;simp only at hs;rw[hs]
   subst hsl;exact⟨bm,ns,nm,qn,bs,hd,sn,sub,ab,col,dd,k0,k1,k2,k3,k5,_,X _ _ ho,.of_isNs (PySem.W.isNs_of_in X hok),PySem.W.nsMap_none_of_in X hok hni,PySem.W.tail_of_in X ht⟩
  ·cases q
 ·cases q
abbrev Mx:=Env'->Option Str
section
variable(K:Qq)(B:OA)(E:XK)
def XW(G:Hp)(σ:St)(env:Env')(H:Hp)(n:Str):Prop:=∃C,PySem.W.nsIn K mainGlobals n=some (some (.ref C))/\∀σ' G' env' H',Ev K B G σ env H G' σ' env' H'->E (.ref C) none H'
def TX(m:Mx)(σ:St)(H:Hp):Prop:=∃G env n,Rel K B G σ env H/\m env=some n/\XW K B E G σ env H n
end
theorem XW.after{K:Qq}{B:OA}{E:XK}{G G1:Hp}{σ σ1:St}{env env1:Env'}{H H1:Hp}{n:Str}(w:XW K B E G σ env H n)(ev:Ev K B G σ env H G1 σ1 env1 H1):XW K B E G1 σ1 env1 H1 n:=by
 obtain⟨C,h,k⟩:=w;exact⟨C,h,fun σ' G' env' H' ev2=>k σ' G' env' H' (ev.trans ev2)⟩
def EDx(X:Cx)(B:OA)(E:XK)(e:Expr)(m:Mx):Prop:=PE X e fun σ H _=>TX X.K B E m σ H
def ESx(X:Cx)(B:OA)(E:XK)(st:Stmt)(m:Mx):Prop:=PS X st fun _ σ H=>TX X.K B E m σ H
def a2R(X:Cx)(B:OA)(E:XK)(st:List Stmt)(m:Mx):Prop:=PSs X st fun _ σ H=>TX X.K B E m σ H
def xNo:Mx:=fun _=>none
def xOr(x y:Mx):Mx:=fun env=>match x env with
 |some n=>some n
 |none=>y env
def a4v(x:Mx)(s:Mo Fl)(y:Mx):Mx:=fun env=>match x env with
 |some n=>some n
 |none=>match s env with
  |some (.nx,env1)=>y env1
  |_=>none
def xIf(t:Mo Bool)(x y:Mx):Mx:=fun env=>(t env).bind fun p=>if p.1 then x p.2 else y p.2
section
variable{X:Cx}{B:OA}{E:XK}{pos p:Pos}{e:Expr}{es:List Expr}{st:Stmt}{rest:List Stmt}{x1 x2:Mx}{s1:Mo Fl}{ma:Mo D}
theorem b6D:ESx X B E st xNo:=fun _ _ _ _ _ _ ⟨_,_,_,_,e,_⟩=>nomatch e
theorem b6E:a2R X B E [] xNo:=fun _ _ _ _ _ _ ⟨_,_,_,_,e,_⟩=>nomatch e
theorem b6F(h1:ESx X B E st x1)(n1:ES X B st s1)(h2:a2R X B E rest x2):a2R X B E (st::rest) (a4v x1 s1 x2):=by
 intro pins s σ H D I ⟨G,env,n,rl,e,w⟩;unfold a4v at e;cases q:x1 env with
 |some m=>
  rw[q]at e;cases e;exact a3e h1 a8T pins s σ H D I ⟨G,env,_,rl,q,w⟩
 |none=>
  rw[q]at e;dsimp only at e;split at e
  ·rename_i env1 q1
   exact a3e n1 h2 pins s σ H D I ⟨G,env,.nx,env1,rl,q1,fun σ1 G1 H1 ev=>⟨G1,env1,n,ev.rel,e,w.after ev⟩⟩
  ·cases e
theorem b0Q(h1:ESx X B E st x1):a2R X B E [st] x1:=by
 intro pins s σ H D I h;exact a3e h1 a8T pins s σ H D I h
theorem b6G{c:Expr}{s t:List Stmt}{tc:Mo Bool}(hc:ET X B c tc)(h1:a2R X B E s x1)(h2:a2R X B E t x2):ESx X B E (.If c s t pos) (xIf tc x1 x2):=by
 intro pins sh σ H D I ⟨G,env,n,rl,e,w⟩;obtain⟨⟨b1,env1⟩,e1,e2⟩:=q1_ e;dsimp only at e2;refine a8R hc h1 h2 pins sh σ H D I ⟨G,env,b1,env1,rl,e1,fun G1 H1 ev=>?_⟩
 cases b1 with
 |true=>simp only[Zs]at e2 ⊢;exact⟨G1,env1,n,ev.rel,e2,w.after ev⟩
 |false=>simp only[Zn,Jv]at e2 ⊢;exact⟨G1,env1,n,ev.rel,e2,w.after ev⟩
def b0R(n:Str)(ms:Mo (List D)):Mx:=fun env=>(ms env).bind fun p=>if p.1.length≤1000 then some n else none
theorem b6H{n:Str}{ms:Mo (List D)}{np cpos:Pos}(hx:XOk X E)(hc:X.calm=true)(ho:a2f X.K n=true)(hg:Gl X n)(ha:EDs X B (e::es) ms)
  (he:starEach (e::es) X.env=(false,eval e X.env)::starEach es X.env:=by rfl)(hpl:(backTo cpos (starEach es X.env)).any (·.1)=false:=by rfl)(hd:(n==("__debug__":Str))=false:=by decide):
  ESx X B E (.Raise (some (.Call (.Name n np) (e::es) [] cpos)) none pos) (b0R n ms):=by
 intro pins s σ H D I ⟨G,env,c,rl,em,w⟩;obtain⟨⟨ds,env1⟩,e1,e2⟩:=q1_ em;dsimp only at e2;split at e2
 ·rename_i hl
  cases e2;obtain⟨C,hC,hw⟩:=w;obtain⟨C',hC',hex⟩:=b0P ho;rw[hC]at hC';cases hC';have O:=b6C I.mod.kin I.mod.glob hC hex;obtain⟨tl,N,nm,q,bs,hdct,sn,sub,ab,col,dd,k0,k1,k2,k3,k5,mN,hCo,hN,hni,T⟩:=O.obj;refine wpAny_Raise_call_subU (C:=C) (nm:=nm) (q:=q) (N:=N) (bs:=bs) (bm:=tl) (hdct:=hdct) (sn:=sn) (sub:=sub) (ab:=ab) (col:=col) (dd:=dd) (k0:=k0) (k1:=k1) (k2:=k2) (k3:=k3) (k5:=k5)
   PySem.F.excBase_ValueError (by decide+kernel) PySem.F.excBase_ValueError (mN:=mN) (T.hasType PySem.F.excBase_ValueError.hasBase) (I.ok.hd hc) (by rw[he];show(false||(backTo cpos (starEach es X.env)).any (·.1))=false;rw[hpl];rfl) hni (a3Y I hg O.bound ⟨rfl,?_⟩ hd)
  have h1:=ha cpos pins s σ H (fun vs H1=>vs.length≤sizeLine/\E (.ref C) none H1) I ⟨G,env,ds,env1,rl,e1,fun vs G1 H1 ev r=>⟨by rw[r.length];exact Ye (a3k hl),hw σ G1 env1 H1 ev⟩⟩
  rw[he]at h1 ⊢;refine Um (Zp h1 (fun us s2 ⟨vs,H2,I2,r2,q1,q2⟩=>⟨rfl,by rw[←r2.length];exact q1,I2.bk _ _ hCo,hN.keeps I2.bk,T.keeps I2.bk,fun h' e hm=>?_⟩) fun _ _ y=>y)
  exact hx.made pins σ H2 s2 h' e C us I2 hm q2
 ·cases e2
def SpX(K:Qq)(n:Nat)(g:List W->Option Str):Sp:=fun vs H _ E=>∃G ws c C,ws.length=n/\a4m ws/\Rel K g6_ G (vs.map some) ws H/\g ws=some c/\PySem.W.nsIn K mainGlobals c=some (some (.ref C))/\
 ∀G' ws' H',Ev K g6_ G (vs.map some) ws H G' (vs.map some) ws' H'->E (.ref C) none H'
structure DefX(P:Program)(w:World)(K:Qq)(mg:OU)(base:Heap)(x:Str)(k n:Nat)(g:List W->Option Str):Prop where
 ex:∃(f:Addr) (fd:FuncData) (ps:List Str),FnOk P w K mg base (CXE P w) k f fd ps (SpX K n g)/\ps.length=n/\mg x=some (.ref f)/\PySem.W.keepIn K (.ref f)=true/\a0w K fd ps []
def a2g(n:Nat)(g:List W->Option Str)(as:Mo (List Ar)):Mx:=fun env=>(as env).bind fun p=>if p.1.length=n then(match slots p.1 with
 |[]=>g (p.1.map (j8_ (.l [])))
 |_=>none)else none
theorem b0S{x:Str}{k n:Nat}{g:List W->Option Str}{as:Mo (List Ar)}(hx:XOk X E)(Df:DefX X.prog X.w X.K X.mg X.base x k n g)(hr:Room k X.A)(hg:Gl X x)(ha:EAr X B (e::es) as)(hdb:(x==("__debug__":Str))=false:=by decide)
  (he:starEach (e::es) X.env=(false,eval e X.env)::starEach es X.env:=by rfl)(hpl:(backTo pos (starEach es X.env)).any (·.1)=false:=by rfl):
  EDx X B E (.Call (.Name x p) (e::es) [] pos) (a2g n g as):=by
 obtain⟨f,fd,ps,F,rfl,hm,hk,hb⟩:=Df.ex;intro pins s σ H Q I ⟨G,env,c,rl,em,C,hC,w⟩;refine a6r F hr hg hm hk hb .nil hx.pass ha hdb he hpl pins s σ H Q I ?_
 obtain⟨⟨av,env1⟩,e1,e2⟩:=q1_ em;dsimp only at e2;split at e2
 ·rename_i hn
  split at e2
  ·rename_i hs
   refine⟨G,env,av,env1,rl,e1,fun vs G1 H1 ev ra=>?_⟩
   show SpX X.K ps.length g (vs++[]) H1 Q E;rw[Je];exact⟨G1,av.map (j8_ (.l [])),c,C,by rw[Qk];exact hn,a6O,a6P (i:=0) (w:=.nil) ev.rel ra (fun k j e=>absurd e (a1Y hs k j)) (fun k k' j j' e=>absurd e (a1Y hs k j)),e2,hC,
    fun G2 ws' H2 ev2=>w σ G2 env1 H2 (ev.trans (a6Q ev.rel ra hs ev2))⟩
  ·cases e2
 ·cases e2
end
def fnX(N:Nat)(mx:Mx):List W->Option Str:=fun ws=>mx (ws++List.replicate (N-ws.length) .nil)
theorem b6I{P:Program}{w:World}{K:Qq}{mg:OU}{base:Heap}{x qual:Str}{st:Stmt}{f:Addr}{fd:FuncData}{N ps:List Str}{k:Nat}{mx:Mx}(F:Fun K x qual st f fd)(S:FnScope N ps (v7_ st))
  (hb:∀(cdv:Value) (A:Around) (outer:List Env) (s:Shared) (H:Hp) (E:XK),Room k (A.deeper (envOfC qual (v7_ st) s.heap.objs.size f cdv))->
   a2R (w4_ (CXE P w) P w K mg base N qual (v7_ st) f cdv A outer s H E) (fun b=>H b≠none) E (a0F st) mx):FnOk P w K mg base (CXE P w) (k+1) f fd ps (SpX K ps.length (fnX N.length mx)):=by
 have hpl:ps.length≤N.length:=by have:=Jr List.length S.pre;rw[Yw]at this;omega
 obtain⟨oc,od,kV,doc,pm,an,cdv,ct,osl,rfl,lk,hcd⟩:=F.ex;refine a6s lk hcd S (fun vs H Q E h=>?_) fun A outer s H vs Q E hr h=>?_
 ·obtain⟨G,ws,c,C,hl,ok,rl,_⟩:=h
  have:=rl.len;rw[Qk]at this;omega
 ·obtain⟨G,ws,c,C,hl,ok,rl,e,hC,k⟩:=h
  have hv:ws.length=vs.length:=by have:=rl.len;rwa [Qk]at this
  exact⟨_,hb cdv A outer s H E hr,G,_,c,a6L (N:=N) rl ok (by omega),e,C,hC,fun σ' G' env' H' ev=>k G' (a0B ws env') H' (a2G rl ok (by omega) ev)⟩
open PySem.W Builtin Builtin.ObjectAttr Builtin.Getset_descriptor PySem.Calls
def a0i(e C:Addr)(h:Heap):Prop:=∃o,h.get? e=some o/\o.cls=.ref C
theorem a0i.type{e C:Addr}{h:Heap}{M:Model}(p:a0i e C h):Looks M h (typeOf (.ref e)) (.ref C):=by
 obtain⟨o,h1,h2⟩:=p;exact h2 ▸ (Looks.ld h1).andThen .now
section
variable{prog:Program}{w:World}{A:Around}{E:OE}{K:Frag}{x C:Addr}{h:Heap}{g:Array GenState}{d:Drawn}{t:Nat}{os:OsState}
theorem b6J{R:Result->Shared->Prop}{tp:Value}(X:K.In h)(I:a0i x C h)(hm:mroIn K C (.type "object")=some true)
  (hq:R (.ok (.ret (.ref C))) ⟨h,g,d,t,os⟩):codeAny (model prog w) A (.call (.builtin "getset_descriptor.__get__") ⟨[.builtin "object.__class__",.ref x,tp],[]⟩) R ⟨h,g,d,t,os⟩:=by
 have L0:=I.type (M:=model prog w)
 have L1:=looks_mroIn (M:=model prog w) X hm
 refine codeAny_call_builtin KF.slot_gs.plain KF.entry_gs (KF.slot_gs.check _ _ _ _ _ _ _ _ KF.type_class (KF.args_gs _ _ _) ?_);unfold Builtin.«getset_descriptor.__get__» descrGet;rw[dga_obj];refine Qz (Qd ?_);unfold descrGetter descrCheckInstance descrNameAndClass isInstance;simp only[KF.owner_class]
 repeat (first|with_reducible refine L0.at ?_|with_reducible refine L1.at ?_|wp_step)
 refine⟨Code.quiet_builtin _ (by decide+kernel),codeAny_builtin KF.entry_class ?_⟩
 unfold Builtin.«object.__class__» shownTypeOf
 repeat (first|with_reducible refine L0.at ?_|with_reducible refine L1.at ?_|wp_step)
 exact hq
theorem b6K(X:K.In h)(I:a0i x C h)(ha:findIn K (.ref C) "__class__"=some (some (.builtin "object.__class__")))
  (hn:specialIn K (.builtin "object.__class__") "__get__"=some (some (.builtin "getset_descriptor.__get__")))(htk:takesIn K (.builtin "object.__class__")=some true)(M:Model):
  Looks M h (find (.ref x) (.ref C) "__class__") (.bind (.builtin "getset_descriptor.__get__") (.builtin "object.__class__")):=by
 have L1:=looks_findIn (M:=M) X ha
 have L2:Looks M h (getOf (some (.builtin "object.__class__"))) (some (.builtin "getset_descriptor.__get__")):=looks_specialIn X hn
 have L3:=looks_takesIn (M:=M) X htk
 exact L1.andThen (L2.andThen ((show Looks M h (dataDescriptor? (some (.builtin "object.__class__")) (some (.builtin "getset_descriptor.__get__"))) (some (.builtin "getset_descriptor.__get__",.builtin "object.__class__"))from L3.andThen .now).andThen (Looks.tag .now)))
theorem b6L{tk:Tok}{Q:Fin->Shared->Prop}(X:K.In h)(I:a0i x C h)(hm:mroIn K C (.type "object")=some true)(ha:findIn K (.ref C) "__class__"=some (some (.builtin "object.__class__")))
  (hn:specialIn K (.builtin "object.__class__") "__get__"=some (some (.builtin "getset_descriptor.__get__")))(htk:takesIn K (.builtin "object.__class__")=some true)(hq:Q (.done (.ret (.ref C))) ⟨h,g,d,t,os⟩):
  wpAny (model prog w) A (Builtin.«object.__getattribute__» ⟨[.ref x,.str "__class__" tk],[]⟩) Q E ⟨h,g,d,t,os⟩:=by
 have L0:=I.type (M:=model prog w)
 have L1:=b6K X I ha hn htk (model prog w)
 unfold Builtin.«object.__getattribute__»
 repeat (any_goals (first|assumption|with_reducible refine L0.at ?_|with_reducible refine L1.at ?_|wp_step))
 refine b6J X I hm ?_
 repeat (any_goals (first|assumption|wp_step))
theorem b6M{M:Model}{nameV:Value}{Q:Unit->Shared->Prop}(X:K.In h)(I:a0i x C h)(hm:mroIn K C (.type "BaseException")=some true)(hq:Q () ⟨h,g,d,t,os⟩):
  wpAny M A (checkBuiltinCall "BaseException.__getattribute__" ⟨[.ref x,nameV],[]⟩) Q E ⟨h,g,d,t,os⟩:=by
 have hk:builtinKind "BaseException.__getattribute__"=some .slot:=by decide+kernel
 have hsplit:splitId "BaseException.__getattribute__"=some ("BaseException","__getattribute__"):=by decide+kernel
 have L0:=I.type (M:=M)
 have L1:=looks_mroIn (M:=M) X hm
 have ha:=F.args_bexc_ga (.ref x) nameV
 simp only[checkBuiltinCall,hk,hsplit];refine Qz ?_
 unfold isInstance
 repeat (first|with_reducible refine L0.at ?_|with_reducible refine L1.at ?_|wp_step)
 exact hq
theorem b6N{tk:Tok}{fill expr:Bool}{Q:OE}(X:K.In h)(I:a0i x C h)(hmB:mroIn K C (.type "BaseException")=some true)(hm:mroIn K C (.type "object")=some true)(ha:findIn K (.ref C) "__class__"=some (some (.builtin "object.__class__")))
  (hn:specialIn K (.builtin "object.__class__") "__get__"=some (some (.builtin "getset_descriptor.__get__")))(htk:takesIn K (.builtin "object.__class__")=some true)
  (hga:findIn K (.ref C) "__getattribute__"=some (some (.builtin "BaseException.__getattribute__")))(hno:findIn K (.ref C) "__getattr__"=some none)(hq:Q (.ref C) ⟨h,g,d,t,os⟩):
  wpAny (model prog w) A (getAttrBy (.ref x) (.str "__class__" tk) fill expr) Q E ⟨h,g,d,t,os⟩:=by
 have L0:=I.type (M:=model prog w)
 have L1:=looks_findIn (M:=model prog w) X hga
 have L2:=looks_findIn (M:=model prog w) X hno
 have f3:=F.attrBase_ValueError.ga.bind (.ref x)
 have hx0:(expr&&onTheHeap (Value.builtin "BaseException.__getattribute__"))=false:=by cases expr<;>rfl
 have hx2:(Value.builtin "BaseException.__getattribute__"==Value.builtin "object.__getattribute__")=false:=by decide+kernel
 have hx1:(onTheHeap (Value.ref C)&&Value.builtin "BaseException.__getattribute__"==Value.builtin "object.__getattribute__")=false:=by rw[hx2];rfl
 repeat (any_goals (first|assumption|with_reducible refine L0.at ?_|with_reducible refine L1.at ?_|with_reducible refine L2.at ?_|wp_step))
 refine codeAny_call_builtin F.attrBase_ValueError.ga.plain F.entry_bexc_ga (b6M X I hmB (b6L X I hm ha hn htk ?_))
 repeat (any_goals (first|assumption|wp_step))
theorem b6O{Q:Option Value->Shared->Prop}(X:K.In h)(I:a0i x C h)(hmB:mroIn K C (.type "BaseException")=some true)(hm:mroIn K C (.type "object")=some true)(ha:findIn K (.ref C) "__class__"=some (some (.builtin "object.__class__")))
  (hn:specialIn K (.builtin "object.__class__") "__get__"=some (some (.builtin "getset_descriptor.__get__")))(htk:takesIn K (.builtin "object.__class__")=some true)
  (hga:findIn K (.ref C) "__getattribute__"=some (some (.builtin "BaseException.__getattribute__")))(hno:findIn K (.ref C) "__getattr__"=some none)(hq:Q (some (.ref C)) ⟨h,g,d,t+1,os⟩):
  wpAny (model prog w) A (getAttr? (.ref x) "__class__") Q E ⟨h,g,d,t,os⟩:=by
 unfold getAttr? getAttrBy?
 repeat (any_goals (first|assumption|with_reducible apply b6N X I hmB hm ha hn htk hga hno|wp_step))
end
def b6P:List String:=["tuple","list","int","bool","str"]
def a0K(K:Frag)(C:Addr):Bool:=
 (mroIn K C (.type "BaseException")==some true)&&((mroIn K C (.type "object")==some true)&&((findIn K (.ref C) "__class__"==some (some (.builtin "object.__class__")))&&((specialIn K (.builtin "object.__class__") "__get__"==some (some (.builtin "getset_descriptor.__get__")))&&
 ((takesIn K (.builtin "object.__class__")==some true)&&((findIn K (.ref C) "__getattribute__"==some (some (.builtin "BaseException.__getattribute__")))&&((findIn K (.ref C) "__getattr__"==some none)&&((clsIn K C).isSome&&((kitOne K (.ref C) (.type "ValueError")==some true)&&b6P.all fun T=>kitOne K (.ref C) (.type T)==some false))))))))
theorem b6Q{K:Frag}{e C:Addr}(h:a0K K C=true):KitX K (.ref e) (.ref C) (a0i e C):=by
 unfold a0K at h;simp only[Qy,Jj]at h;obtain⟨h1,h2,h3,h4,h5,h6,h7,h8,_,_⟩:=h;obtain⟨cdD,hcD⟩:=Yz.mp h8;refine⟨fun _ _ _ p=>p.type,fun _ _ X _=>?_,fun h tp dd its n sl X htp=>?_,fun{prog w A E Q s} X I k=>?_⟩
 ·unfold clsIn at hcD
  split at hcD
  ·rename_i c' d' cd' sl' ho
   intro A' Q' E' s' k q;unfold isType loadHead;exact Qz (wpAny_loadPart (k _ _ (X _ _ ho)) (Qd q))
  ·cases hcD
 ·refine Bool.eq_false_iff.mpr fun q=>?_
  have e:C=tp:=Value.ref.inj (Jj.mp q)
  subst e;unfold clsIn at hcD;split at hcD
  ·rename_i c' d' cd' sl' ho
   have z:=(X _ _ ho).symm.trans htp
   cases z
  ·cases hcD
 ·obtain⟨hh,g,d,t,os⟩:=s
  exact b6O X I h1 h2 h3 h4 h5 h6 h7 k
theorem b6R{K:Frag}{C:Addr}(h:a0K K C=true):a9F K (.ref C):=by
 unfold a0K at h;simp only[Qy]at h;obtain⟨_,_,_,_,_,_,_,_,_,h9⟩:=h;intro T hT;have:=Qv.mp h9 T hT
 simpa using this
theorem b6S{K:Frag}{C:Addr}(h:a0K K C=true):kitOne K (.ref C) (.type "ValueError")=some true:=by
 unfold a0K at h;simp only[Qy]at h;obtain⟨_,_,_,_,_,_,_,_,h9,_⟩:=h
 simpa using h9
def a1p(K:Frag)(S:Str)(names:List Str):Bool:=names.all fun n=>a2f K n&&match nsIn K mainGlobals n with
 |some (some (.ref C))=>a0K K C&&((match nsIn K mainGlobals S with
   |some (some (.ref D))=>mroIn K C (.ref D)==some true&&(a2f K S&&a0K K D)
   |_=>false)&&names.all fun m=>match nsIn K mainGlobals m with
   |some (some (.ref D))=>kitOne K (.ref C) (.ref D)==some (n==m)
   |_=>false)
 |_=>false
structure ExcF(K:Frag)(S:Str)(names:List Str)(n:Str)(C:Addr):Prop where
 nm:nsIn K mainGlobals n=some (some (.ref C))
 one:a2f K n=true
 kit:a0K K C=true
 sub:∃D,nsIn K mainGlobals S=some (some (.ref D))/\mroIn K C (.ref D)=some true/\a2f K S=true/\a0K K D=true
 pair:∀m∈names,∃D,nsIn K mainGlobals m=some (some (.ref D))/\kitOne K (.ref C) (.ref D)=some (n==m)
theorem a3D{K:Frag}{S:Str}{names:List Str}(h:a1p K S names=true){n:Str}(hn:n∈names):∃C,ExcF K S names n C:=by
 have q:=Qv.mp h n hn
 simp only[Qy]at q;obtain⟨h1,h2⟩:=q;split at h2
 ·rename_i C hC
  simp only[Qy]at h2;obtain⟨h3,h4,h5⟩:=h2;split at h4
  ·rename_i D hD
   simp only[Qy,Jj]at h4;refine⟨C,hC,h1,h3,⟨D,hD,h4.1,h4.2.1,h4.2.2⟩,fun m hm=>?_⟩
   have:=Qv.mp h5 m hm;split at this
   ·rename_i D' hD'
    exact⟨D',hD',by simpa using this⟩
   ·cases this
  ·cases h4
 ·cases h2
def a0r(names:List Str)(m:Str)(ma:Mo D):Mo D:=fun env=>(ma env).bind fun p=>match p.1 with
 |.obj (.exc n)=>if names.contains n then some (.bl (n==m),p.2)else none
 |_=>none
def b0T(names:List Str)(ma:Mo D):Mo D:=fun env=>(ma env).bind fun p=>match p.1 with
 |.obj (.exc n)=>if names.contains n then some (.bl true,p.2)else none
 |_=>none
section
variable{X:Cx}{B:OA}{pos p p2:Pos}{a:Expr}{ma:Mo D}{S m:Str}{names:List Str}
theorem a0D(hx:a1p X.K S names=true)(hm:m∈names)(ha:ED X B a ma)(hg:Gl X "isinstance")(hi:X.mg "isinstance"=none)(hgm:Gl X m)(hdm:(m==("__debug__":Str))=false:=by decide)
  (he:starEach [a,.Name m p2] X.env=[(false,eval a X.env),(false,eval (.Name m p2) X.env)]:=by rfl):ED X B (.Call (.Name "isinstance" p) [a,.Name m p2] [] pos) (a0r names m ma):=by
 obtain⟨C0,F0⟩:=a3D hx hm;intro pins0 s0 σ0 H0 Q0 I0;have hT:PE X (.Name m p2) (tC (.ref C0)):=a4S hgm (Vp I0.mod.kin I0.mod.glob F0.nm) rfl hdm;have hc:k3_ X (.builtin "isinstance") (fun xs H Q=>∃x G n,xs=[x,.ref C0]/\Le G H/\Rep X.K G x (.obj (.exc n))/\n∈names/\Q (.bl (n==m)) H):=by
  intro pins s σ H xs us Q I r h;obtain⟨x,G,n,rfl,l,rp,hn,q⟩:=h;obtain⟨u,w',rfl,r1,r2⟩:=a1O r;cases r2;simp only[Rep]at rp;obtain⟨e,C,HP,rfl,h2,h3,h4,h5⟩:=rp;cases r1;obtain⟨C',F⟩:=a3D hx hn;have:=F.nm;rw[h2]at this;cases this;obtain⟨D,hD,hk⟩:=F.pair m hm;have:=F0.nm;rw[hD]at this;cases this;exact Zu h4 I.kIn (I.hok e _ (l _ _ h3)).1 hk (fun z=>nomatch z) fun tk=>⟨.bl _,H,I.tok _,rfl,q⟩
 refine pe_imp (a2x (pos:=pos) (p:=p) hc hg hi (by decide+kernel) (u0_ ha (u0_ hT a0R) he) (he:=he)) ?_ pins0 s0 σ0 H0 Q0 I0
 rintro σ H Q ⟨G,env,d,env',rl,e,k⟩;obtain⟨⟨d1,env1⟩,e1,e2⟩:=q1_ e;dsimp only at e2;split at e2
 ·rename_i n
  split at e2
  ·rename_i hn
   cases e2;exact .bind rl e1 fun v G1 H1 ev r=>⟨v,G1,n,rfl,ev.rel.sub,r,by simpa using hn,k _ G1 H1 ev (by simp only[Rep])⟩
  ·cases e2
 ·cases e2
theorem b6T(hx:a1p X.K S names=true)(ha:ED X B a ma)(hg:Gl X "isinstance")(hi:X.mg "isinstance"=none)(hgm:Gl X "ValueError")(hmv:X.mg "ValueError"=none)
  (he:starEach [a,.Name "ValueError" p2] X.env=[(false,eval a X.env),(false,eval (.Name "ValueError" p2) X.env)]:=by rfl):ED X B (.Call (.Name "isinstance" p) [a,.Name "ValueError" p2] [] pos) (b0T names ma):=by
 have hT:PE X (.Name "ValueError" p2) (tC (.ty "ValueError")):=a4T hgm hmv PyProof.Rows.Boot.«ValueError» rfl
 have hc:k3_ X (.builtin "isinstance") (fun xs H Q=>∃x G n,xs=[x,.ty "ValueError"]/\Le G H/\Rep X.K G x (.obj (.exc n))/\n∈names/\Q (.bl true) H):=by
  intro pins s σ H xs us Q I r h;obtain⟨x,G,n,rfl,l,rp,hn,q⟩:=h;obtain⟨u,w',rfl,r1,r2⟩:=a1O r;cases r2;simp only[Rep]at rp;obtain⟨e,C,HP,rfl,h2,h3,h4,h5⟩:=rp;cases r1;obtain⟨C',F⟩:=a3D hx hn;have:=F.nm;rw[h2]at this;cases this;exact Zu h4 I.kIn (I.hok e _ (l _ _ h3)).1 (b6S F.kit) (fun z=>nomatch z) fun tk=>⟨.bl _,H,I.tok _,rfl,q⟩
 refine pe_imp (a2x (pos:=pos) (p:=p) hc hg hi (by decide+kernel) (u0_ ha (u0_ hT a0R) he) (he:=he)) ?_
 rintro σ H Q ⟨G,env,d,env',rl,e,k⟩;obtain⟨⟨d1,env1⟩,e1,e2⟩:=q1_ e;dsimp only at e2;split at e2
 ·rename_i n
  split at e2
  ·rename_i hn
   cases e2;exact .bind rl e1 fun v G1 H1 ev r=>⟨v,G1,n,rfl,ev.rel.sub,r,by simpa using hn,k _ G1 H1 ev (by simp only[Rep])⟩
  ·cases e2
 ·cases e2
def b0U:D->Bool
 |.non=>true
 |_=>false
def a2S:D->D->Option D
 |a,.non=>some (.bl (b0U a))
 |_,_=>none
theorem b6U{K:Frag}{G:Hp}{x:V}{a:D}(r:Rep K G x a):decide (x=.non)=b0U a:=by
 cases a with
 |non=>simp only[Rep]at r;subst r;rfl
 |bl _=>simp only[Rep]at r;subst r;rfl
 |int _=>simp only[Rep]at r;subst r;rfl
 |str _=>simp only[Rep]at r;obtain⟨r,_⟩:=r;subst r;rfl
 |tup _=>simp only[Rep]at r;obtain⟨_,_,r,_⟩:=r;subst r;rfl
 |lst _=>simp only[Rep]at r;obtain⟨_,_,r,_⟩:=r;subst r;rfl
 |emp=>simp only[Rep]at r;obtain⟨_,_,r,_⟩:=r;subst r;rfl
 |dct _ _=>simp only[Rep]at r;obtain⟨_,_,r,_⟩:=r;subst r;rfl
 |obj o=>
  simp only[Rep]at r;cases o with
  |exc n=>obtain⟨_,_,_,r,_⟩:=r;subst r;rfl
  |fn n=>obtain⟨_,r,_⟩:=r;subst r;rfl
  |dk n=>obtain⟨_,r,_⟩:=r;subst r;rfl
theorem b0V:OpD X B (fun x y H Q=>y=.non/\Q (.bl (decide (x=.non))) H) a2S:=by
 intro G σ env H x y a b d Q rl ra rb e k;unfold a2S at e;split at e
 ·cases e
  simp only[Rep]at rb;subst rb;rw[b6U ra];exact⟨rfl,k _ G H (.refl rl) (by simp only[Rep])⟩
 ·cases e
end
end L2.Mir
namespace L2.Mir
open PySem PySem.Spec PyProof.Rows PySem.W
section
variable{X:Cx}{pins:OX}{σ σ':St}{H:Hp}{s:Shared}{e:Addr}{φ:Heap->Prop}
theorem b6V(I:Inv X pins σ H s)(hn:H e=none)(h0:X.s₀.heap.get? e=none)(hL:e≠X.env.locals)(hc:∀x c,X.env.cells.lookup x=some c->c≠e)(hp:∀p∈X.pn++pins,p.1≠e)
  (ph:φ s.heap)(po:∃o,s.heap.get? e=some o)(ps:∀h1 h2:Heap,φ h1->(∀o,h1.get? e=some o->h2.get? e=some o)->φ h2):Inv X pins σ (upd H e (.ext φ)) s:=by
 have ne:∀{b u},H b=some u->b≠e:=fun q z=>by rw[z,hn]at q;cases q
 refine⟨I.ok,I.os,I.bare,⟨I.base.keep,I.base.slot,fun b o q n hx=>?_,I.base.there,fun b xs q=>?_,fun b o u q=>?_,fun b ps q=>?_⟩,I.loc,I.cell,?_,fun x c q=>?_,fun p q=>?_,fun b u q=>?_,I.len⟩
 ·have hb:b≠e:=fun z=>by rw[z,h0]at q;cases q
  rw[q4_ hb];exact I.base.free b o q n hx
 ·have:=I.base.tups b xs q;rw[q4_ (ne this)];exact this
 ·have:=I.base.frzs b o u q;rw[q4_ (ne this)];exact this
 ·obtain⟨m,q'⟩:=I.base.tbls b ps q;exact⟨m,by rw[q4_ (ne q')];exact q'⟩
 ·rw[q4_ (Zh hL)];exact I.free
 ·rw[q4_ (hc x c q)];exact I.freeC x c q
 ·obtain⟨h1,h2,h3,h4,h5⟩:=I.pin p q
  exact⟨h1,by rw[q4_ (hp p q)];exact h2,h3,h4,h5⟩
 ·by_cases hb:b=e
  ·subst hb;rw[y3_]at q;cases q;exact⟨ph,po,ps⟩
  ·rw[q4_ hb]at q
   exact(I.hok b u q).stay (fun _ _ _ z=>z) (fun c z=>by rw[q4_ (ne z)];exact z) fun c xs z=>by rw[q4_ (ne z)];exact z
theorem b6W{h':Heap}{m':OU}{tk:Nat}(I:Inv X pins σ H s)(hn':h'.Ns X.env.locals m')(hs:Heap.SameBut X.env.locals s.heap h')(hl:σ'.length=σ.length)
  (hσ:∀(i:Nat) (x:Str) (v:V),X.N[i]? =some x->σ'[i]? =some (some v)->Vis X.env.scope x->∃u,q9_ v u/\a8K X.env h' m' x u):Inv X pins σ' H {s with heap:=h',toks:=tk}:=by
 have cne:=I.cne
 refine⟨I.ok,I.os,I.bare,⟨fun b o e n hb hx=>?_,fun b o e n hb hx=>?_,I.base.free,fun b o e hx=>?_,I.base.tups,I.base.frzs,I.base.tbls⟩,⟨_,hn',hσ⟩,fun y c e=>?_,I.free,I.freeC,fun p hp=>?_,fun b ob e=>?_,hl.trans I.len⟩
 ·exact(hs.2 b (Qi (Ql (Qu e) I.ok.above))).trans (I.base.keep b o e n hb hx)
 ·obtain⟨sl,e1⟩:=I.base.slot b o e n hb hx
  exact⟨sl,(hs.2 b (Qi (Ql (Qu e) I.ok.above))).trans e1⟩
 ·obtain⟨o',e1⟩:=I.base.there b o e hx
  exact⟨o',(hs.2 b (Qi (Ql (Qu e) I.ok.above))).trans e1⟩
 ·obtain⟨w',z⟩:=I.cell y c e
  exact⟨w',z.sameBut hs (cne y c e)⟩
 ·obtain⟨e,n,ne,nf,d⟩:=I.pin p hp
  exact⟨(hs.2 p.1 ne).trans e,n,ne,nf,d⟩
 ·refine(I.hok b ob e).stay (fun c w' hc q=>(hs.2 c ?_).trans q) (fun _ q=>q) fun _ _ q=>q
  rintro rfl
  rcases hc with rfl|hc
  ·rw[I.free]at e;cases e
  ·rw[I.free]at hc;cases hc
theorem b6X{M:Model}{A:Around}{E:OE}{i:Nat}{n:Str}{pos:Pos}{Q:Unit->Shared->Prop}(I:Inv X pins σ H s)(hN:X.N.Nodup)(hi:X.N[i]? =some n)(hk:X.env.scope.names.lookup n=some .local)
  (h:∀s',Inv X pins (σ.set i none) H s'->Q () s'):wpAny M A (do bindName X.env n .none;unbindBehindTheSuite X.env n pos) Q E s:=by
 have hcls:(X.env.scope.kind==.class||(X.env.scope.kind==.module&&X.env.locals !=X.env.globals))=false:=by rw[I.ok.kind];rfl
 have hiσ:i<σ.length:=by rw[I.len];exact(Qb.mp hi).1
 refine Qz (wpAny_bindName (a3X (v:=.non) (u:=.none) I hN hi (.inl hk) rfl (fun s1 I1=>?_) (.inr hk)))
 unfold unbindBehindTheSuite;refine Vu ?_
 obtain⟨m,hn,hl⟩:=I1.loc;obtain⟨u,ru,lk⟩:=hl i n .non hi (Zd hiσ) (.inl hk);have hm:m n=some u:=by
  rcases lk with⟨_,z⟩|⟨z,_⟩
  ·exact z
  ·have:X.env.kindOf n=some .local:=hk
   rcases z with z|z<;>(rw[this]at z;cases z)
 refine wpAny_unbindName_local hk hn hm hcls fun h' u' hn' hs=>?_
 obtain⟨hh,g,d,t,o⟩:=s1;refine h _ (b6W (tk:=t) I1 hn' hs (by simp) fun j y v e1 e2 e3=>?_)
 by_cases hj:j=i
 ·subst hj;rw[Zd hiσ]at e2;cases e2
 ·rw[Qc (Zh hj)]at e2
  obtain⟨w,rw',q⟩:=hl j y v e1 (by rw[Qc (Zh hj)];exact e2) e3
  refine⟨w,rw',?_⟩
  rcases q with⟨k,e⟩|⟨k,c,e,z⟩
  ·refine .inl ⟨k,?_⟩
   have:y≠n:=fun e=>hj (a6d hN e1 (e ▸ hi))
   simp[this,e]
  ·exact .inr ⟨k,c,e,z.sameBut hs (I1.cne y c e)⟩
end
theorem Ev.setNone{K:Frag}{B:OA}{G G1:Hp}{σ σ1:St}{env env1:Env'}{H H1:Hp}{i:Nat}(ev:Ev K B G σ env H G1 σ1 env1 H1):Ev K B G σ env H G1 (σ1.set i none) (env1.set i .nil) H1:=by
 have e0:=ev.setNil (i:=i)
 have rl:=e0.rel
 have ne:∀(j:Nat) (w:W),(env1.set i .nil)[j]? =some w->w≠.nil->(σ1.set i none)[j]? =σ1[j]?:=fun j w q1 q2=>by
  rcases k5_ q1 with⟨_,z⟩|z
  ·exact absurd z q2
  ·exact Qc (Zh z.1)
 have nm:∀(w:W) (es:Mu),w.mut=some es->w≠.nil:=fun w es h z=>by rw[z]at h;cases h
 refine⟨⟨rl.sub,by rw[rl.len];simp,fun j d q=>?_,fun j w es q1 q2=>?_,fun j k w w' es fs b q1 q2 q3 q4 q5 q6=>?_,fun j w b q1 qo q2=>?_,rl.old,rl.tabs,rl.gnt⟩,e0.same,e0.keep,e0.live,e0.stay,fun b z=>?_,fun j w q qp=>?_,by rw[Zv];exact e0.slen⟩
 ·rw[ne j _ q (by simp)];exact rl.dat j d q
 ·rw[ne j _ q1 (nm w es q2)];exact rl.own j w es q1 q2
 ·rw[ne j _ q1 (nm w es q2)]at q5;rw[ne k _ q3 (nm w' fs q4)]at q6;exact rl.inj j k w w' es fs b q1 q2 q3 q4 q5 q6
 ·rw[ne j _ q1 (by rintro rfl;cases qo)]at q2;exact rl.fresh j w b q1 qo q2
 ·obtain⟨j,w,es,q1,q2,q3⟩:=z
  rw[ne j _ q1 (nm w es q2)]at q3;exact e0.sub b ⟨j,w,es,q1,q2,q3⟩
 ·rw[ne j _ q (by rintro rfl;cases qp)];exact e0.par j w q qp
theorem b6Y{l:List Env}{H H':Hp}{h h1 h2 Bh:Heap}(un:Un (frs l) [] H H' h h1)(kept:∀b o,h.get? b=some o->H b=none->b∉frs l->Bh.get? b=some o)(thr:∀b o,h.get? b=some o->b∉frs l->∃o',Bh.get? b=some o')
  (stay:Bh.StaysIn h2)(ups:h1.UpToSlots h2)(fr:∀b∈frs l,H b=none/\∃o,h.get? b=some o/\∀vs,o.data≠.fields vs):Un (frs l) [] H H' h h2:=by
 have sl:∀b o,h.get? b=some o->b∈frs l->∃sl,h2.get? b=some {o with slots:=sl}:=fun b o q hb=>by
  obtain⟨n,o1,g1,g2⟩:=fr b hb;rw[q]at g1;cases g1;obtain⟨s1,q1⟩:=un.slot b o q n hb (by simp)
  obtain⟨s2,q2⟩:=ups b _ q1 g2;exact⟨s2,q2⟩
 exact⟨fun b o q n hb _=>stay b o (kept b o q n hb),fun b o q n hb _=>sl b o q hb,un.free,fun b o q _=>by
  by_cases hb:b∈frs l
  ·obtain⟨s1,q1⟩:=sl b o q hb;exact⟨_,q1⟩
  ·obtain⟨o',q1⟩:=thr b o q hb;exact⟨o',stay b o' q1⟩,un.tups,un.frzs,un.tbls⟩
section
variable{M:Model}{A:Around}{E:OE}{K:Frag}{e C Dd:Addr}{h:Heap}{g:Array GenState}{d:Drawn}{t:Nat}{os:OsState}
theorem b6Z{Q:Bool->Shared->Prop}{od:Option Addr}{cd:ClassData}{sl:Array (Option Value)}(X:K.In h)(I:a0i e C h)(hsub:mroIn K C (.ref Dd)=some true)(hD:mroIn K Dd (.type "BaseException")=some true)(hk:K.lookup Dd=some ⟨.type "type",od,.cls cd,sl⟩)
  (hq:Q true ⟨h,g,d,t,os⟩):wpAny M A (excMatches (.ref e) (.ref Dd)) Q E ⟨h,g,d,t,os⟩:=by
 have L0:=I.type (M:=M)
 have L1:=looks_mroIn (M:=M) X hsub
 have L2:=looks_mroIn (M:=M) X hD
 have f:=tc_notTuple
 have hC:=X _ _ hk
 unfold excMatches
 repeat (first|with_reducible refine L0.at ?_|with_reducible refine L1.at ?_|with_reducible refine L2.at ?_|with_reducible refine wpAny_loadPart_at hC ?_|wp_step)
 exact hq
end
theorem b7a{K:Frag}{C:Addr}{bm:List Value}{nid:String}(h:excIn K C bm nid=true):∃od cd sl,K.lookup C=some ⟨.type "type",od,.cls cd,sl⟩:=by
 unfold excIn at h;split at h
 ·rename_i dd cd sl ho;exact⟨dd,cd,sl,ho⟩
 ·cases h
theorem b7b{K:Frag}{C:Addr}(h:a0K K C=true):mroIn K C (.type "BaseException")=some true:=by
 unfold a0K at h;simp only[Qy,Jj]at h;exact h.1
def a3E(a:Addr)(h:Heap):Prop:=∃o fd,h.get? a=some o/\o.data=.func fd
theorem b7c{M:Model}{a:Addr}(h:Heap)(p:a3E a h):∃k,(k=Keeper.frame∨k=Keeper.machine∨k=Keeper.boundFrame)/\Looks M h (keeperOf (.ref a)) k:=by
 obtain⟨o,fd,h1,h2⟩:=p;refine⟨.frame,.inl rfl,(Looks.ld (part:=none) h1).andThen ?_⟩;rw[h2];exact .now
def a7q(X:Cx)(B:OA)(fl:Addr)(o:Option Str)(G:Hp):Prop:=
 ∀(pins:OX) (s:Shared) (σ:St) (env:Env') (Q:VK) (E:XK),Inv X pins σ X.H₀ s->Rel X.K B G σ env X.H₀->
  (o=none->∀v G' H',Ev X.K B G σ env X.H₀ G' σ env H'->Q v H')->
  (∀n C,o=some n->nsIn X.K mainGlobals n=some (some (.ref C))->∀G' H',Ev X.K B G σ env X.H₀ G' σ env H'->E (.ref C) none H')->
  codeAny (model X.prog X.w) X.A (.call (.ref fl) ⟨[],[]⟩) (CR (CXE X.prog X.w) X.stack X.prog X.w X.H₀ s Q E) s
section
variable{X:Cx}{B:OA}{S n x y:Str}{names:List Str}{i0 i j:Nat}{fl:Addr}{o:Option Str}{G₀:Hp}{cp cpos epos sp yp np apos hpos tpos:Pos}
abbrev exD(n:Str):D:=.obj (.exc n)
def b7d(X:Cx)(B:OA)(names:List Str)(fl:Addr)(i0 i j:Nat)(o:Option Str)(G:Hp):TS:=fun D σ H=>σ[i0]? =some (some (.ref fl))/\H=X.H₀/\∃env,Rel X.K B G σ env H/\
 (o=none->∀G' H',Ev X.K B G σ env H G' σ env H'->D.nx σ H')/\∀c,o=some c->c∈names/\∀σ' G' H',Ev X.K B G σ env H G' σ' (((env.set i (.dat (exD c))).set j (.dat (exD c))).set i .nil) H'->D.nx σ' H'
theorem caught{pins:OX}{s s':Shared}{σ:St}{H G:Hp}{env:Env'}{D:Ends}{ev:Value}(hst:X.stack=X.env::X.outer)(hfr:X.env.frame=some X.env.locals)(hex:X.ex=[])(hx:a1p X.K S names=true)(hN:X.N.Nodup)
  (hi:X.N[i]? =some n)(hil:X.env.scope.names.lookup n=some .local)(hj:X.N[j]? =some y)(hjl:X.env.scope.names.lookup y=some .local)(hgS:Gl X S)
  (I:Inv X pins σ H s)(rl:Rel X.K B G σ env H)(hX:∀c,o=some c->c∈names/\∀σ' G' H',Ev X.K B G σ env H G' σ' (((env.set i (.dat (exD c))).set j (.dat (exD c))).set i .nil) H'->D.nx σ' H')
  (cx:CXE X.prog X.w X.stack H s (fun cls _ H'=>∃c C G',o=some c/\nsIn X.K mainGlobals c=some (some (.ref C))/\cls=.ref C/\Ev X.K B G σ env H G' σ env H') ev s')
  (hdS:(S==("__debug__":Str))=false)(hdn:(n==("__debug__":Str))=false)(hcdn:(n==("__classdict__":Str))=false)(hsw:swapsWith (.Name n np) (some (.Name y yp)) apos.line X.env=pure false):
  wpAny (model X.prog X.w) X.A (noteFrame ev X.env) (fun _ s₂=>wpAny (model X.prog X.w) X.A (setFlight ev none) (fun _ s₃=>
   wpAny (model X.prog X.w) X.A (handleBy ev X.env [.ExceptHandler (some (.Name S sp)) (some n) [.Assign [.Name y yp] (.Name n np) apos] hpos]) (SP X pins D) X.xe s₃) X.xe s₂) X.xe s':=by
 obtain⟨e,t,C,H',Bh,rfl,os,bare,fly,un,hok,kept,thr,c,C',G',ho,hC,hcc,evx⟩:=cx;cases hcc;obtain⟨hcn,hD⟩:=hX c ho;obtain⟨C2,F⟩:=a3D hx hcn;have:=F.nm;rw[hC]at this;cases this;obtain⟨Sd,hS,hsub,hoS,hkS⟩:=F.sub;have frF:∀b∈frs X.stack,H b=none/\∃o,s.heap.get? b=some o/\∀vs,o.data≠.fields vs:=fun b hb=>⟨I.stkFree b hb,(I.stack.mem hb).2⟩
 have eB:Bh.get? e=none:=fly.2.1
 obtain⟨oe0,vs0,he0,_,hd0,_⟩:=fly.first
 have eS:s.heap.get? e=none:=by
  cases q:s.heap.get? e with
  |none=>rfl
  |some o0=>
   by_cases hb:e∈frs X.stack
   ·obtain⟨_,o1,g1,g2⟩:=fly.2.2.1.mem hb
    rw[he0]at g1;cases g1;exact absurd hd0 (g2 vs0)
   ·obtain⟨o',q'⟩:=thr e o0 q hb
    rw[eB]at q';cases q'
 have e0:X.s₀.heap.get? e=none∨e∈X.ex:=by
  by_cases hx:e∈X.ex
  ·exact .inr hx
  ·refine .inl ?_
   cases q:X.s₀.heap.get? e with
   |none=>rfl
   |some o0=>obtain⟨o',q'⟩:=I.base.there e o0 q hx;rw[eS]at q';cases q'
 have eH:H' e=none:=by
  cases q:H' e with
  |none=>rfl
  |some u=>
   have ok:=hok e u q
   have:∃o,Bh.get? e=some o:=by
    cases u with
    |lst xs=>obtain⟨_,_,_,_,z⟩:=ok;exact⟨_,z⟩
    |tup xs=>obtain⟨_,_,_,ob,z,_⟩:=ok;exact⟨_,z⟩
    |dK kvs=>obtain⟨_,_,_,_,o,_,_,z,_⟩:=ok;exact⟨_,z⟩
    |dT C kvs=>obtain⟨_,_,_,_,o,_,_,z,_⟩:=ok;exact⟨_,z⟩
    |set S n=>obtain⟨o,_,_,_,z,_⟩:=ok;exact⟨_,z⟩
    |ins C dx fs=>obtain⟨_,_,_,z,_⟩:=ok;exact⟨_,z⟩
    |own y=>obtain⟨_,z⟩:=ok;exact⟨_,z⟩
    |xd fs=>obtain⟨_,⟨_,_,_,z,_⟩,_⟩:=ok;exact⟨_,z⟩
    |rng lo hi=>obtain⟨_,_,_,z⟩:=ok;exact⟨_,z⟩
    |frz ob u=>obtain⟨z,_⟩:=ok;exact⟨_,z⟩
    |tbl ps=>exact⟨_,(show Bh.get? e=some _ from ok)⟩
    |met f y=>exact⟨_,(show Bh.get? e=some _ from ok)⟩
    |ext φ=>obtain⟨_,z,_⟩:=ok;exact z
   rw[eB]at this;obtain⟨_,z⟩:=this;cases z
 have invAt:∀h2:Heap,Bh.StaysIn h2->s'.heap.UpToSlots h2->Inv X pins σ H' {s' with heap:=h2}:=fun h2 st ups=>
  I.call' (s':={s' with heap:=h2}) (ch:=[]) os (b6Y un kept thr st ups frF) (hok.kept fun b u q=>st b u q) bare (fun b z=>absurd z (by simp))
 rw[hst]at fly;have frames:X.A.frames=some (X.env::X.outer):=by rw[I.ok.frames,hst]
 refine wpAny_looks_onW (L:=X.env.locals) frames hfr fly fun h4 held4 ups4=>?_
 refine wpAny_landsW held4 fun h5 fly5 ups5=>?_
 have I5:=invAt h5 fly5.1 (ups4.trans ups5)
 refine wpAny_handleBy_cons (codeAny_handlers_test ?_) (by intro q;cases q)
 have markI:∀{σ:St}{H:Hp}{s:Shared},Inv X pins σ H s->Inv ({X with A:=X.A.mark (some (.ref e)),calm:=false,xe:=fun _ _=>False}:Cx) pins σ H s:=fun J=>
  ⟨⟨J.ok.mod,J.ok.kind,J.ok.glob,J.ok.blt,J.ok.above,J.ok.inj,J.ok.has,J.ok.cab,(fun z=>nomatch z),J.ok.frames,J.ok.stk,J.ok.exf,J.ok.bs,J.ok.bsz,J.ok.noex,J.ok.exfs,J.ok.funs,J.ok.frf⟩,J.os,J.bare,J.base,J.loc,J.cell,J.free,J.freeC,J.pin,J.hok,J.len⟩
 have unmark:∀{σ:St}{H:Hp}{s:Shared},Inv ({X with A:=X.A.mark (some (.ref e)),calm:=false,xe:=fun _ _=>False}:Cx) pins σ H s->Inv X pins σ H s:=fun J=>⟨I.ok,J.os,J.bare,J.base,J.loc,J.cell,J.free,J.freeC,J.pin,J.hok,J.len⟩
 refine a3Y (X:=({X with A:=X.A.mark (some (.ref e)),calm:=false,xe:=fun _ _=>False}:Cx)) (markI I5) hgS (mg_of I.mod.kin I.mod.glob hS) ?_ hdS
 obtain⟨od,cd,sl,hlk⟩:=b7a (let ⟨Z,z1,z2⟩:=b0P hoS;by rw[hS]at z1;cases z1;exact z2)
 obtain⟨oe5,vs5,he5,hc5,_,_⟩:=fly5.first
 refine b6Z I5.kIn ⟨oe5,he5,hc5⟩ hsub (b7b hkS) hlk ?_
 dsimp only[if_true];refine codeAny_handlers_suite_as ?_
 refine lands_againW fly5 fun h6 fly6 ups6=>?_
 have I6:=invAt h6 fly6.1 ((ups4.trans ups5).trans ups6)
 obtain⟨oe6,vs6,he6,hc6,_,_⟩:=fly6.first
 have hexN:e∉X.ex:=fun z=>by rw[hex]at z;cases z
 have I7:Inv X pins σ (upd H' e (.ext (a0i e C))) {s' with heap:=h6}:=by
  refine b6V I6 eH (e0.elim id fun z=>absurd z hexN) (fun z=>?_) (fun x c q z=>?_) (fun p q z=>?_) ⟨oe6,he6,hc6⟩ ⟨_,he6⟩ fun h1 h2 p k=>?_
  ·obtain⟨m,⟨o1,_,_,g,_⟩,_⟩:=I.loc
   rw[←z,eS]at g;cases g
  ·obtain⟨v,o1,g,_⟩:=I.cell x c q
   rw[z,eS]at g;cases g
  ·obtain⟨g,_⟩:=I.pin p q
   rw[z,eS]at g;cases g
  ·obtain⟨o1,g1,g2⟩:=p
   exact⟨o1,k o1 g1,g2⟩
 refine a3X I7 hN hi (.inl hil) (show q9_ (.ref e) (.ref e)from rfl) (fun s8 I8=>?_) (.inr hil)
 have hiσ:i<σ.length:=by rw[I.len];exact(Qb.mp hi).1
 refine Zp (a8P (a4U (X:=({X with A:=X.A.mark (some (.ref e)),calm:=false,xe:=fun _ _=>False}:Cx)) (pos:=apos) (pos':=yp) hN hj (.inl hjl) (a6e (pos:=np) hi (.inl hil) hdn hcdn) hsw (.inr hjl)) pins s8 (σ.set i (some (.ref e))) (upd H' e (.ext (a0i e C)))
  {nx:=fun σ' H2=>σ'=(σ.set i (some (.ref e))).set j (some (.ref e))/\H2=upd H' e (.ext (a0i e C)),rt:=fun _ _=>False} (markI I8) ⟨_,Zd hiσ,rfl,rfl⟩) (fun f s9 q=>?_) fun _ _ z=>z.elim
 cases f with
 |ret u=>obtain⟨_,_,_,_,_,z⟩:=q;exact z.elim
 |brk=>obtain⟨_,_,_,z⟩:=q;exact z.elim
 |cont=>obtain⟨_,_,_,z⟩:=q;exact z.elim
 |next=>
  obtain⟨σ9,H9,I9,rfl,rfl⟩:=q;refine b6X (unmark I9) hN hi hil fun s10 I10=>?_
  refine⟨_,_,I10,?_⟩;have ev2:=evx.trans (evx.rel.alloc (o:=.ext (a0i e C)) eH);have rp:Rep X.K (upd G' e (.ext (a0i e C))) (.ref e) (exD c):=by
   simp only[Rep];exact⟨e,C,_,rfl,hC,y3_,b6Q F.kit,b6R F.kit⟩
  exact hD _ _ _ (((ev2.setDat (i:=i) rp).setDat (i:=j) rp).setNone (i:=i))
theorem b7e(hst:X.stack=X.env::X.outer)(hfr:X.env.frame=some X.env.locals)(hex:X.ex=[])(hx:a1p X.K S names=true)(hN:X.N.Nodup)(h0:X.N[i0]? =some x)(hv:Vis X.env.scope x)
  (hi:X.N[i]? =some n)(hil:X.env.scope.names.lookup n=some .local)(hj:X.N[j]? =some y)(hjl:X.env.scope.names.lookup y=some .local)(hgS:Gl X S)
  (fn:∀pins σ H s,Inv X pins σ H s->a3E fl s.heap)(clo:a7q X B fl o G₀)
  (hdx:(x==("__debug__":Str))=false:=by decide)(hcdx:(x==("__classdict__":Str))=false:=by decide)(hdS:(S==("__debug__":Str))=false:=by decide)(hdn:(n==("__debug__":Str))=false:=by decide)(hcdn:(n==("__classdict__":Str))=false:=by decide)
  (hsw:swapsWith (.Name n np) (some (.Name y yp)) apos.line X.env=pure false:=by rfl)(hsw2:swapsWith (.Call (.Name x cp) [] [] cpos) none epos.line X.env=pure false:=by rfl):
  PS X (.Try [.Expr (.Call (.Name x cp) [] [] cpos) epos] [.ExceptHandler (some (.Name S sp)) (some n) [.Assign [.Name y yp] (.Name n np) apos] hpos] [] [] tpos) (b7d X B names fl i0 i j o G₀):=by
 intro pins s σ H D I ⟨hσ,hH,env,rl,hN0,hX0⟩;subst hH;refine wpAny_Try_except ?_
 refine wpAny_execs_cons (wpAny_Expr_any ?_ I.quiet hsw2);refine Jo ?_
 have name:=fun(W:OE)=>a6e (X:=X.wish W) (pos:=cp) h0 hv hdx hcdx pins s σ X.H₀ (fun v H'=>v=.ref fl/\H'=X.H₀) (I.wish W) ⟨_,hσ,rfl,rfl⟩
 refine Zp (name fun _ _=>False) (fun u s1 ⟨v,H1,I1,r1,q1,q2⟩=>?_) fun _ _ z=>False.elim z
 subst q1;subst q2;cases (show u=Value.ref fl from r1)
 have I1:=I1.unwish
 refine callWith_of (P:=a3E fl) rfl (fun h p=>b7c h p) (evalArgs_nil3 ⟨fn pins σ _ s1 I1,?_⟩)
 refine wpAny_call (Vh (clo pins s1 σ env (fun _ H'=>D.nx σ H') (fun cls _ H'=>∃c C G',o=some c/\nsIn X.K mainGlobals c=some (some (.ref C))/\cls=.ref C/\Ev X.K B G₀ σ env _ G' σ env H') I1 rl (fun z v G' H' ev=>hN0 z G' H' ev) (fun c C z hC G' H' ev=>⟨c,C,G',z,hC,rfl,ev⟩)) fun r s' hq=>?_)
 cases r with
 |error ev=>exact caught hst hfr hex hx hN hi hil hj hjl hgS I1 rl hX0 hq hdS hdn hcdn hsw
 |ok f=>
  cases f with
  |next=>exact False.elim hq
  |brk=>exact False.elim hq
  |cont=>exact False.elim hq
  |ret u=>
   obtain⟨v,H',I',_,q⟩:=I1.after hq;exact Us (Us ⟨σ,H',I',q⟩)
end
def a7r(names:List Str)(i j:Nat)(o:Option Str):Mo Fl:=fun env=>match o with
 |none=>some (.nx,env)
 |some c=>if names.contains c then some (.nx,((env.set i (.dat (exD c))).set j (.dat (exD c))).set i .nil)else none
section
variable{X:Cx}{B:OA}{S n x y:Str}{names:List Str}{i0 i j:Nat}{fl:Addr}{o:Option Str}{G₀:Hp}{cp cpos epos sp yp np apos hpos tpos yp0 spos0 npos0:Pos}{rest:List Stmt}{m:Mo Fl}{kk:Nat}
theorem b7f(hst:X.stack=X.env::X.outer)(hfr:X.env.frame=some X.env.locals)(hex:X.ex=[])(hx:a1p X.K S names=true)(hN:X.N.Nodup)(h0:X.N[i0]? =some x)(hv:Vis X.env.scope x)
  (hi:X.N[i]? =some n)(hil:X.env.scope.names.lookup n=some .local)(hj:X.N[j]? =some y)(hjl:X.env.scope.names.lookup y=some .local)(hij:i0≠j)(hgS:Gl X S)
  (fn:∀pins σ H s,Inv X pins σ H s->a3E fl s.heap)(clo:a7q X B fl o G₀)(hr:ESs X B rest m)
  (hdx:(x==("__debug__":Str))=false:=by decide)(hcdx:(x==("__classdict__":Str))=false:=by decide)(hdS:(S==("__debug__":Str))=false:=by decide)(hdn:(n==("__debug__":Str))=false:=by decide)(hcdn:(n==("__classdict__":Str))=false:=by decide)
  (hsw:swapsWith (.Name n np) (some (.Name y yp)) apos.line X.env=pure false:=by rfl)(hsw2:swapsWith (.Call (.Name x cp) [] [] cpos) none epos.line X.env=pure false:=by rfl)
  (hsw3:swapsWith (.Constant .none kk npos0) (some (.Name y yp0)) spos0.line X.env=pure false:=by rfl):
  PSs X (.Assign [.Name y yp0] (.Constant .none kk npos0) spos0::.Try [.Expr (.Call (.Name x cp) [] [] cpos) epos] [.ExceptHandler (some (.Name S sp)) (some n) [.Assign [.Name y yp] (.Name n np) apos] hpos] [] [] tpos::rest)
   (fun D σ H=>σ[i0]? =some (some (.ref fl))/\H=X.H₀/\∃env f env',Rel X.K B G₀ σ env H/\(z9_ (v2_ j (mC .non)) (z9_ (a7r names i j o) m)) env=some (f,env')/\Post X.K B G₀ σ env H env' D f):=by
 refine pss_imp (a3e (a4U hN hj (.inl hjl) a8M hsw3 (.inr hjl)) (a3e (b7e hst hfr hex hx hN h0 hv hi hil hj hjl hgS fn clo hdx hcdx hdS hdn hcdn hsw hsw2) hr)) ?_
 rintro D σ H ⟨hσ,hH,env,f,env',rl,e,k⟩;obtain⟨⟨f1,env1⟩,e1,e2⟩:=q1_ e;cases e1;dsimp only at e2;obtain⟨⟨f2,env2⟩,e3,e4⟩:=q1_ e2;have ev1:Ev X.K B G₀ σ env H G₀ (σ.set j (some .non)) (env.set j (.dat .non)) H:=(Ev.refl rl).setDat (i:=j) (v:=.non) (d:=.non) (by simp only[Rep])
 refine⟨by rw[Qc (Zh hij)];exact hσ,hH,_,ev1.rel,fun z G' H' ev=>?_,fun c z=>?_⟩
 ·subst z
  cases e3;exact⟨G',_,f,env',ev.rel,e4,Post.after _ _ k (ev1.trans ev)⟩
 ·subst z
  unfold a7r at e3;dsimp only at e3;split at e3
  ·rename_i hc
   cases e3;exact⟨by simpa using hc,fun σ' G' H' ev=>⟨G',_,f,env',ev.rel,e4,Post.after _ _ k (ev1.trans ev)⟩⟩
  ·cases e3
end
theorem b7g{X:Cx}{E:XK}(hst:X.stack=X.env::X.outer)(hfr:X.env.frame=some X.env.locals)(hex:X.ex=[])
  (hxe:∀e s',wpAny (model X.prog X.w) X.A (leaving X.env e) (fun _ s''=>CXE X.prog X.w X.outer X.H₀ X.s₀ E e s'') (fun e' s''=>CXE X.prog X.w X.outer X.H₀ X.s₀ E e' s'') s'->X.xe e s'):XOk X E:=by
 refine⟨fun pins σ H s ev s' I h=>hxe _ _ ?_,fun pins σ H s h' e C vs I hm hE=>hxe _ _ ?_⟩
 ·obtain⟨e,t,C,H',Bh,rfl,os,bare,fly,un,hok,kept,thr,hE⟩:=h
  rw[hst]at fly;refine wpAny_leaves_onW (L:=X.env.locals) (by rw[I.ok.frames,hst]) hfr fly fun h2 fly2 ups=>?_
  refine a5y hst hfr hex I os bare fly2 kept thr (fun b o q n hb=>?_) (fun b o q n=>un.free b o q n (by simp)) un.tups un.frzs un.tbls hok hE
  obtain⟨sl,q1⟩:=un.any q n (by simp)
  obtain⟨_,o1,g1,g2⟩:=I.funs.mem hb;rw[q]at g1;cases g1;obtain⟨sl2,q2⟩:=ups b _ q1 g2;exact⟨sl2,q2⟩
 ·have hs:=I.stack
  rw[hst]at hs;refine wpAny_leaves_madeW (L:=X.env.locals) (base:=hideAll s.heap (frs X.stack)) (h:=s.heap) (by rw[I.ok.frames,hst]) hfr (fun b o q=>of_hideAll _ q)
   (funFrames_hide hs fun env he b hb=>by rw[hst];exact Ys.mpr ⟨env,he,hb⟩) hm fun h2 t fly _ hn ups=>?_
  refine a5y (s:=s) (s':={s with heap:=h2}) hst hfr hex I rfl I.bare fly (fun b o q _ hb=>Jy _ q hb) (fun b o q hb=>⟨o,Jy _ q hb⟩) (fun b o q n hb=>?_) (fun b o q n=>n) (fun _ _ q=>q) (fun _ _ _ q=>q) (fun b ps q=>⟨#[],by rw[q];simp⟩) ?_ hE
  ·obtain⟨_,o1,g1,g2⟩:=I.funs.mem hb
   rw[q]at g1;cases g1;obtain⟨sl2,q2⟩:=ups b _ (hm.keeps b o q) g2;exact⟨sl2,q2⟩
  ·exact b0O (P:=X.prog) (w:=X.w) I.hok fun b u o q1 q2=>Jy _ q2 fun z=>by rw[I.stkFree b z]at q1;cases q1
theorem a4w{K:Frag}{B1 B2:OA}{G G' H H':Hp}{σ1 σ1' σ2:St}{env1 env1' env2:Env'}(ev:Ev K B1 G σ1 env1 H G' σ1' env1' H')(no:∀a,¬ Owned σ1 env1 a)(rl:Rel K B2 G σ2 env2 H):Ev K B2 G σ2 env2 H G' σ2 env2 H':=by
 refine⟨⟨ev.rel.sub,rl.len,fun i d e=>?_,fun i w ds e1 e2=>?_,rl.inj,rl.fresh,fun b h=>ev.live b (rl.old b h),ev.rel.tabs,ev.rel.gnt⟩,ev.same,fun b o _ t e=>ev.keep b o (no b) t e,ev.live,fun b e _ g=>ev.stay b e (no b) g,fun a z=>.inl z,fun i w e hp=>⟨rfl,w,e,hp⟩,rfl⟩
 ·obtain⟨v,q1,q2⟩:=rl.dat i d e
  exact⟨v,q1,Rep.mono ev.same d q2⟩
 ·obtain⟨a,xs,q1,q2,q3,q4⟩:=rl.own i w ds e1 e2
  exact⟨a,xs,q1,ev.keep a _ (no a) q3.nt q2,q3.mono ev.same,ev.stay a (by rw[q2];simp) (no a) q4⟩
theorem b0W{K:Frag}{B:OA}{G H:Hp}{σ:St}{env:Env'}(rl:Rel K B G σ env H):Rel K g6_ G [] [] H:=
 ⟨rl.sub,rfl,fun i d e=>by simp at e,fun i w ds e=>by simp at e,fun i j w w' ds es a e=>by simp at e,fun i ds a e=>by simp at e,fun b h=>h.elim,rl.tabs,rl.gnt⟩
theorem a7s{a:Addr}:¬ Owned [] [] a:=fun⟨i,w,ds,e,_⟩=>by simp at e
def a2h(P:Program)(w:World)(K:Frag)(mg:OU)(base:Heap)(N':List Str)(q:Str)(scope:Scope)(fl:Addr)(cd:Value)(cl:List (Str×Addr))(A:Around)(outer:List Env)(s:Shared)(H:Hp)(E:XK):Cx where
 prog:=P
 w:=w
 K:=K
 mg:=mg
 base:=base
 A:=A.deeper (envX q scope s.heap.objs.size fl cd cl)
 N:=N'
 s₀:=s
 H₀:=H
 env:=envX q scope s.heap.objs.size fl cd cl
 outer:=outer
 stack:=envX q scope s.heap.objs.size fl cd cl::outer
 ex:=[]
 fn:=fun _=>false
 calm:=true
 pn:=[]
 xe:=fun e s'=>wpAny (model P w) (A.deeper (envX q scope s.heap.objs.size fl cd cl)) (leaving (envX q scope s.heap.objs.size fl cd cl) e) (fun _ s''=>CXE P w outer H s E e s'') (fun e' s''=>CXE P w outer H s E e' s'') s'
section
variable{P:Program}{w:World}{K:Frag}{mg:OU}{base:Heap}{N':List Str}{q:Str}{scope:Scope}{fl:Addr}{cd:Value}{cl:List (Str×Addr)}{A:Around}{outer:List Env}{s:Shared}{H:Hp}{E:XK}{σ:St}
theorem b0X:XOk (a2h P w K mg base N' q scope fl cd cl A outer s H E) E:=b7g rfl rfl rfl fun _ _ h=>h
theorem b7h{h₁:Heap}{m:OU}{tk:Nat}(e0:Env0 P w K mg base A outer s H)(hd:A.handled=none)(hk:scope.kind=.function)(hnc:∀x,scope.names.lookup x≠some .cell)
  (inj:∀x y c,cl.lookup x=some c->cl.lookup y=some c->x=y)(has:∀x,scope.names.lookup x=some .free->∃c,cl.lookup x=some c)
  (cell:∀x c,cl.lookup x=some c->(∃v,s.heap.IsCell c v)/\H c=none)
  (val:∀(i:Nat) (x:Str) (v:V),N'[i]? =some x->σ[i]? =some (some v)->Vis scope x->scope.names.lookup x=some .free/\∃c u,cl.lookup x=some c/\q9_ v u/\s.heap.IsCell c (some u))
  (hl:σ.length=N'.length)(hns:h₁.Ns s.heap.objs.size m)(kp:∀b o,s.heap.get? b=some o->h₁.get? b=some o):
  Inv (a2h P w K mg base N' q scope fl cd cl A outer s H E) [] σ H {s with heap:=h₁,toks:=tk}:=by
 have noA:∀b:Addr,b∉(a2h P w K mg base N' q scope fl cd cl A outer s H E).ex:=fun b z=>absurd (show b∈([]:List Addr)from z) (by simp)
 refine⟨⟨e0.mod,hk,rfl,rfl,Qw _,inj,fun y hy=>?_,fun y c z=>absurd (show(false:Bool)=true from z) (by decide),fun _=>hd,Around.frames_deeper e0.frames,.inr ⟨rfl,rfl⟩,fun b z=>absurd z (noA b),e0.bs,e0.bsz,fun b _ _=>noA b,fun b z=>absurd z (noA b),e0.funs,e0.frf⟩,
  rfl,e0.bare,Un.kept kp,⟨_,hns,fun i x v h1 h2 h3=>?_⟩,fun x c e=>?_,e0.hok.fresh (Qw _),fun x c e=>(cell x c e).2,fun p hp=>absurd (show p∈([]:OX)from hp) (by simp),e0.hok.kept kp,hl⟩
 ·rcases hy with hy|hy
  ·exact absurd hy (hnc y)
  ·exact has y hy
 ·obtain⟨k,c,u,g1,g2,g3⟩:=val i x v h1 h2 h3
  exact⟨u,g2,.inr ⟨.inr k,c,g1,g3.keeps kp⟩⟩
 ·obtain⟨⟨v,z⟩,_⟩:=cell x c e
  exact⟨v,z.keeps kp⟩
end
structure LamAt(K:Frag)(params:Arguments)(body:Expr)(scope:Scope)(N':List Str)(lq:Str)(fl c':Addr)(cl:List (Str×Addr))(σ:St)(s₁:Shared)(H₁:Hp)(outer₁:List Env):Prop where
 obj:∃pm ctv,s₁.heap.get? fl=some (kla_obj "<lambda>" lq params body scope cl pm c' ctv)
 free:H₁ fl=none
 nfr:fl∉frs outer₁
 code:∃φ,H₁ c'=some (.ext φ)/\∀h:Heap,φ h->h.CodeRec (.ref c') lq
 inj:∀x y c,cl.lookup x=some c->cl.lookup y=some c->x=y
 has:∀x,scope.names.lookup x=some .free->∃c,cl.lookup x=some c
 cell:∀x c,cl.lookup x=some c->(∃v,s₁.heap.IsCell c v)/\H₁ c=none/\c∉frs outer₁
 val:∀(i:Nat) (x:Str) (v:V),N'[i]? =some x->σ[i]? =some (some v)->Vis scope x->scope.names.lookup x=some .free/\∃c u,cl.lookup x=some c/\q9_ v u/\s₁.heap.IsCell c (some u)
 len:σ.length=N'.length
def a7t(P:Program)(w:World)(K:Frag)(mg:OU)(base:Heap)(kc:Nat)(fl:Addr)(s₁:Shared)(H₁:Hp)(outer₁:List Env)(o:Option Str)(G:Hp):Prop:=
 (∀(H':Hp) (s:Shared),Un (frs outer₁) [] H₁ H' s₁.heap s.heap->a3E fl s.heap)/\
 ∀(A:Around) (outer:List Env) (s:Shared) (Q:VK) (E:XK),Room kc A->Env0 P w K mg base A outer s H₁->Un (frs outer₁) [] H₁ H₁ s₁.heap s.heap->
  (o=none->∀v G' H',Ev K g6_ G [] [] H₁ G' [] [] H'->Q v H')->
  (∀n C,o=some n->nsIn K mainGlobals n=some (some (.ref C))->∀G' H',Ev K g6_ G [] [] H₁ G' [] [] H'->E (.ref C) none H')->
  codeAny (model P w) A (.call (.ref fl) ⟨[],[]⟩) (CR (CXE P w) outer P w H₁ s Q E) s
def outcome(names:List Str)(mb:Mo D)(xb:Mx)(env:Env'):Option (Option Str):=match xb env with
 |some n=>if names.contains n then some (some n)else none
 |none=>(mb env).map fun _=>none
theorem b7i{P:Program}{w:World}{K:Frag}{mg:OU}{base:Heap}{kc:Nat}{params:Arguments}{body:Expr}{scope:Scope}{N':List Str}{lq:Str}{fl c':Addr}{cl:List (Str×Addr)}{σ:St}{s₁:Shared}{H₁ G:Hp}{outer₁:List Env}{o:Option Str}{lw:Env'}{mb:Mo D}{xb:Mx}
  (L:LamAt K params body scope N' lq fl c' cl σ s₁ H₁ outer₁)(hk:scope.kind=.function)(hco:scope.isCoroutine=false)(hgen:scope.isGenerator=false)(hnc:∀x∈scope.names,x.2≠.cell)
  (hbind:∀pm ctv,bindArgs (kla_fn "<lambda>" lq params body scope cl pm (.ref c') ctv) ⟨[],[]⟩=pure [])
  (rl:Rel K (fun b=>H₁ b≠none) G σ lw H₁)(no:∀a,¬ Owned σ lw a){S:Str}{names:List Str}(hex:a1p K S names=true)(ho:outcome names mb xb lw=some o)
  (hb:∀(A:Around) (outer:List Env) (s:Shared) (E:XK),Room kc (A.deeper (envX lq scope s.heap.objs.size fl (.ref c') cl))->ED (a2h P w K mg base N' lq scope fl (.ref c') cl A outer s H₁ E) (fun b=>H₁ b≠none) body mb)
  (hx:∀(A:Around) (outer:List Env) (s:Shared) (E:XK),Room kc (A.deeper (envX lq scope s.heap.objs.size fl (.ref c') cl))->EDx (a2h P w K mg base N' lq scope fl (.ref c') cl A outer s H₁ E) (fun b=>H₁ b≠none) E body xb):
  a7t P w K mg base (kc+1) fl s₁ H₁ outer₁ o G:=by
 obtain⟨pm,ctv,hobj⟩:=L.obj;have hnc':∀x,scope.names.lookup x≠some .cell:=fun x z=>hnc _ (Zj z) rfl
 refine⟨fun H' s un=>⟨_,_,un.keep fl _ hobj L.free L.nfr (by simp),rfl⟩,fun A outer s Q E hr e0 un hN hX=>?_⟩
 have cellK:∀x c v,cl.lookup x=some c->s₁.heap.IsCell c v->s.heap.IsCell c v:=fun x c v e ⟨oc,h1,h2⟩=>⟨oc,un.keep c oc h1 (L.cell x c e).2.1 (L.cell x c e).2.2 (by simp),h2⟩
 have hcd:s.heap.CodeRec (.ref c') lq:=by
  obtain⟨φ,h1,h2⟩:=L.code;exact h2 _ (e0.hok c' _ h1).1
 have lim:s.heap.NoLimit:=e0.mod.nolimit.keeps fun b o e=>(e0.bs b o e).1
 refine kla_callFunE hr.depth (un.keep fl _ hobj L.free L.nfr (by simp)) rfl hco hgen rfl hcd ?_
 rw[hbind];refine Qd (wpAny_newFunctionEnv hnc (fun x z=>by simp at z) (fun h₁ hns hsb=>⟨lim.fresh _ hsb,?_⟩) hk)
 show codeAny _ _ (.expr body (envX lq scope s.heap.objs.size fl (.ref c') cl)) _ _;have kp:∀b o,s.heap.get? b=some o->h₁.get? b=some o:=fun b o e=>hsb.extBut b o (Qi (Qu e)) (Qj _ e)
 have I:Inv (a2h P w K mg base N' lq scope fl (.ref c') cl A outer s H₁ E) [] σ H₁ {s with heap:=h₁,toks:=s.toks+([]:List (Str×Value)).length}:=by
  refine b7h e0 hr.hd hk hnc' L.inj L.has (fun x c e=>?_) (fun i x v h1 h2 h3=>?_) L.len hns kp
  ·obtain⟨⟨v,z⟩,z2,_⟩:=L.cell x c e
   exact⟨⟨v,cellK x c v e z⟩,z2⟩
  ·obtain⟨k,c,u,g1,g2,g3⟩:=L.val i x v h1 h2 h3
   exact⟨k,c,u,g1,g2,cellK x c _ g1 g3⟩
 have side:∀{G' H':Hp}{σ':St}{lw':Env'},Ev K (fun b=>H₁ b≠none) G σ lw H₁ G' σ' lw' H'->Ev K g6_ G [] [] H₁ G' [] [] H':=fun ev=>a4w ev no (b0W rl)
 refine kla_codeExpr ?_
 unfold outcome at ho;cases hxb:xb lw with
 |some n=>
  rw[hxb]at ho;dsimp only at ho;split at ho
  ·rename_i hn
   cases ho;obtain⟨C,F⟩:=a3D hex (by simpa using hn)
   exact Zp (hx A outer s E (hr.deeper _) [] _ σ H₁ (fun _ _=>False) I ⟨G,lw,n,rl,hxb,C,F.nm,fun σ' G' env' H' ev=>hX n C rfl F.nm G' H' (side ev)⟩) (fun v s' ⟨_,_,_,_,z⟩=>z.elim) fun _ _ z=>z
  ·cases ho
 |none=>
  rw[hxb]at ho;obtain⟨⟨d,lw'⟩,e1,e2⟩:=v8_ ho;cases e2;refine Zp (hb A outer s E (hr.deeper _) [] _ σ H₁ Q I ⟨G,lw,d,lw',rl,e1,fun v G' H' ev rp=>hN rfl v G' H' (side ev)⟩) (fun v s' ⟨x,H',J,rv,z⟩=>?_) fun _ _ z=>z
  exact⟨x,H',J.os,J.bare,J.base,J.hok,rv,z⟩
theorem b7j{K:Frag}{c P:Addr}{q qual:Str}(h1:codeHdIn K c P=true)(h2:codeIn K (.ref c) qual=true)(h3:tabQ K P q=true):q=qual:=by
 unfold codeHdIn at h1;unfold codeIn at h2;split at h1
 ·rename_i vs _ hk
  have m:=Qv.mp h3 _ (mem_of_lookupK hk)
  simp only[hk]at h2;simp only[Qy]at h1;obtain⟨⟨⟨⟨⟨e1,_⟩,_⟩,_⟩,_⟩,_⟩:=h1
  replace m:((match (vs[11]? :Option Value)with|some (.ref P')=>P' !=P|_=>true)||(match vs.toList with|_::.str n _::_=>n==q|_=>false))=true:=by
   split at m
   ·rename_i heq;cases heq;exact m
   ·rename_i hne;exact absurd rfl (hne _ _ _)
  split at e1
  ·rename_i P' h11
   have hP:P'=P:=Jj.mp e1
   subst hP;rw[h11]at m;simp only[bne_self_eq_false,Xx]at m;split at h2
   ·rename_i n t r hl
    simp only[hl]at m;rw[←Jj.mp m,←Jj.mp h2]
   ·cases h2
  ·cases e1
 ·cases h1
def a1G(mg:OU)(base:Heap):Prop:=∃bm o,mg "__builtins__"=some (.ref bm)/\bm≠builtinsNs/\bm≠mainGlobals/\base.get? bm=some o/\o.cls=.type "module"/\o.dict=some builtinsNs/\o.data=.plain
theorem b7k{l:List Value}(h:TriplesOk l):l=[]∨ ∃a t b u d rest,l=.int a t::.int b u::d::rest/\TriplesOk rest:=by
 cases l with
 |nil=>exact .inl rfl
 |cons x l=>
  cases x<;>first|exact False.elim h|skip
  cases l with
  |nil=>exact False.elim h
  |cons y l=>
   cases y<;>first|exact False.elim h|skip
   cases l with
   |nil=>exact False.elim h
   |cons d rest=>exact .inr ⟨_,_,_,_,_,_,rfl,h⟩
theorem b0Y{M:List Value->Prop}(h0:M [])(h1:∀a t b u d rest,TriplesOk rest->M rest->M (.int a t::.int b u::d::rest))(l:List Value)(h:TriplesOk l):M l:=by
 have:∀(n:Nat) (l:List Value),l.length≤n->TriplesOk l->M l:=by
  intro n
  induction n with
  |zero=>
   intro l hl h;cases l with
   |nil=>exact h0
   |cons x l=>exact absurd hl (Nat.not_succ_le_zero _)
  |succ n ih=>
   intro l hl h
   rcases b7k h with rfl|⟨a,t,b,u,d,rest,rfl,hr⟩
   ·exact h0
   ·exact h1 _ _ _ _ _ _ hr (ih rest (by simp only[Zq]at hl;omega) hr)
 exact this l.length l (Qw _) h
theorem b7l(l:List Value){a b:Int}{t u:Tok}{c:Value}(h:TriplesOk l):TriplesOk (l++[.int a t,.int b u,c]):=
 b0Y (M:=fun l=>TriplesOk (l++[.int a t,.int b u,c])) trivial (fun _ _ _ _ _ _ _ ih=>ih) l h
theorem b7m(l:List Value){pos pos':Pos}{c v:Value}(hk:TriplesOk l):codeAmong pos' (l++[rawInt pos.line,rawInt pos.col,c])=some v->codeAmong pos' l=some v∨v=c:=by
 refine b0Y (M:=fun l=>codeAmong pos' (l++[rawInt pos.line,rawInt pos.col,c])=some v->codeAmong pos' l=some v∨v=c) (fun h=>?_) (fun a t b u d rest _ ih h=>?_) l hk
 ·change (if(pos.line:Int)==pos'.line&&(pos.col:Int)==pos'.col then some c else none)=some v at h
  split at h
  ·cases h;exact .inr rfl
  ·cases h
 ·change (if a==pos'.line&&b==pos'.col then some d else codeAmong pos' (rest++[rawInt pos.line,rawInt pos.col,c]))=some v at h
  show(if a==pos'.line&&b==pos'.col then some d else codeAmong pos' rest)=some v∨v=c
  split at h
  ·rename_i z;rw[Qn z];exact .inl h
  ·rename_i z;rw[Qr z];exact ih h
section
variable{X:Cx}{pins:OX}{σ:St}{H:Hp}{s:Shared}{P c:Addr}{ps:Array Value}{qual:Str}{scope:Scope}{cl:List (Str×Addr)}{params:Arguments}{body:Expr}{pos:Pos}
structure Made(X:Cx)(pins:OX)(σ:St)(H:Hp)(s:Shared)(P:Addr)(qual:Str)(params:Arguments)(body:Expr)(scope:Scope)(cl:List (Str×Addr))(fl c':Addr)(H1:Hp)(s1:Shared):Prop where
 inv:Inv X pins σ H1 s1
 ev:∀(B:OA) (G:Hp) (env:Env'),Rel X.K B G σ env H->Ev X.K B G σ env H G σ env H1
 obj:∃pm ctv,s1.heap.get? fl=some (kla_obj "<lambda>" (lamQ qual) params body scope cl pm c' ctv)
 new:s.heap.objs.size≤fl
 free:H1 fl=none
 code:H1 c'=some (LamC X.K P c')
 keep:∀b o,H b=none->s.heap.get? b=some o->s1.heap.get? b=some o/\H1 b=none
theorem b7n{M:Model}{A:Around}{E:OE}{Q:OE}(I:Inv X pins σ H s)(hcode:X.env.code=.ref c)(hc:codeHdIn X.K c P=true)(hq:codeIn X.K (.ref c) qual=true)(htq:tabQ X.K P qual=true)(henv:X.env.qual=qual++".<locals>.")
  (bm:a1G X.mg X.base)(hP:H P=some (.tbl ps))(tabs:TabsOk X.K H)(hcl:closureFor scope X.env=pure cl)(hdef:defaultsOf params X.env=([],[]))
  (h:∀fl c' H1 s1,Made X pins σ H s P qual params body scope cl fl c' H1 s1->Q (.ref fl) s1):wpAny M A (eval (.Lambda params body scope pos) X.env) Q E s:=by
 obtain⟨ht,hent⟩:=tabs P ps hP;have hPo:s.heap.get? P=some (tabObj ps):=I.hok P _ hP;have C:=codeHd_of_K I.kIn hc;have nbase:∀{b o},X.base.get? b=some o->b≠P:=fun{b o} e z=>by rw[z]at e;have:=(I.bs P o e).2;rw[hP]at this;cases this
 have hgs:s.heap.Ns mainGlobals X.mg:=I.mod.glob.keeps I.bk
 have hgP:mainGlobals≠P:=by
  obtain⟨o,_,_,e,_⟩:=I.mod.glob;exact nbase e
 obtain⟨b,ob,b1,b2,b3,b4,b5,b6,b7⟩:=bm;have hB:s.heap.BuiltinsAt X.mg P:=⟨b,ob,b1,b2,b3,nbase b4,I.bk _ _ b4,b5,b6,b7⟩;have hlq:X.env.qual++"<lambda>"=lamQ qual:=by rw[henv];rfl
 refine kla_eval hdef ?_
 rw[hlq];cases hca:codeAmong pos ps.toList with
 |some cv=>
  obtain⟨c',rfl,hc'⟩:=hent pos cv hca;refine kla_makeFunctionHit hcl I.ok.glob hgs hcode C hPo ht hca hB fun ctv h' tk hk hsz=>?_
  have kp:∀b o,s.heap.get? b=some o->(h'.push ({cls:=.type "function",data:=.func (kla_fn "<lambda>" (lamQ qual) params body scope cl ((X.mg "__name__").getD .none) (.ref c') ctv)}:Obj)).get? b=some o:=fun b o e=>Qj _ (hk b o e)
  refine h h'.objs.size c' H _ ⟨?_,fun B G env rl=>.refl rl,⟨_,_,Qh _ rfl⟩,hsz,I.hok.fresh hsz,hc',fun b o n e=>⟨kp b o e,n⟩⟩
  exact I.kept kp
 |none=>
  refine kla_makeFunction hcl I.ok.glob hgs hcode C hPo ht hca hgP hB fun c' ctv h' tk hx hge hlt hrec htb=>?_
  have hfsz:s.heap.objs.size≤h'.objs.size:=Ye (Xq hge hlt)
  have hPc:P≠c':=Qi (Ql (Qu hPo) hge)
  have hnc:H c'=none:=I.hok.fresh hge
  have hcf:c'≠h'.objs.size:=Qi hlt
  have hPf:P≠h'.objs.size:=Qi (Ql (Qu hPo) hfsz)
  have get1:∀{b},(upd (upd H P (.tbl (ps++ #[rawInt pos.line,rawInt pos.col,.ref c']))) c' (LamC X.K P c')) b=if b=c' then some (LamC X.K P c')else if b=P then some (.tbl (ps++ #[rawInt pos.line,rawInt pos.col,.ref c']))else H b:=fun{b}=>rfl
  have kp:∀b o,b≠P->s.heap.get? b=some o->(h'.push (kla_obj "<lambda>" (lamQ qual) params body scope cl ((X.mg "__name__").getD .none) c' ctv)).get? b=some o:=fun b o n e=>Qj _ (hx b o n e)
  have other:∀{b u},H b=some u->b≠P->(upd (upd H P (.tbl (ps++ #[rawInt pos.line,rawInt pos.col,.ref c']))) c' (LamC X.K P c')) b=some u:=fun{b u} e n=>by
   rw[q4_ (w1_ e hnc),q4_ n];exact e
  have free1:∀{b o},H b=none->s.heap.get? b=some o->(upd (upd H P (.tbl (ps++ #[rawInt pos.line,rawInt pos.col,.ref c']))) c' (LamC X.K P c')) b=none:=fun{b o} n e=>by
   rw[q4_ (Qi (Ql (Qu e) hge)),q4_ (fun z=>by rw[z,hP]at n;cases n)];exact n
  have tab1:TabsOk X.K (upd (upd H P (.tbl (ps++ #[rawInt pos.line,rawInt pos.col,.ref c']))) c' (LamC X.K P c')):=by
   intro P2 ps2 e2;rw[get1]at e2;split at e2
   ·cases e2
   ·split at e2
    ·rename_i z
     subst z;cases e2;refine⟨by rw[Vi];exact b7l _ ht,fun p v e=>?_⟩
     rw[Vi]at e
     rcases b7m _ ht e with q|q
     ·obtain⟨a,q1,q2⟩:=hent p v q
      exact⟨a,q1,other q2 (fun z=>by rw[z,hP]at q2;cases q2)⟩
     ·exact⟨c',q,y3_⟩
    ·obtain⟨q1,q2⟩:=tabs P2 ps2 e2
     refine⟨q1,fun p v e=>?_⟩
     obtain⟨a,q3,q4⟩:=q2 p v e;exact⟨a,q3,other q4 (fun z=>by rw[z,hP]at q4;cases q4)⟩
  have live1:∀b,H b≠none->(upd (upd H P (.tbl (ps++ #[rawInt pos.line,rawInt pos.col,.ref c']))) c' (LamC X.K P c')) b≠none:=fun b e=>by
   rw[get1];split
   ·simp
   ·split
    ·simp
    ·exact e
  refine h h'.objs.size c' _ _ ⟨?_,fun B G env rl=>?_,⟨_,_,Qh _ rfl⟩,hfsz,?_,y3_,fun b o n e=>⟨kp b o (fun z=>by rw[z,hP]at n;cases n) e,free1 n e⟩⟩
  ·refine I.un (h':=h'.push (kla_obj "<lambda>" (lamQ qual) params body scope cl ((X.mg "__name__").getD .none) c' ctv)) (t':=tk) ⟨fun b o e n _ _=>?_,fun b o e n _ _=>⟨o.slots,?_⟩,fun b o e n _=>free1 n e,fun b o e _=>?_,fun b xs e=>?_,fun b o u e=>?_,fun b ps2 e=>?_⟩ fun b u e=>?_
   ·exact kp b o (fun z=>by rw[z,hP]at n;cases n) e
   ·exact kp b o (fun z=>by rw[z,hP]at n;cases n) e
   ·by_cases z:b=P
    ·subst z;exact⟨_,Qj _ htb⟩
    ·exact⟨o,kp b o z e⟩
   ·exact other e (fun z=>by rw[z,hP]at e;cases e)
   ·exact other e (fun z=>by rw[z,hP]at e;cases e)
   ·by_cases z:b=P
    ·subst z
     rw[hP]at e;cases e;exact⟨#[rawInt pos.line,rawInt pos.col,.ref c'],by rw[q4_ hPc,y3_]⟩
    ·exact⟨#[],by rw[other e z];simp⟩
   ·rw[get1]at e
    split at e
    ·rename_i z
     subst z;cases e;have hrec2:=hrec.push (kla_obj "<lambda>" (lamQ qual) params body scope cl ((X.mg "__name__").getD .none) b ctv);obtain⟨c2,oc,vs,t,e2,hoc,hd,hv⟩:=id hrec2;cases e2;refine⟨fun q hq2=>?_,⟨oc,hoc⟩,fun h1 h2 p k q hq2=>?_⟩
     ·rw[b7j hc hq hq2];exact hrec2
     ·obtain⟨c3,oc3,vs3,t3,e3,g1,g2⟩:=p q hq2
      cases e3;exact⟨_,oc3,vs3,t3,rfl,k oc3 g1,g2⟩
    ·split at e
     ·rename_i z
      subst z;cases e;exact Qj _ htb
     ·rename_i z1 z2
      refine(I.hok b u e).stay (fun b2 o2 hb q=>kp b2 o2 (fun z=>?_) q) (fun b2 q=>other q (fun z=>by rw[z,hP]at q;cases q)) fun b2 xs q=>other q (fun z=>by rw[z,hP]at q;cases q)
      rcases hb with hb|hb
      ·exact z2 (hb.symm.trans z)
      ·rw[z,hP]at hb;cases hb
  ·refine⟨⟨fun b o e=>?_,rl.len,rl.dat,fun i wv ds e1 e2=>?_,rl.inj,rl.fresh,fun b hb=>live1 b (rl.old b hb),tab1,rl.gnt⟩,Le.refl,fun b o _ nt e=>?_,live1,fun b e _ g=>g,fun a z=>.inl z,fun i w e hp=>⟨rfl,w,e,hp⟩,rfl⟩
   ·exact other (rl.sub b o e) (fun z=>by have q:=rl.sub b o e;rw[z,hP]at q;cases q;exact rl.gnt b _ e _ rfl)
   ·obtain⟨a,xs,q1,q2,q3,q4⟩:=rl.own i wv ds e1 e2
    exact⟨a,xs,q1,other q2 (fun z=>by rw[z,hP]at q2;cases q2;exact q3.nt _ rfl),q3,q4⟩
   ·exact other e (fun z=>by rw[z,hP]at e;cases e;exact nt _ rfl)
  ·rw[q4_ (Zh hcf),q4_ (Zh hPf)];exact I.hok.fresh hfsz
end
theorem b7o{CX:CXT}{P:Program}{w:World}{K:Frag}{mg:OU}{base:Heap}{k:Nat}{f:Addr}{name qual:Str}{params:Arguments}{body:List Stmt}{scope:Scope}{dV kV doc pm cdv ct oc:Value}{an od:Option Addr}
  {osl:Array (Option Value)}{N ps:List Str}(lk:K.lookup f=some ⟨oc,od,.func (fnOf name qual params body scope dV kV doc pm an cdv ct),osl⟩)(hcd:codeIn K cdv qual=true)(S:FnScope N ps scope)
  {A:Around}{outer:List Env}{s:Shared}{H:Hp}{args:Args}{us:List Value}{vs:List V}{Q:VK}{E:XK}(hr:Room (k+1) A)(e0:Env0 P w K mg base A outer s H)(hb:BindsTo s (fnOf name qual params body scope dV kV doc pm an cdv ct) args (ps.zip us))(r:q3_ vs us)(hl:vs.length=ps.length)
  (hbody:Room k (A.deeper (envOfC qual scope s.heap.objs.size f cdv))->∃t,PSs (w4_ CX P w K mg base N qual scope f cdv A outer s H E) body t/\t {nx:=fun _ H'=>Q .non H',rt:=Q} (start N vs) H):
  codeAny (model P w) A (.call (.ref f) args) (CR CX outer P w H s Q E) s:=by
 have KX:K.In s.heap:=e0.mod.kin.keeps fun b o e=>(e0.bs b o e).1
 have lim:s.heap.NoLimit:=e0.mod.nolimit.keeps fun b o e=>(e0.bs b o e).1
 have hkind:∀y∈ps.zip us,scope.names.lookup y.1=some .local∨(scope.names.lookup y.1=some .cell/\((cellsFrom (s.heap.objs.size+1) scope.names []).lookup y.1).isSome=true):=fun⟨n,v⟩ hy=>by
  rcases S.par n (Vn hy).1 with q|q
  ·exact .inl q
  ·exact .inr ⟨q,cellsFrom_some _ _ _ (.inl q)⟩
 refine codeAny_call_function hr.depth (KX _ _ lk) rfl S.co S.gen rfl (codeRec_of KX hcd) (hb _ _ _ _ ?_);refine wpAny_newFunctionEnv_cells S.kind hkind fun env he s1 x=>?_
 subst he;refine⟨lim.keeps x.toInCall.keep,codeAny_func ?_⟩;obtain⟨t,ht,hq⟩:=hbody (hr.deeper _);have I:Inv (w4_ CX P w K mg base N qual scope f cdv A outer s H E) [] (start N vs) H s1:=a9m S hr.hd e0 hl r x;refine Zp (ht [] s1 (start N vs) H _ I hq) (fun fl s' hs=>?_) fun e s' hs=>hs
 have fin:∀{σ':St}{H':Hp}{v:V}{u:Value},Inv (w4_ CX P w K mg base N qual scope f cdv A outer s H E) [] σ' H' s'->q9_ v u->Q v H'->CE outer P w H s Q u s':=
  fun{σ' H' v u} J rv q=>⟨v,H',J.os,J.bare,J.base,J.hok,rv,q⟩
 cases fl with
 |ret u=>
  obtain⟨v,σ',H',J,rv,q⟩:=hs;exact fin J rv q
 |next=>
  obtain⟨σ',H',J,q⟩:=hs;exact fin (v:=V.non) (u:=Value.none) J rfl q
 |brk=>
  obtain⟨_,_,_,q⟩:=hs;exact False.elim q
 |cont=>
  obtain⟨_,_,_,q⟩:=hs;exact False.elim q
structure RefDef(P:Program)(w:World)(K:Frag)(mg:OU)(base:Heap)(x:Str)(k kc:Nat)(fr:Option Str->Option D):Prop where
 ex:∃f:Addr,mg x=some (.ref f)/\keepIn K (.ref f)=true/\∀(A:Around) (outer:List Env) (s:Shared) (H:Hp) (fl:Addr) (o:Option Str) (G:Hp) (Q:VK),Room k A->Env0 P w K mg base A outer s H->a7t P w K mg base kc fl s H outer o G->Rel K g6_ G [] [] H->
  (∃d,fr o=some d/\∀v G' H',Ev K g6_ G [] [] H G' [] [] H'->Rep K G' v d->Q v H')->codeAny (model P w) A (.call (.ref f) ⟨[.ref fl],[]⟩) (CR CX0 outer P w H s Q E0) s
def a7u(N:Nat)(mb:Option Str->Mo Fl)(o:Option Str):Option D:=match mb o (List.replicate N .nil)with
 |some (.ret d,_)=>some d
 |some (.nx,_)=>some .non
 |_=>none
theorem b7p{K:Frag}{B B':OA}{G H:Hp}{σ σ':St}{env:Env'}(rl:Rel K B G σ env H)(old:∀b,B' b->H b≠none):Rel K B' G σ' (List.replicate σ'.length .nil) H:=by
 have nn:∀{i:Nat}{w:W},(List.replicate σ'.length W.nil)[i]? =some w->w=.nil:=fun{i w} e=>by
  rw[Jx]at e;split at e
  ·cases e;rfl
  ·cases e
 exact⟨rl.sub,by simp,(fun i d e=>by cases nn e),(fun i w ds e1 e2=>by rw[nn e1]at e2;cases e2),(fun i j w w' ds es a e1 e2=>by rw[nn e1]at e2;cases e2),(fun i w a e eo=>by rw[nn e]at eo;cases eo),old,rl.tabs,rl.gnt⟩
theorem b7q{σ:St}{n:Nat}{a:Addr}:¬ Owned σ (List.replicate n .nil) a:=fun⟨i,w,ds,e1,e2,_⟩=>by
 rw[Jx]at e1;split at e1
 ·cases e1;cases e2
 ·cases e1
theorem b7r{N:List Str}{v:V}(h:1≤N.length):(start N [v]).length=N.length:=by
 unfold start;simp only[Qs,Qk,Zr,Zq,Jp]
 omega
theorem b7s{P:Program}{w:World}{K:Frag}{mg:OU}{base:Heap}{x qual p1:Str}{st:Stmt}{f:Addr}{fd:FuncData}{N:List Str}{k kc:Nat}{mb:Option Str->Mo Fl}(F:Fun K x qual st f fd)(S:FnScope N [p1] (v7_ st))(hm:mg x=some (.ref f))(hbi:a0w K fd [p1] [])(hkc:kc≤k)
  (hb:∀(cdv:Value) (A:Around) (outer:List Env) (s:Shared) (H:Hp) (E:XK) (fl:Addr) (o:Option Str) (G:Hp),Room k (A.deeper (envOfC qual (v7_ st) s.heap.objs.size f cdv))->
   (∀pins σ H' s',Inv (w4_ CX0 P w K mg base N qual (v7_ st) f cdv A outer s H E).nox pins σ H' s'->a3E fl s'.heap)->a7q (w4_ CX0 P w K mg base N qual (v7_ st) f cdv A outer s H E).nox (fun b=>H b≠none) fl o G->
   PSs (w4_ CX0 P w K mg base N qual (v7_ st) f cdv A outer s H E).nox (a0F st) (fun D σ H'=>σ[0]? =some (some (.ref fl))/\H'=H/\∃env fw env',Rel K (fun b=>H b≠none) G σ env H'/\mb o env=some (fw,env')/\Post K (fun b=>H b≠none) G σ env H' env' D fw)):
  RefDef P w K mg base x (k+1) kc (a7u N.length mb):=by
 have hN:1≤N.length:=by have:=Jr List.length S.pre;rw[Yw]at this;simp only[Zq,Jp]at this;omega
 refine⟨f,hm,F.kp,fun A outer s H fl o G Q hr e0 clo rl hfr=>?_⟩
 obtain⟨oc,od,kV,doc,pm,an,cdv,ct,osl,rfl,lk,hcd⟩:=F.ex;obtain⟨d,hd,hQ⟩:=hfr;have KX:K.In s.heap:=e0.mod.kin.keeps fun b o e=>(e0.bs b o e).1
 refine b7o (us:=[.ref fl]) (vs:=[.ref fl]) lk hcd S hr e0 ?_ (.cons rfl .nil) rfl fun hr'=>?_
 ·have:=hbi s [.ref fl] KX rfl
  simpa using this
 ·have un0:∀{pins:OX}{σ:St}{H':Hp}{s':Shared},Inv (w4_ CX0 P w K mg base N qual (v7_ st) f cdv A outer s H E0).nox pins σ H' s'->Un (frs outer) [] H H' s.heap s'.heap:=fun I=>I.base
  have q:=hb cdv A outer s H E0 fl o G hr' (fun pins σ H' s' I=>clo.1 H' s' (un0 I)) (fun pins s' σ env Q' E' I rl' hN' hX'=>?_)
  ·refine⟨_,q.nox,?_⟩
   have rl0:Rel K (fun b=>H b≠none) G (start N [.ref fl]) (List.replicate N.length .nil) H:=by
    have:=b7p (B':=fun b=>H b≠none) (σ':=start N [.ref fl]) rl (fun b h=>h)
    rwa [b7r hN]at this
   have side:∀{G' H':Hp}{σ':St}{env':Env'},Ev K (fun b=>H b≠none) G (start N [.ref fl]) (List.replicate N.length .nil) H G' σ' env' H'->Ev K g6_ G [] [] H G' [] [] H':=fun ev=>a4w ev (fun a=>b7q) rl
   unfold a7u at hd;split at hd
   ·rename_i d' env' em
    cases hd;exact⟨by rw[a1l (by simp)];rfl,rfl,_,_,env',rl0,em,fun v σ' G' H' ev rp=>hQ v G' H' (side ev) rp⟩
   ·rename_i env' em
    cases hd;exact⟨by rw[a1l (by simp)];rfl,rfl,_,_,env',rl0,em,fun σ' G' H' ev=>hQ .non G' H' (side ev) (by simp only[Rep])⟩
   ·cases hd
  ·exact clo.2 _ _ s' Q' E' (hr'.mono hkc) I.env0 (un0 I) (fun z v G' H' ev=>hN' z v G' H' (a4w ev (fun a=>a7s) rl')) fun n C z hC G' H' ev=>hX' n C z hC G' H' (a4w ev (fun a=>a7s) rl')
def b7t(k:Bool)(w:W):W:=if k then(match w with|.dat d=>.dat d|_=>.nil)else .nil
def a2i(keep:List Bool)(env:Env'):Env':=List.zipWith b7t keep env
theorem a7v{keep:List Bool}{env:Env'}{i:Nat}{w:W}(h:(a2i keep env)[i]? =some w)(hw:w≠.nil):∃d,w=.dat d/\keep[i]? =some true/\env[i]? =some (.dat d):=by
 unfold a2i at h;rw[Yi]at h;cases e1:keep[i]? with
 |none=>rw[e1]at h;cases h
 |some k=>
  cases e2:env[i]? with
  |none=>rw[e1,e2]at h;cases h
  |some w0=>
   rw[e1,e2]at h;cases k with
   |false=>cases h;exact absurd rfl hw
   |true=>
    cases w0 with
    |dat d=>cases h;exact⟨d,rfl,rfl,rfl⟩
    |nil=>cases h;exact absurd rfl hw
    |own _=>cases h;exact absurd rfl hw
    |par _=>cases h;exact absurd rfl hw
    |ownD _ _=>cases h;exact absurd rfl hw
    |parD _ _=>cases h;exact absurd rfl hw
theorem b7u{K:Frag}{B:OA}{G H:Hp}{σ:St}{env:Env'}{keep:List Bool}(rl:Rel K B G σ env H)(hk:keep.length=σ.length):Rel K (fun b=>H b≠none) G (k7_ keep 0 σ) (a2i keep env) H:=by
 have nm:∀(w:W) (es:Mu),w.mut=some es->w≠.nil:=fun w es h z=>by rw[z]at h;cases h
 have no:∀(i:Nat) (w:W) (ds:Mu),(a2i keep env)[i]? =some w->w.mut=some ds->False:=fun i w ds e1 e2=>by
  obtain⟨d,z,_⟩:=a7v e1 (nm w ds e2);rw[z]at e2;cases e2
 refine⟨rl.sub,?_,fun i d e=>?_,fun i w ds e1 e2=>(no i w ds e1 e2).elim,fun i j w w' ds es a e1 e2=>(no i w ds e1 e2).elim,fun i w a e eo=>(let ⟨m,q⟩:=own_mut eo;no i _ m e q).elim,fun b h=>h,rl.tabs,rl.gnt⟩
 ·unfold a2i k7_
  rw[Qs,Yu,Yu,Zr,rl.len];rfl
 ·obtain⟨d',z,k1,k2⟩:=a7v e (by simp)
  cases z;obtain⟨v,e1,e2⟩:=rl.dat i d k2;exact⟨v,a4o k1 e1,e2⟩
theorem b7v{σ:St}{keep:List Bool}{env:Env'}{a:Addr}:¬ Owned σ (a2i keep env) a:=fun⟨i,w,ds,e1,e2,_⟩=>by
 have:w≠.nil:=fun z=>by rw[z]at e2;cases e2
 obtain⟨d,z,_⟩:=a7v e1 this;rw[z]at e2;cases e2
def a2j(names:List Str)(keep:List Bool)(mb:Mo D)(xb:Mx)(fr:Option Str->Option D):Mo D:=fun env=>(outcome names mb xb (a2i keep env)).bind fun o=>(fr o).map fun d=>(d,env)
structure TabF(K:Frag)(mg:OU)(base:Heap)(cd:Value)(qual:Str)(P:Addr):Prop where
 ex:∃c,cd=.ref c/\codeHdIn K c P=true/\codeIn K (.ref c) qual=true
 tq:tabQ K P qual=true
 bm:a1G mg base
section
variable{X:Cx}{B:OA}{x S qual:Str}{names:List Str}{k kc:Nat}{fr:Option Str->Option D}{P:Addr}{N':List Str}{scope:Scope}{keep:List Bool}{params:Arguments}{body:Expr}{mb:Mo D}{xb:Mx}{p lpos pos:Pos}{ps0:Array Value}
theorem b0Z(Rd:RefDef X.prog X.w X.K X.mg X.base x k (kc+1) fr)(hr:Room k X.A)(hg:Gl X x)(T:TabF X.K X.mg X.base X.env.code qual P)(hq:X.env.qual=qual++".<locals>.")(hP:X.H₀ P=some (.tbl ps0))(hfn:∀y,X.fn y=true)(hx:a1p X.K S names=true)
  (ok:CompOk X N' scope keep 0)(hco:scope.isCoroutine=false)(hgen:scope.isGenerator=false)(hnc:∀x∈scope.names,x.2≠.cell)(hdef:defaultsOf params X.env=([],[]))
  (hbind:∀cl pm c' ctv,bindArgs (kla_fn "<lambda>" (lamQ qual) params body scope cl pm (.ref c') ctv) ⟨[],[]⟩=pure [])
  (hb:∀(fl c':Addr) (cl:List (Str×Addr)) (H₁:Hp) (A:Around) (outer:List Env) (s:Shared) (E:XK),Room kc (A.deeper (envX (lamQ qual) scope s.heap.objs.size fl (.ref c') cl))->ED (a2h X.prog X.w X.K X.mg X.base N' (lamQ qual) scope fl (.ref c') cl A outer s H₁ E).nox (fun b=>H₁ b≠none) body mb)
  (hxb:∀(fl c':Addr) (cl:List (Str×Addr)) (H₁:Hp) (A:Around) (outer:List Env) (s:Shared) (E:XK),Room kc (A.deeper (envX (lamQ qual) scope s.heap.objs.size fl (.ref c') cl))->EDx (a2h X.prog X.w X.K X.mg X.base N' (lamQ qual) scope fl (.ref c') cl A outer s H₁ E) (fun b=>H₁ b≠none) E body xb)
  (hdb:(x==("__debug__":Str))=false:=by decide)(he:starEach [.Lambda params body scope lpos] X.env=(false,eval (.Lambda params body scope lpos) X.env)::starEach [] X.env:=by rfl)(hpl:(backTo pos (starEach [] X.env)).any (·.1)=false:=by rfl):
  ED X B (.Call (.Name x p) [.Lambda params body scope lpos] [] pos) (a2j names keep mb xb fr):=by
 intro pins s σ H Q I ⟨G,env,d,env',rl,em,k⟩;obtain⟨o,eo,e2⟩:=q1_ em;obtain⟨d',ed,e3⟩:=v8_ e2;cases e3;obtain⟨f,hm,hkp,hrun⟩:=Rd.ex;obtain⟨more,hPs⟩:=I.base.tbls P ps0 hP;obtain⟨c,hcd,hc1,hc2⟩:=T.ex;refine Jo (a3Y I hg hm ?_ hdb);refine callWith_K (h₀:=X.base) I.ok.mod.kin hkp ?_ he hpl;rw[he];show wpAny _ _ (spliced ((false,eval (.Lambda params body scope lpos) X.env)::backTo pos (starEach [] X.env))) _ _ s;refine Calls.spliced_cons (b7n I hcd hc1 hc2 T.tq hq T.bm hPs rl.tabs ok.clos hdef fun fl c' H1 s1 Md=>?_)
 refine Calls.spliced_nil ⟨Md.inv.kIn,?_⟩;have ev1:=Md.ev B G env rl;have kl:keep.length=σ.length:=by rw[ok.klen,I.len]
 have stk:∀{b},b∈frs X.stack->b<s.heap.objs.size:=fun{b} hb=>by obtain⟨_,o,g,_⟩:=I.stack.mem hb;exact Qu g
 have L:LamAt X.K params body scope N' (lamQ qual) fl c' (j4_ X.env.cells scope.names []) (k7_ keep 0 σ) s1 H1 X.stack:=by
  have sub:∀{y c},(j4_ X.env.cells scope.names []).lookup y=some c->X.env.cells.lookup y=some c:=fun{y c} z=>(a1Z z).elim (fun q=>by cases q) id
  refine⟨Md.obj,Md.free,fun z=>absurd (stk z) (Nat.not_lt.mpr Md.new),⟨_,Md.code,fun h p=>p qual T.tq⟩,fun y z c q1 q2=>I.ok.inj y z c (sub q1) (sub q2),fun y z=>Yz.mp (a2I (Zj z) (ok.free _ (Zj z) rfl)),fun y c q=>?_,fun i y v q1 q2 q3=>?_,?_⟩
  ·obtain⟨v,oc,g1,g2⟩:=I.cell y c (sub q)
   have g:=Md.keep c oc (I.freeC y c (sub q)) g1
   refine⟨⟨v,oc,g.1,g2⟩,g.2,fun z=>?_⟩
   rcases Qm.mp (I.stkSub c z)with z|z
   ·exact I.cne y c (sub q) z
   ·obtain⟨_,o2,g3,_⟩:=I.ok.funs.mem z
    exact absurd (Qu g3) (Nat.not_lt.mpr (I.ok.cab y c (hfn y) (sub q)))
  ·obtain⟨k1,k2⟩:=a2J q2
   obtain⟨h1,h2,h3⟩:=ok.kept i y k1 q1;have hfree:scope.names.lookup y=some .free:=by
    rcases q3 with z|z|z
    ·exact absurd z h2
    ·exact absurd z h3
    ·exact z
   obtain⟨m,hn,hl⟩:=I.loc;have ov:=ok.outVis i y k1 h1 hfree;obtain⟨u,r,l⟩:=hl i y v h1 k2 (.inr ov);obtain⟨c0,hc0⟩:=Yz.mp (a2I (acc:=[]) (Zj hfree) (ok.free _ (Zj hfree) rfl));refine⟨hfree,c0,u,hc0,r,?_⟩
   rcases l with⟨kl,_⟩|⟨_,c1,hc1,oc,g1,g2⟩
   ·have kl':X.env.scope.names.lookup y=some .local:=kl
    rcases ov with z|z<;>(rw[z]at kl';cases kl')
   ·have hc0':=sub hc0
    rw[hc1]at hc0';cases hc0';exact⟨oc,(Md.keep c0 oc (I.freeC y c0 (sub hc0)) g1).1,g2⟩
  ·unfold k7_
   rw[Qs,Yu,Zr,ok.len,ok.klen,I.len];omega
 have clo:a7t X.prog X.w X.K X.mg X.base (kc+1) fl s1 H1 X.stack o G:=
  b7i L ok.kind hco hgen hnc (fun pm ctv=>hbind _ pm c' ctv) (b7u ev1.rel kl) (fun a=>b7v) hx eo (fun A outer s E hr=>(hb fl c' _ H1 A outer s E hr).nox) (fun A outer s E hr=>hxb fl c' _ H1 A outer s E hr)
 refine wpAny_call (Vh (hrun X.A X.stack s1 H1 fl o G Q hr Md.inv.env0 clo (b0W ev1.rel) ⟨_,ed,fun v G' H' ev rp=>k v G' H' (ev1.trans (a4w ev (fun a=>a7s) ev1.rel)) rp⟩) fun r s' hq=>?_)
 cases r with
 |error e=>exact False.elim hq
 |ok fw=>
  cases fw with
  |ret u=>exact Md.inv.after hq
  |next=>exact False.elim hq
  |brk=>exact False.elim hq
  |cont=>exact False.elim hq
end
def b1a(ts:List Addr)(H:Hp):Prop:=∀P∈ts,∃ps,H P=some (.tbl ps)
def SpT(K:Frag)(ts:List Addr)(n:Nat)(f:Fn):Sp:=fun vs H Q E=>b1a ts H/\SpF K n f vs H Q E
theorem b7w{P:Program}{w:World}{K:Frag}{mg:OU}{base:Heap}{x qual:Str}{st:Stmt}{f:Addr}{fd:FuncData}{N ps:List Str}{k:Nat}{mb:Mo Fl}{ts:List Addr}{cdv0:Value}(F:Fun K x qual st f fd)(hcd0:fd.code=cdv0)(S:FnScope N ps (v7_ st))
  (hb:∀(A:Around) (outer:List Env) (s:Shared) (H:Hp) (E:XK),b1a ts H->Room k (A.deeper (envOfC qual (v7_ st) s.heap.objs.size f cdv0))->
   ESs (w4_ CX0 P w K mg base N qual (v7_ st) f cdv0 A outer s H E).nox (fun b=>H b≠none) (a0F st) mb):FnOk P w K mg base CX0 (k+1) f fd ps (SpT K ts ps.length (fnM N.length mb)):=by
 have hpl:ps.length≤N.length:=by have:=Jr List.length S.pre;rw[Yw]at this;omega
 obtain⟨oc,od,kV,doc,pm,an,cdv,ct,osl,rfl,lk,hcd⟩:=F.ex;obtain rfl:cdv=cdv0:=hcd0;refine a6s lk hcd S (fun vs H Q E h=>?_) (fun A outer s H vs Q E hr h=>?_)
 ·obtain⟨_,G,ws,r,ws',hl,ok,rl,_⟩:=h
  have:=rl.len;rw[Qk]at this;omega
 ·obtain⟨tb,G,ws,r,ws',hl,ok,rl,e,k⟩:=h
  have hv:ws.length=vs.length:=by have:=rl.len;rwa [Qk]at this
  refine⟨_,(hb A outer s H E tb hr).nox,?_⟩;have rl':=a6L (N:=N) rl ok (by omega)
  unfold fnM at e;split at e
  ·rename_i d env em
   cases e;refine⟨G,_,_,env,rl',em,?_⟩;exact fun v σ' G' H' ev rp=>k v G' H' (a2G rl ok (by omega) ev) rp
  ·rename_i ds env em
   cases e;refine⟨G,_,_,env,rl',em,?_⟩;intro a xs σ' G' H' ev nb no h' g' rp;refine k a xs G' H' (a2G rl ok (by omega) ev) (Jc nb) ?_ h' g' rp
   rintro⟨i,w',es,e1,e2,e3⟩;obtain⟨w1,w2,q1,q2,q3⟩:=a5l e1;subst q3;obtain⟨q4,q5,q6,q7⟩:=a6M (ok _ (Jn q1)) e2;have hi:i<vs.length:=by have:=(Qb.mp q1).1;omega
   exact no ⟨i,_,es,q2,q4,by rw[(ev.par i w2 q2 q5).1,a1l hi];exact e3⟩
  ·rename_i env em
   cases e;refine⟨G,_,_,env,rl',em,?_⟩;exact fun σ' G' H' ev=>k .non G' H' (a2G rl ok (by omega) ev) (by simp only[Rep])
  ·cases e
theorem b7x{P:Program}{w:World}{K:Frag}{mg mb:OU}{k:Nat}{fa a:Addr}{fd:FuncData}{x:Str}{fn:Fn}{ts:List Addr}{s₁:Shared}{vs:List Value}{ns:List Int}
  (KX:K.In s₁.heap)(hnt:noTabs K=true)(hts:∀p∈ts,s₁.heap.get? p=some (tabObj #[]))(hcs:∀p∈ts,∃c,codeHdIn K c p=true)(hns:s₁.heap.Ns mainGlobals mg)(hb:s₁.heap.Ns builtinsNs mb)(hbb:∀x:Str,x≠"__name__"->mb x=bootBuiltins x)(hlim:s₁.heap.NoLimit)(hbm:a1G mg s₁.heap)(hg:s₁.gens= #[])
  (ha:s₁.heap.get? a=some {cls:=.type "list",data:=.seq vs.toArray})(hi:IntsAre vs ns)(hl:ns.length≤sizeLine)(hr:Room k callerA)
  (F:∀base:Heap,K.In base->base.Ns mainGlobals mg->a1G mg base->FnOk P w K mg base CX0 k fa fd [x] (SpT K ts 1 fn))(hbind:∀(s:Shared) (u:Value),BindsTo s fd ⟨[u],[]⟩ [(x,u)])
  (ht:∃ws',fn [.dat (.lst (ns.map D.int))]=some (.d (.bl true),ws')):
  codeAny (model P w) callerA (.call (.ref fa) ⟨[.ref a],[]⟩) (fun r s'=>r=.ok (.ret (.bool true))/\OldK s₁.heap s'.heap/\s'.os=s₁.os/\AllBare s'.gens) s₁:=by
 have rv:=a9y hi
 have lenV:=hi.length
 have nat:a∉ts:=fun z=>by have:=hts a z;rw[ha]at this;cases this
 have kno:∀{b:Addr}{o:Obj},K.lookup b=some o->b∉ts:=fun{b o} e z=>by
  have h2:=Qv.mp hnt (b,o) (mem_of_lookupK e)
  have h3:=KX b o e
  rw[hts b z]at h3;cases h3;cases h2
 have core:∀(H:Hp),(∀b,H b=none∨(b=a/\∃o xs,H b=some (.frz o (.lst xs)))∨(b∈ts/\H b=some (.tbl #[])))->(∀b∈ts,H b=some (.tbl #[]))->SqL K H a (ns.map V.int)->HOk P w H s₁.heap->(H a≠none->K.lookup a=none)->
   codeAny (model P w) callerA (.call (.ref fa) ⟨[.ref a],[]⟩) (fun r s'=>r=.ok (.ret (.bool true))/\OldK s₁.heap s'.heap/\s'.os=s₁.os/\AllBare s'.gens) s₁:=by
  intro H hO hT hS hok hK;have base_of:∀{b:Addr}{o:Obj},s₁.heap.get? b=some o->H b=none->(a1d s₁.heap H).get? b=some o:=fun e n=>b3c e n
  have noA:∀{b:Addr}{o:Obj},s₁.heap.get? b=some o->o.cls≠.type "list"->o.cls≠.none->H b=none:=fun{b o} e d1 d2=>by
   rcases hO b with q|⟨q,_⟩|⟨q,_⟩
   ·exact q
   ·subst q;rw[ha]at e;cases e;exact absurd rfl d1
   ·rw[hts b q]at e;cases e;exact absurd rfl d2
  have noD:∀{b:Addr}{o:Obj}{es:Array DictEntry}{ep:Nat},s₁.heap.get? b=some o->o.data=.dict es ep->H b=none:=fun{b o es ep} e d=>by
   rcases hO b with q|⟨q,_⟩|⟨q,_⟩
   ·exact q
   ·subst q;rw[ha]at e;cases e;cases d
   ·rw[hts b q]at e;cases e;cases d
  have nsK:∀{b:Addr}{m:OU},s₁.heap.Ns b m->(a1d s₁.heap H).Ns b m:=fun{b m} ⟨o,es,ep,e,d,r⟩=>⟨o,es,ep,base_of e (noD e d),d,r⟩
  have hKb:K.In (a1d s₁.heap H):=fun b o e=>base_of (KX b o e) (by
   rcases hO b with q|⟨q,o',xs,z⟩|⟨q,_⟩
   ·exact q
   ·subst q;rw[hK (by rw[z];simp)]at e;cases e
   ·exact absurd q (kno e))
  have hM:Mod K mg (a1d s₁.heap H):=⟨hKb,nsK hns,⟨mb,nsK hb,hbb⟩,let ⟨mc,h1,h2⟩:=hlim;⟨mc,nsK h1,h2⟩⟩
  have hBm:a1G mg (a1d s₁.heap H):=by
   obtain⟨bm,o,b1,b2,b3,b4,b5,b6,b7⟩:=hbm;exact⟨bm,o,b1,b2,b3,base_of b4 (noA b4 (by rw[b5];simp) (by rw[b5];simp)),b5,b6,b7⟩
  have e0:Env0 P w K mg (a1d s₁.heap H) callerA [] s₁ H:=⟨rfl,hM,fun b o e=>b3d e,Xy (b3b _ _),trivial,fun b hb=>absurd (show b∈([]:List Addr)from hb) (by simp),hok,.of_eq hg⟩
  have sp:SpT K ts 1 fn [.ref a] H (fun v _=>v=.bl true) (fun _ _ _=>False):=by
   obtain⟨ws',e⟩:=ht;refine⟨fun p hp=>⟨#[],hT p hp⟩,fun b=>if b∈ts then none else H b,[.dat (.lst (ns.map D.int))],.d (.bl true),ws',rfl,fun v hv=>.inl ?_,⟨fun b o z=>?_,rfl,fun i d z=>?_,fun i v ds e1 e2=>?_,fun i j v v' ds es a e1 e2=>?_,fun i w a e1 e2=>?_,fun b h=>h.elim,fun p ps z=>?_,fun b o z ps y=>?_⟩,e,?_⟩
   ·simp at hv;exact⟨_,hv⟩
   ·split at z
    ·cases z
    ·exact z
   ·cases i with
    |zero=>
     simp at z
     subst z;refine⟨.ref a,rfl,?_⟩;simp only[Rep];refine⟨a,_,rfl,?_,a7i ns⟩
     rcases hS with(q|⟨o,q⟩)|q
     ·exact .inl (.inl ((Qr nat).trans q))
     ·exact .inl (.inr ⟨o,(Qr nat).trans q⟩)
     ·exact .inr q
    |succ i=>simp at z
   ·cases i with
    |zero=>simp at e1;subst e1;cases e2
    |succ i=>simp at e1
   ·cases i with
    |zero=>simp at e1;subst e1;cases e2
    |succ i=>simp at e1
   ·cases i with
    |zero=>simp at e1;subst e1;cases e2
    |succ i=>simp at e1
   ·rcases hO p with q|⟨_,o,xs,q⟩|⟨_,q⟩
    ·rw[q]at z;cases z
    ·rw[q]at z;cases z
    ·rw[q]at z;cases z
     exact⟨trivial,fun pos v y=>by cases y⟩
   ·split at z
    ·cases z
    ·rename_i hb
     rcases hO b with q|⟨_,o',xs,q⟩|⟨q,_⟩
     ·rw[q]at z;cases z
     ·rw[q]at z;cases z;cases y
     ·exact hb q
   ·intro v G' H' _ rp
    simpa only[Rep]using rp
  refine Vh ((F _ hKb (nsK hns) hBm).run callerA [] s₁ H ⟨[.ref a],[]⟩ [.ref a] [.ref a] _ _ hr e0 (hbind s₁ (.ref a)) (.cons rfl .nil) sp) fun r s' h=>?_
  cases r with
  |error e=>exact False.elim h
  |ok fl=>
   cases fl with
   |next=>exact False.elim h
   |brk=>exact False.elim h
   |cont=>exact False.elim h
   |ret u=>
    obtain⟨v,H',os,bare,un,hok',r',q⟩:=h;have q':v=.bl true:=q;subst q';obtain rfl:u=Value.bool true:=r';refine⟨rfl,⟨fun b o e=>?_,fun b o e=>un.there b o e (by simp)⟩,os,bare⟩
    rcases hO b with q|⟨_,ob,xs,z⟩|⟨hb,z⟩
    ·exact .inl (un.keep b o e q (by intro z;exact absurd (show b∈([]:List Addr)from z) (by simp)) (by simp))
    ·have z2:=un.frzs b ob _ z
     obtain⟨e1,_⟩:=hok b _ z;obtain⟨e2,_⟩:=hok' b _ z2;rw[e]at e1;cases e1;exact .inl e2
    ·obtain⟨more,z2⟩:=un.tbls b #[] z
     have e2:s'.heap.get? b=some {cls:=.none,data:=.fields (#[]++more)}:=hok' b _ z2
     have e3:=hts b hb
     rw[e]at e3;cases e3;obtain⟨c,hc⟩:=hcs b hb;exact .inr (.inl ⟨((codeHd_of_K KX hc).tab (hts b hb)).isCodeTable,rfl,#[],more,rfl,e2⟩)
 cases hk:K.lookup a with
 |some o=>
  have e:=KX a o hk
  rw[ha]at e;cases e;refine core (fun b=>if b∈ts then some (.tbl #[])else none) (fun b=>?_) (fun b hb=>Qn hb) (.inr ⟨_,vs.toArray,_,hk,rfl,rfl,rfl,by rw[Qp,lenV];exact hl,by simpa using rv⟩) (fun b u z=>?_) fun z=>absurd (Qr nat) z
  ·by_cases hb:b∈ts
   ·exact .inr (.inr ⟨hb,Qn hb⟩)
   ·exact .inl (Qr hb)
  ·dsimp only at z
   split at z
   ·rename_i hb;cases z;exact hts b hb
   ·cases z
 |none=>
  refine core (fun b=>if b=a then some (.frz {cls:=.type "list",data:=.seq vs.toArray} (.lst (ns.map V.int)))else if b∈ts then some (.tbl #[])else none) (fun b=>?_) (fun b hb=>by
   have hne:b≠a:=fun z=>nat (by rw[←z];exact hb)
   show(if b=a then _ else if b∈ts then _ else _)=_
   rw[Qr hne,Qn hb]) (.inl (.inr ⟨{cls:=.type "list",data:=.seq vs.toArray},Qn rfl⟩)) (fun b u z=>?_) fun _=>hk
  ·by_cases hb:b=a
   ·exact .inr (.inl ⟨hb,_,_,Qn hb⟩)
   ·by_cases hb2:b∈ts
    ·exact .inr (.inr ⟨hb2,by rw[Qr hb,Qn hb2]⟩)
    ·exact .inl (by rw[Qr hb,Qr hb2])
  ·dsimp only at z
   split at z
   ·rename_i hb
    cases z;subst hb;exact⟨ha,by rw[Qk];exact hl,vs,_,rv,ha⟩
   ·split at z
    ·rename_i hb;cases z;exact hts b hb
    ·cases z
theorem b7y{l:OpenLaw}{k:Nat}{q:Program}{loose:List Str}{XP:(OU)->Heap->Prop}{YP:World->Heap->Prop}{d:DefRec}{K:Params->Frag}{x:Str}{fn:Fn}{ts:List Addr}
  (hn:l.most=some 63)(hdf:d.params.defaults=[])(hr:Room k callerA)(hY:∀(w:World) (h:Heap),YP w h->(K w.params).In h/\∀p∈ts,h.get? p=some (tabObj #[]))
  (F:∀(w:World) (mg:OU) (fa:Addr) (h:Heap),(K w.params).In h->h.Ns mainGlobals mg->mg d.name=some (.ref fa)->
   ∃fd:FuncData,(∀(s:Shared) (u:Value),BindsTo s fd ⟨[u],[]⟩ [(x,u)])/\noTabs (K w.params)=true/\(∀p∈ts,∃c,codeHdIn (K w.params) c p=true)/\∀base:Heap,(K w.params).In base->base.Ns mainGlobals mg->a1G mg base->FnOk l.prog w (K w.params) mg base CX0 k fa fd [x] (SpT (K w.params) ts 1 fn))
  (ht:∀ns:List Int,ns.length≤63->∃ws',fn [.dat (.lst (ns.map D.int))]=some (.d (.bl true),ws')):
  WalkO q loose XP YP l.row.toRowW d [] (fun f vs=>PySem.call f vs):=by
 refine Att.attach_call hn hdf fun w s₀ s₁ mg mb fa o pm cd doc a vs ns G Y ho hd hcd hmg hobj hints hlen hg=>?_
 obtain⟨KX,hT⟩:=hY w _ Y;obtain⟨fd,hb,hnt,hcs,hF⟩:=F w mg fa _ KX G.T.g hmg;have hbm:a1G mg s₁.heap:=by
  obtain⟨bm,ob,b1,b2,b3,b4,b5,b6⟩:=G.T.bmain;refine⟨bm,ob,b1,b2,fun z=>?_,b3,b4,b5,b6⟩
  obtain⟨o,es,ep,e,hd,_⟩:=G.T.g;rw[z,e]at b3;cases b3;rw[hd]at b6;cases b6
 exact b7x KX hnt hT hcs G.T.g G.T.b G.T.builtins G.T.nolimit hbm hg hobj hints (Qt hlen (by decide)) hr hF hb (ht ns hlen)
theorem b7z{K:Frag}{S n:Str}{names:List Str}(h:a1p K S names=true)(hn:n∈names):a2f K n=true:=let ⟨_,F⟩:=a3D h hn;F.one
def a5z(K:Frag)(cd:Value)(P:Addr):Bool:=match cd with
 |.ref c=>codeHdIn K c P
 |_=>false
theorem b1b{K:Frag}{cd:Value}{P:Addr}(h:a5z K cd P=true):∃c,cd=.ref c/\codeHdIn K c P=true:=by
 unfold a5z at h;split at h
 ·exact⟨_,rfl,h⟩
 ·cases h
theorem b7A{K:Frag}{mg:OU}{base:Heap}{cd:Value}{qual:Str}{P:Addr}(h1:a5z K cd P=true)(h2:codeIn K cd qual=true)(h3:tabQ K P qual=true)(hb:a1G mg base):TabF K mg base cd qual P:=by
 obtain⟨c,rfl,hc⟩:=b1b h1;exact⟨⟨c,rfl,hc,h2⟩,h3,hb⟩
end L2.Mir
namespace L2.Mir
open PySem PySem.Spec PyProof.Rows PySem.W
def bools?:List D->Option (List Bool)
 |[]=>some []
 |.bl i::r=>(bools? r).map fun l=>i::l
 |_::_=>none
theorem b1c{K:Qq}{G:Hp}:∀{ds:List D}{xs:List V}{ns:List Bool},z6_ K G xs ds->bools? ds=some ns->xs=ns.map V.bl
 |[],_,ns,r,e=>by simp only[z6_]at r;subst r;cases e;rfl
 |d::ds,_,ns,r,e=>by
  simp only[z6_]at r;obtain⟨x,t,rfl,q,r⟩:=r;cases d<;>first|(exact absurd (show(none:Option (List Bool))=some ns from e) (by simp))|skip
  obtain⟨l,e1,e2⟩:=v8_ (show(bools? ds).map _=some ns from e)
  subst e2;simp only[Rep]at q;subst q;rw[b1c r e1];rfl
def a7w:D->D->Option D
 |.lst ds,.bl b=>(bools? ds).bind fun bs=>(bs.findIdx? fun y=>y==b).map fun(j:Nat)=>D.int (j:Int)
 |_,_=>none
section
variable{X:Cx}{B:OA}{pos:Pos}{o e:Expr}{ma mb:Mo D}
theorem b7B(ns:List Bool):(ns.map V.bl).all a0E=true:=by
 induction ns with
 |nil=>rfl
 |cons n ns ih=>simp[a0E,ih]
def b7C(K:Frag):V->List V->Hp->VK->Prop:=fun x vs H Q=>∃(p:Addr) (bs:List Bool) (b:Bool) (j:Nat),x=.ref p/\vs=[.bl b]/\SqL K H p (bs.map V.bl)/\(bs.findIdx? fun y=>y==b)=some j/\Q (.int j) H
theorem b7D:MtM X "list.index" (b7C X.K):=by
 intro pins s σ H x vs v us Q I rx rv h;obtain⟨p,bs,b,j,rfl,rfl,hq,hj,q⟩:=h;cases rx;obtain⟨u,rfl,ru⟩:=rv.one;have ru':=ru;cases ru;obtain⟨its,r,pl,hz⟩:=I.list hq;obtain⟨⟨oc,od,odt,osl⟩,n,e,hc,hd,hdt⟩:=pl;dsimp only at hc hd hdt;subst hc hd hdt;obtain⟨hjl,hj1,hj2⟩:=List.findIdx?_eq_some_iff_getElem.mp hj;have hlen:its.length=bs.length:=by have:=r.length;simpa using this.symm
 have item:∀(m:Nat) (hm:m<its.length),its[m]=.bool (bs[m]'(by omega)):=fun m hm=>by
  obtain⟨u,h1,h2⟩:=r.get (i:=m) (x:=.bl (bs[m]'(by omega))) (by simp[show m<bs.length by omega])
  rw[Zx hm]at h1;cases h1;exact h2
 refine Uc PySem.F.slot_list_index ⟨_,e,rfl⟩ PySem.F.entry_list_index (PySem.F.args_list_index_2 _ _)
  (SeqAt.list_indexAt p its.toArray n none osl (.bool b) (eqU (.bl b)) j (by simpa using (by omega:j<its.length)) ?_ ?_ ?_) ⟨?_,fun w hw=>a3j (x:=.bl b) ru' rfl r (b7B bs) w (by simpa using hw),⟨.int j,H,I.tok _,⟨_,rfl⟩,q⟩⟩
 ·have:its.length≤sizeLine:=by rw[hlen];simpa using hz
  rw[Jl]at this
  omega
 ·rw[List.getElem_toArray,item j (by omega)]
  show(bs[j]==b)=true;exact hj1
 ·intro m hm hlt
  rw[List.getElem_toArray,item m (by simpa using hm)]
  show(bs[m]==b)=false;exact Bool.eq_false_iff.mpr (hj2 m hlt)
 ·exact e
theorem b7E{apos cpos:Pos}(ho:ED X B o ma)(he:ED X B e mb)
  (hbase:attributeBase o "index" X.env (eval o X.env)=eval o X.env:=by rfl)
  (hfew:((backTo cpos (starEach [e] X.env)).all (fun x=>!x.1)&&(backToKw cpos (keywordEach [] X.env)).all (fun x=>x.1.isSome)
   &&decide ([e].length+([]:List Keyword).length+(if([]:List Keyword).isEmpty then 0 else 1)<30))=true:=by rfl)
  (hline:(apos.endLine==cpos.line)=true:=by rfl)(hs:starEach [e] X.env=(false,eval e X.env)::starEach [] X.env:=by rfl)(hplain:(backTo cpos (starEach [] X.env)).any (·.1)=false:=by rfl):
  ED X B (.Call (.Attribute o "index" apos) [e] [] cpos) (z3_ a7w ma mb):=by
 refine pe_imp (a4c Js PySem.F.slot_list_index PySem.F.type_list_index b7D ho (u0_ he a0R hs) hbase hfew hline hs hplain) ?_
 rintro σ H Q ⟨G,env,d,env',rl,e,k⟩;obtain⟨⟨d1,env1⟩,e1,e2⟩:=q1_ e;obtain⟨⟨d2,env2⟩,e3,e4⟩:=q1_ e2;obtain⟨d3,e5,e6⟩:=v8_ e4;cases e6;dsimp only at e3 e5;unfold a7w at e5;split at e5
 ·rename_i ds b
  obtain⟨bs,e7,e8⟩:=q1_ e5;obtain⟨j,e9,e10⟩:=v8_ e8;cases e10;refine .bind rl e1 fun v G1 H1 ev1 r1=>?_
  simp only[Rep]at r1;obtain⟨a,xs,rfl,hq,rp⟩:=r1;refine⟨.inl ⟨rfl,xs,ev1.rel.sub.sqL hq⟩,.bind ev1.rel e3 fun v2 G2 H2 ev2 r2=>?_⟩
  simp only[Rep]at r2;subst r2;have hb:=b1c rp e7;subst hb;exact⟨a,bs,b,j,rfl,rfl,(ev2.same.trans ev2.rel.sub).sqL hq,e9,k _ G2 H2 (ev1.trans ev2) (by simp only[Rep])⟩
 ·cases e5
end
open AutoSeq1 (wpAny_loadPart')
section
variable{prog:Program}{w:World}{A:Around}{E:OE}{s:Shared}
end
section
variable{X:Cx}{B:OA}{pos:Pos}{a b c e:Expr}{ms:Mo (List D)}
end
section
variable{X:Cx}{B:OA}{pos:Pos}
def a2T(i:Nat):Mo D:=fun env=>((env[i]?).bind W.mutL).map fun ds=>(.int ds.length,env)
theorem b1d{i:Nat}{x:Str}{p p1:Pos}(ha:PE X (.Name x p) (a0Q i))(hg:Gl X "len")(hm:X.mg "len"=none)
  (he:starEach [.Name x p] X.env=(false,eval (.Name x p) X.env)::starEach [] X.env:=by rfl):
  ED X B (.Call (.Name "len" p1) [.Name x p] [] pos) (a2T i):=by
 refine pe_imp (a2x g2_ hg hm Zw (u0_ ha a0R) (by decide) (by decide) he rfl) ?_
 rintro σ H Q ⟨G,env,d,env',rl,e,k⟩;obtain⟨ds,e1,e2⟩:=v8_ e;obtain⟨w,e3,e4⟩:=q1_ e1;cases e2;obtain⟨q,xs,h1,h2,h3,h4⟩:=rl.ownL i w ds e3 e4;refine⟨_,h1,q,xs,rfl,.inl (.inl (.inl h2)),k _ G H (.refl rl) ?_⟩;simp only[Rep];rw[h3.length]
end
section
variable{prog:Program}{w:World}{A:Around}{R:Result->Shared->Prop}{s:Shared}
end
abbrev b1e:=St->Hp->(St->Hp->Prop)->Prop
section
variable{X:Cx}{elt:Expr}{gens:List Comprehension}{scope:Scope}{pos:Pos}{d:Nat}
end
section
variable{X:Cx}{N':List Str}{scope:Scope}{keep:List Bool}{more:Nat}{tg iter elt:Expr}{ifs:List Expr}{gs:List Comprehension}{g:TG}{tt:TT}{act:Addr->b1e}{pos:Pos}
end
section
variable{K:Qq}{B:OA}{n:Nat}
end
section
variable{X:Cx}{B:OA}{N':List Str}{scope scope0:Scope}{keep:List Bool}{more n d:Nat}{tg iter elt:Expr}{ifs:List Expr}{gens gs:List Comprehension}{g:OZ}{t:Mo Bool}{m:Mo D}{mi:Mo (List D)}{a:Mo (List D)}{pos:Pos}{s:Shared}{H:Hp}{fp:List Addr}{p:Addr}
end
section
variable{X:Cx}{B:OA}{pos:Pos}{o e:Expr}{ma mb:Mo D}
end
section
variable{X:Cx}{B:OA}{pos:Pos}
end
section
variable{prog:Program}{w:World}{A:Around}{E:OE}{s:Shared}{c1 c2:Bool}
end
section
variable{X:Cx}{pins:OX}{σ:St}{A:Around}{R:Result->Shared->Prop}{c1 c2:Bool}{n l1 l2 S:Addr}{xs ys:List V}
end
section
variable{X:Cx}{B:OA}{pos:Pos}{a b:Expr}{ms:Mo (List D)}
end
section
variable{X:Cx}{B:OA}
end
section
variable{prog:Program}{w:World}{A:Around}{E:OE}{s:Shared}
end
section
variable{X:Cx}{B:OA}{pos:Pos}{es:List Expr}{gs:List D->Env'->Option Env'}
end
section
variable{K:Qq}{G:Hp}
def a5A(K:Qq)(H:Hp)(b:Addr)(k:List Int):Prop:=H b=some (.tup ((a4d k).map kV))∨a4Z K b (a4d k)
theorem a5A.mono{H H':Hp}{b:Addr}{k:List Int}(l:Le H H')(h:a5A K H b k):a5A K H' b k:=h.imp (fun e=>l _ _ e) id
end
section
variable{X:Cx}{pins:OX}{σ:St}{H:Hp}{s:Shared}{a b:Addr}{A:Around}{E:OE}{kvs:List (List Key×V)}
end
section
variable{K:Qq}{G:Hp}
end
section
variable{X:Cx}{B:OA}{pos:Pos}{a b e:Expr}{ma mb:Mo D}
end
section
variable{X:Cx}{B:OA}{pos p:Pos}{e:Expr}{es:List Expr}{ma:Mo D}{ms:Mo (List D)}
end
section
variable{K:Qq}{B:OA}{G G1 G2:Hp}{σ:St}{env env1:Env'}{H H1 H2:Hp}{vs:List V}{ds:List D}{a:Addr}
end
section
variable{X:Cx}{B:OA}{pos p:Pos}{e:Expr}{es:List Expr}{ms:Mo (List D)}{fn:Fn}{k n:Nat}{x:Str}
end
end L2.Mir
namespace L2.Mir
open PySem PySem.Spec PyProof.Rows
section
variable{X:Cx}{B:OA}{pos p:Pos}{e:Expr}{vs:List Expr}{ma:Mo D}{ms:Mo (List D)}
end
section
variable{X:Cx}{N':List Str}{scope:Scope}{keep:List Bool}{more:Nat}{tg iter elt:Expr}{ifs:List Expr}{gs:List Comprehension}{g:TG}{tt:TT}{act:Addr->b1e}{pos:Pos}
end
section
variable{X:Cx}{B:OA}{N':List Str}{scope scope0:Scope}{keep:List Bool}{more n d:Nat}{tg iter elt:Expr}{ifs:List Expr}{gens gs:List Comprehension}{g:OZ}{t:Mo Bool}{m:Mo D}{mi:Mo (List D)}{a:Mo (List D)}{pos:Pos}{s:Shared}{H:Hp}{fp:List Addr}{p:Addr}
end
inductive NamesAt (X:Cx):List Expr->List Nat->Prop
 |nil:NamesAt X [] []
 |cons {x:Str}{p:Pos}{i:Nat}{es:List Expr}{is:List Nat}:PE X (.Name x p) (a0Q i)->NamesAt X es is->NamesAt X (.Name x p::es) (i::is)
section
variable{K:Qq}{B:OA}{G:Hp}{σ:St}{env:Env'}{H:Hp}
open Classical in
end
section
variable{X:Cx}{B:OA}{pos p:Pos}{e:Expr}{es:List Expr}{is:List Nat}{fn:Fn}{k n:Nat}{x:Str}
end
end L2.Mir
namespace L2.Mir
open PySem PyProof PyProof.Rows L2
variable{X:Cx}{B:OA}
inductive RowsAre (h:Heap):List Value->OI->Prop
 |nil:RowsAre h [] []
 |cons {a:Addr}{its:Array Value}{k:List Int}{vs:List Value}{ks:OI}(t:IsTup h a its) (i:IntsAre its.toList k) (r:RowsAre h vs ks):RowsAre h (.ref a::vs) (k::ks)
theorem RowsAre.length{h:Heap}{vs:List Value}{ks:OI}(r:RowsAre h vs ks):vs.length=ks.length:=by
 induction r with
 |nil=>rfl
 |cons _ _ _ ih=>simp[ih]
theorem a5B:∀ns:List Int,PyData.canLayAll0 (ns.map PyData.int)=true
 |[]=>rfl
 |n::ns=>by simp[PyData.canLayAll0,PyData.canLay0,a5B ns]
section
open PySem.SeqAt
open PySem.AutoSeq1 (wpAny_loadPart')
open PySem.MeetsSeq PySem.MeetsSeq2 PySem.MeetsSeq3
end
section
variable{prog:Program}{w:World}{A:Around}{E:OE}{s:Shared}
end
section
variable{X:Cx}{B:OA}{pins:OX}{σ:St}{G H:Hp}{s:Shared}
end
section
variable{X:Cx}{B:OA}{e st:Expr}{ma:Mo D}{pos p2:Pos}
theorem a8O{e:Expr}{t1 t2:TE}(h1:PE X e t1)(h2:PE X e t2):PE X e (fun σ H Q=>t1 σ H Q∨t2 σ H Q):=fun pins s σ H Q I h=>h.elim (h1 pins s σ H Q I) (h2 pins s σ H Q I)
end
theorem RowsAre.mono{h h':Heap}(f:∀a its,IsTup h a its->IsTup h' a its){vs:List Value}{ks:OI}(r:RowsAre h vs ks):RowsAre h' vs ks:=by
 induction r with
 |nil=>exact .nil
 |cons t i _ ih=>exact .cons (f _ _ t) i ih
section
variable{prog:Program}{w:World}{A:Around}{E:OE}{s:Shared}
variable{h₀:Heap}{L kS D:Addr}{m:OU}{news0:OX}{e1:Nat}{Fin:List Value->Nat->Shared->Prop}
end
section
variable{X:Cx}{pins:OX}{σ:St}{H:Hp}{s:Shared}
end
section
variable{X:Cx}{B:OA}{e:Expr}{ma:Mo D}{p p1 kp1 kp2 pos:Pos}{j:Nat}{p2:Pos}
end
section
open PySem.SeqAt
open PySem.AutoSeq1 (wpAny_loadPart')
open PySem.MeetsSeq PySem.MeetsSeq2 PySem.MeetsSeq3
end
section
variable{X:Cx}{B:OA}{pos:Pos}{o e:Expr}{ma mb:Mo D}
end
abbrev Ro:=Option (OI)
theorem b7F{α β:Type}{R R':α->β->Prop}{as:List α}{bs:List β}(h:Paired R as bs):(∀a∈as,∀b,R a b->R' a b)->Paired R' as bs:=by
 induction h with
 |nil=>intro _;exact .nil
 |cons r _ ih=>intro f;exact .cons (f _ (Zz ..) _ r) (ih fun a ha=>f a (Qe _ ha))
theorem b7G{α β:Type}{R:α->β->Prop}{as:List α}{bs:List β}(h:Paired R as bs):∀{a},a∈as->∃b,R a b:=by
 induction h with
 |nil=>intro a ha;cases ha
 |cons r _ ih=>
  intro a ha
  rcases Qm.mp ha with rfl|ha
  ·exact⟨_,r⟩
  ·exact ih ha
def a5C(H0 G:Hp)(σ:St)(env:Env')(H:Hp)(bs:List Addr)(rows:OI):Prop:=
 Paired (fun b row=>H b=some (.lst (row.map V.int))) bs rows/\∀b∈bs,H0 b=none/\G b=none/\ ¬ Owned σ env b
def Nst(H0 G:Hp)(σ:St)(env:Env')(H:Hp)(r:Nat)(rows:OI):Prop:=
 ∃a bs,σ[r]? =some (some (V.ref a))/\H a=some (.lst (bs.map V.ref))/\(a::bs).Nodup/\a5C H0 G σ env H bs rows/\H0 a=none/\G a=none/\ ¬ Owned σ env a
def NO(H0 G:Hp)(σ:St)(env:Env')(H:Hp)(r:Nat):Ro->Prop
 |none=>True
 |some rows=>Nst H0 G σ env H r rows
section
variable{K:Qq}{B:OA}{H0 G G':Hp}{σ σ':St}{env env':Env'}{H H':Hp}{r:Nat}
theorem a7x{b:Addr}{xs:List V}(ev:Ev K B G σ env H G' σ' env' H')(h:H b=some (.lst xs))(g:G b=none)(no:¬ Owned σ env b):H' b=some (.lst xs)/\G' b=none/\ ¬ Owned σ' env' b:=
 ⟨ev.keep b _ no nt_lst h,ev.stay b (by rw[h];simp) no g,fun z=>(ev.sub b z).elim no fun e=>by rw[h]at e;cases e⟩
theorem a5C.step{bs:List Addr}{rows:OI}(l:a5C H0 G σ env H bs rows)(ev:Ev K B G σ env H G' σ' env' H'):a5C H0 G' σ' env' H' bs rows:=by
 obtain⟨h1,h2⟩:=l;refine⟨b7F h1 fun b hb row e=>(a7x ev e (h2 b hb).2.1 (h2 b hb).2.2).1,fun b hb=>?_⟩
 obtain⟨row,e⟩:=b7G h1 hb;have:=a7x ev e (h2 b hb).2.1 (h2 b hb).2.2;exact⟨(h2 b hb).1,this.2⟩
theorem NO.step{q:Ro}(n:NO H0 G σ env H r q)(ev:Ev K B G σ env H G' σ' env' H')(hr:σ'[r]? =σ[r]?):NO H0 G' σ' env' H' r q:=by
 cases q with
 |none=>trivial
 |some rows=>
  obtain⟨a,bs,h1,h2,h3,h4,h5,h6,h7⟩:=n;have:=a7x ev h2 h6 h7;exact⟨a,bs,hr.trans h1,this.1,h3,h4.step ev,h5,this.2⟩
end
section
variable(K:Qq)(B:OA)(r:Nat)
def a7y(G0:Hp)(σ0:St)(env0:Env')(H0 G:Hp)(env':Env')(q':Ro)(D:Ends):Fl->Prop
 |.nx=>∀σ' G' H',Ev K B G0 σ0 env0 H0 G' σ' env' H'->Le G G'->env'[r]? =some .nil->NO H0 G' σ' env' H' r q'->D.nx σ' H'
 |fl=>Post K B G0 σ0 env0 H0 env' D fl
theorem a7y.after{G0:Hp}{σ0:St}{env0:Env'}{H0 G G1:Hp}{env':Env'}{q':Ro}{D:Ends}{fl:Fl}(k:a7y K B r G0 σ0 env0 H0 G env' q' D fl)(l:Le G G1):a7y K B r G0 σ0 env0 H0 G1 env' q' D fl:=by
 cases fl with
 |nx=>exact fun σ' G' H' ev l' hn n=>k σ' G' H' ev (l.trans l') hn n
 |bk=>exact k
 |ct=>exact k
 |ret d=>exact k
 |retL d=>exact k
end
section
variable{X:Cx}{B:OA}{r:Nat}{e a b:Expr}{pos:Pos}{st:Stmt}{rest:List Stmt}
end
section
variable{X:Cx}{B:OA}{r:Nat}{e a b tg:Expr}{pos:Pos}{st:Stmt}{rest:List Stmt}
end
mutual
def D.lf:D->Bool
 |.non=>true
 |.bl _=>true
 |.int _=>true
 |.str _=>true
 |.tup ds=>lfL ds
 |_=>false
def lfL:List D->Bool
 |[]=>true
 |d::ds=>d.lf&&lfL ds
end
section
variable{K:Qq}{G G':Hp}
mutual
theorem rep_lf(h:∀b xs,G b=some (.tup xs)->G' b=some (.tup xs)):∀(d:D) {v:V},d.lf=true->Rep K G v d->Rep K G' v d
 |.non,v,_,r=>by simpa only[Rep]using r
 |.bl b,v,_,r=>by simpa only[Rep]using r
 |.int i,v,_,r=>by simpa only[Rep]using r
 |.str x,v,_,r=>by simpa only[Rep]using r
 |.tup ds,v,l,r=>by
  simp only[Rep]at r ⊢;obtain⟨a,xs,e,q,t⟩:=r;exact⟨a,xs,e,q.imp (fun e=>h _ _ e) id,repL_lf h ds (by simpa only[D.lf]using l) t⟩
 |.lst ds,v,l,r=>by simp[D.lf]at l
 |.emp,v,l,r=>by simp[D.lf]at l
 |.obj o,v,l,r=>by simp[D.lf]at l
 |.dct _ _,v,l,r=>by simp[D.lf]at l
theorem repL_lf(h:∀b xs,G b=some (.tup xs)->G' b=some (.tup xs)):∀(ds:List D) {xs:List V},lfL ds=true->z6_ K G xs ds->z6_ K G' xs ds
 |[],_,_,r=>by simpa only[z6_]using r
 |d::ds,_,l,r=>by
  simp only[z6_]at r ⊢;obtain⟨x,t,e,q,u⟩:=r;have l':d.lf=true/\lfL ds=true:=by simpa only[lfL,Qy]using l
  exact⟨x,t,e,rep_lf h d l'.1 q,repL_lf h ds l'.2 u⟩
end
end
section
variable{K:Qq}{B:OA}{H0 G:Hp}{σ:St}{env:Env'}{H:Hp}
end
section
variable{X:Cx}{B:OA}{r:Nat}{pos p px:Pos}{fn:Fn}{k n:Nat}{x y:Str}
end
section
variable{K:Qq}{B:OA}{G G1:Hp}{σ σ1:St}{env env1:Env'}{H H1:Hp}
end
section
variable{X:Cx}{B:OA}{r:Nat}{N':List Str}{scope:Scope}{keep:List Bool}{more:Nat}{tg iter elt:Expr}{g:OZ}{ml mi:Mo (List D)}{pos:Pos}
end
section
variable{X:Cx}{B:OA}{e:Expr}{ma:Mo D}{pos p2:Pos}
end
open PySem.W Builtin Builtin.ObjectAttr Builtin.Getset_descriptor PySem.Calls
theorem fl1:typeLookup (.type "function") "__getattribute__"=pure (some (.builtin "object.__getattribute__")):=by rfl
theorem fl5:getOf (some (.builtin "object.__class__"))=pure (some (.builtin "getset_descriptor.__get__")):=by rfl
section
variable{prog:Program}{w:World}{A:Around}{E:OE}{x:Addr}{h:Heap}{g:Array GenState}{d:Drawn}{t:Nat}{os:OsState}
end
def isFn(K:Qq)(f:Addr):Bool:=match List.lookup f K with
 |some o=>o.cls==.type "function"
 |none=>false
section
variable{X:Cx}{B:OA}{e:Expr}{es:List Expr}{p pos:Pos}{y:Str}{i k n:Nat}{as:Mo (List Ar)}
end
section
variable{prog:Program}{w:World}{A:Around}{E:OE}{s:Shared}
end
inductive PairsAt (K:Qq) (G:Hp):List V->List (List Int×V)->Prop
 |nil:PairsAt K G [] []
 |cons {q b:Addr}{k:List Int}{v:V}{xs:List V}{ps:List (List Int×V)}:SqU K G q [.ref b,v]->a5A K G b k->PairsAt K G xs ps->PairsAt K G (.ref q::xs) ((k,v)::ps)
section
variable{X:Cx}{pins:OX}{σ:St}{A:Around}{R:Result->Shared->Prop}{l it d:Addr}{xs:List V}{G:Hp}
end
section
variable{X:Cx}{B:OA}
end
theorem PairsAt.mono{K:Qq}{G G':Hp}(l:Le G G'){xs:List V}{ps:List (List Int×V)}(h:PairsAt K G xs ps):PairsAt K G' xs ps:=by
 induction h with
 |nil=>exact .nil
 |cons a b c ih=>exact .cons (l.sqU a) (b.mono l) ih
end L2.Mir
namespace L2.Mir
open PySem PySem.Spec PyProof.Rows PySem.W
structure DefT(P:Program)(w:World)(K:Frag)(mg:OU)(base:Heap)(x:Str)(k n:Nat)(fn:Fn)(ts:List Addr):Prop where
 ex:∃(f:Addr) (fd:FuncData) (ps:List Str),FnOk P w K mg base CX0 k f fd ps (SpT K ts n fn)/\ps.length=n/\mg x=some (.ref f)/\keepIn K (.ref f)=true/\a0w K fd ps []
section
variable{X:Cx}{B:OA}{pos p:Pos}{e:Expr}{es:List Expr}{as:Mo (List Ar)}{fn:Fn}{k n:Nat}{x:Str}{ts:List Addr}{f:Addr}{fd:FuncData}{ps:List Str}{t:TA}{E:XK}
end
theorem k8_{N P:List Str}{sc:Scope}(a:sc.kind=.function:=by rfl)(b:sc.isCoroutine=false:=by rfl)(c:sc.isGenerator=false:=by rfl)(d:N.Nodup:=by decide+kernel)(e:N.take P.length=P:=by rfl)(f:∀x∈P,sc.names.lookup x=some .local∨sc.names.lookup x=some .cell:=by decide+kernel)(g:∀y∈sc.names,y.2≠.free:=by decide+kernel):FnScope N P sc:=⟨a,b,c,d,e,f,g⟩
theorem us1{α:Type}{M:List α->Prop}(h:∀a,M [a]):∀us:List α,us.length=1->M us
 |[a],_=>h a
theorem us2{α:Type}{M:List α->Prop}(h:∀a b,M [a,b]):∀us:List α,us.length=2->M us
 |[a,b],_=>h a b
theorem us3{α:Type}{M:List α->Prop}(h:∀a b c,M [a,b,c]):∀us:List α,us.length=3->M us
 |[a,b,c],_=>h a b c
def strs?:List D->Option (List Str)
 |[]=>some []
 |.str x::r=>(strs? r).map (x:: ·)
 |_=>none
def a0L:D->D->Option D
 |.str x,.lst ds=>(strs? ds).bind fun ss=>if x.length≤4&&ss.all (fun y=>decide (y.length≤1000))&&decide (ss.length≤1000)&&decide ((Txt.join x ss).length≤100000)then some (.str (Txt.join x ss))else none
 |_,_=>none
section
variable{X:Cx}{B:OA}{pos:Pos}{o e:Expr}{ma mb:Mo D}
theorem b1f{K:Qq}{G:Hp}:∀{ds:List D}{xs:List V}{ss:List Str},z6_ K G xs ds->strs? ds=some ss->xs=ss.map V.str
 |[],xs,ss,r,e=>by
  simp only[z6_]at r;cases e;exact r
 |d::ds,xs,ss,r,e=>by
  simp only[z6_]at r;obtain⟨x,t,rfl,r1,r2⟩:=r;unfold strs? at e;split at e
  ·rename_i z;cases z
  ·rename_i y r' z
   cases z;obtain⟨ss',e1,e2⟩:=v8_ e;cases e2;simp only[Rep]at r1;rw[r1.1,b1f r2 e1]
   rfl
  ·cases e
theorem b1g:∀{ss:List Str}{us:List Value},q3_ (ss.map V.str) us->StrsAre us ss
 |[],_,h=>by cases h;exact .nil
 |s::ss,_,h=>by
  cases h with
  |cons r t=>
   obtain⟨tk,rfl⟩:=r;exact .cons _ _ (b1g t)
theorem b1h:∀{ss:List Str},(∀a∈ss,a.length≤1000)->(ss.map (·.length)).sum≤ss.length * 1000
 |[],_=>Qw _
 |s::ss,h=>by
  have a:=b1h (ss:=ss) fun x hx=>h x (Qe _ hx)
  have b:=h s (Zz ..)
  rw[Qg,Ym,Zq]
  omega
def b1i(K:Qq):V->List V->Hp->VK->Prop:=fun x vs H Q=>∃(sep:Str) (p:Addr) (ss:List Str),x=.str sep/\vs=[.ref p]/\SqL K H p (ss.map V.str)/\sep.length≤4/\(∀a∈ss,a.length≤1000)/\ss.length≤1000/\Q (.str (Txt.join sep ss)) H
theorem b7H:MtM X "str.join" (b1i X.K):=by
 intro pins s σ H x vs v us Q I rx rv h;obtain⟨sep,p,ss,rfl,rfl,hq,h1,h2,h3,q⟩:=h;obtain⟨tk,rfl⟩:=rx;obtain⟨u,rfl,ru⟩:=rv.one;cases ru;obtain⟨its,r,pl,hz⟩:=I.list hq;have hw:=b1h h2;exact PyProof.Rows.join_listW pl.isList (b1g r) (by omega) (by omega) fun t' k=>⟨.str (Txt.join sep ss),H,I.tok k,⟨t',rfl⟩,q⟩
theorem a7z{apos cpos:Pos}(ho:ED X B o ma)(he:ED X B e mb)
  (hbase:attributeBase o "join" X.env (eval o X.env)=eval o X.env:=by rfl)
  (hfew:((backTo cpos (starEach [e] X.env)).all (fun x=>!x.1)&&(backToKw cpos (keywordEach [] X.env)).all (fun x=>x.1.isSome)
   &&decide ([e].length+([]:List Keyword).length+(if([]:List Keyword).isEmpty then 0 else 1)<30))=true:=by rfl)
  (hline:(apos.endLine==cpos.line)=true:=by rfl)(hs:starEach [e] X.env=(false,eval e X.env)::starEach [] X.env:=by rfl)(hplain:(backTo cpos (starEach [] X.env)).any (·.1)=false:=by rfl):
  ED X B (.Call (.Attribute o "join" apos) [e] [] cpos) (z3_ a0L ma mb):=by
 intro pins s σ H Q I h;obtain⟨G,env,d,env',rl,em,k⟩:=h;obtain⟨⟨d1,env1⟩,e1,e2⟩:=q1_ em;obtain⟨⟨d2,env2⟩,e3,e4⟩:=q1_ e2;obtain⟨d3,e5,e6⟩:=v8_ e4;cases e6;dsimp only at e3 e5;unfold a0L at e5;split at e5
 ·rename_i sep ds
  obtain⟨ss,e7,e8⟩:=q1_ e5;split at e8
  case isFalse=>cases e8
  rename_i hc;cases e8;simp only[Qy,Zf,Qv]at hc;obtain⟨⟨⟨c1,c2⟩,c3⟩,c4⟩:=hc;refine Vx hbase hfew hline rfl (thn (ho pins s σ H (fun x H1=>∃G1,x=.str sep/\Ev X.K B G σ env H G1 σ env1 H1) I ⟨G,env,_,env1,rl,e1,fun v G1 H1 ev1 r1=>?_⟩) fun v s1 ⟨x,H1,I1,r1,G1,hx,ev1⟩=>?_)
  ·simp only[Rep]at r1
   exact⟨G1,r1.1,ev1⟩
  ·subst hx
   obtain⟨tk,rfl⟩:=r1;refine⟨"str","str.join",PySem.F.plainAttrs_str,PySem.F.slot_str_join,PySem.F.type_str_join,rfl,(fun a' z=>by cases z),?_⟩
   have hA:=(u0_ he a0R hs) cpos pins s1 σ H1 (fun vs H2=>b1i X.K (.str sep) vs H2 Q) I1 ⟨G1,env1,_,env2,ev1.rel,e3,fun v2 G2 H2 ev2 r2=>by
    simp only[Rep]at r2;obtain⟨a,xs,rfl,hq,rp⟩:=r2;have hb:=b1f rp e7;subst hb;refine⟨sep,a,ss,rfl,rfl,ev2.rel.sub.sqL hq,c1,fun y hy=>c2 y hy,c3,k _ G2 H2 (ev1.trans ev2) ?_⟩
    simp only[Rep];exact⟨trivial,Qt c4 (by decide)⟩⟩
   rw[hs]at hA ⊢;refine Vk (by show(false||(backTo cpos (starEach [] X.env)).any (·.1))=false;rw[hplain]<;>rfl) (Um ?_)
   exact thn hA fun us s2 ⟨vs,H2,I2,r2,q2⟩=>b7H pins s2 σ H2 (.str sep) vs (.str sep tk) us Q I2 ⟨tk,rfl⟩ r2 q2
 ·cases e5
end
def a0j(x sep:Str):List Str:=
 if(decide (x.length<sep.length)||decide (Builtin.Str.strKind x<Builtin.Str.strKind sep))=true then[x]
 else if(Builtin.Str.occurrences x sep 0 x.length (x.length+1)).isEmpty=true then[x]
 else Builtin.Str.partsBetween x (Builtin.Str.occurrences x sep 0 x.length (x.length+1)) sep.length
theorem b1j{prog:Program}{w:World}{A:Around}{E:OE}:∀{ss:List Str}{s:Shared}{Q:List Value->Shared->Prop},(∀y∈ss,y.length≤sizeLine)->(∀vs tk,q3_ (ss.map V.str) vs->Q vs {s with toks:=tk})->wpAny (model prog w) A (ss.mapM mkStr) Q E s
 |[],s,Q,_,h=>by
  rw[List.mapM_nil];exact Qd (h [] s.toks .nil)
 |y::ss,s,Q,hl,h=>by
  rw[List.mapM_cons];refine Qz (wpAny_mkStr (hx:=hl y (Zz ..)) ?_);refine Qz (b1j (fun z hz=>hl z (Qe _ hz)) fun vs tk hv=>?_)
  exact Qd (h _ tk (.cons ⟨s.toks,rfl⟩ hv))
theorem b7I(x sep:Str)(t u:Tok):Meets (Builtin.«str.split» ⟨[.str x t,.str sep u],[]⟩) (fun _ R s=>(sep.length==0)=false/\(∀y∈a0j x sep,y.length≤sizeLine)/\(a0j x sep).length≤sizeLine/\∀vs tk,q3_ ((a0j x sep).map V.str) vs->R (.ok (.ret (.ref s.heap.objs.size))) {s with heap:=s.heap.push {cls:=.type "list",data:=.seq vs.toArray},toks:=tk}):=by
 intro prog w A R s ⟨h0,h1,h2,h⟩;have one:a0j x sep=[x]->∀s':Shared,s'=s->wpAny (model prog w) A.in1 (newList [.str x t]>>=fun l=>ret l) (fun fin s'=>match fin with|.done f=>R (.ok f) s'|.again c'=>c'.quiet=true/\codeAny (model prog w) A c' R s') (fun e s'=>R (.error e) s') s':=by
  intro e s' hs;subst hs;refine Qz (Xk ?_);refine Qd ?_
  have:=h [.str x t] s'.toks (by rw[e];exact .cons ⟨t,rfl⟩ .nil)
  exact this
 have e1:Builtin.Str.strSelf ⟨[.str x t,.str sep u],[]⟩=pure (.str x t,x,[.str sep u]):=by
  unfold Builtin.Str.strSelf Builtin.Str.textOf asStr?;simp only[pure_bind]
 have e2:Builtin.Str.bindOptional "str.split" "split" 0 ["sep","maxsplit"] [.str sep u] []=pure [some (.str sep u),none]:=by
  unfold Builtin.Str.bindOptional;dsimp only;rw[Qr (by simp),Qr (by simp)]
  rfl
 have e3:asStr? (.str sep u)=pure (some sep):=rfl
 unfold Builtin.«str.split»;rw[e1,pure_bind];dsimp only;rw[e2,pure_bind];dsimp only;unfold Builtin.Str.countLimit;dsimp only;rw[pure_bind];rw[Qr (by simp)]
 show wpAny _ A.in1 (asStr? (.str sep u)>>=_) _ _ s;rw[e3,pure_bind];dsimp only
 by_cases c1:(decide (x.length<sep.length)||decide (Builtin.Str.strKind x<Builtin.Str.strKind sep))=true
 ·rw[Qn c1]
  refine Qz (Xv ?_);exact one (by unfold a0j;rw[Qn c1]) _ rfl
 ·rw[Qr c1,Qr (by rw[h0];simp)]
  by_cases c2:(Builtin.Str.occurrences x sep 0 x.length (x.length+1)).isEmpty=true
  ·rw[Qn (show(Builtin.Str.isExactStr (Value.str x t)&&(Builtin.Str.occurrences x sep 0 x.length (x.length+1)).isEmpty)=true by rw[c2];rfl)]
   refine Qz (Xv ?_);exact one (by unfold a0j;rw[Qr c1,Qn c2]) _ rfl
  ·rw[Qr (show ¬ (Builtin.Str.isExactStr (Value.str x t)&&(Builtin.Str.occurrences x sep 0 x.length (x.length+1)).isEmpty)=true by rw[Bool.not_eq_true]at c2;rw[c2];simp)]
   have e:a0j x sep=Builtin.Str.partsBetween x (Builtin.Str.occurrences x sep 0 x.length (x.length+1)) sep.length:=by unfold a0j;rw[Qr c1,Qr c2]
   rw[←e];refine Qz (b1j h1 fun vs tk hv=>?_)
   refine Qz (Xk (hsz:=by rw[←hv.length,Qk];exact h2) ?_)
   exact Qd (h vs tk hv)
def a2U:D->D->Option (List D)
 |.str x,.str sep=>if !(sep.length==0)&&(a0j x sep).all (fun y=>decide (y.length≤100000))&&decide ((a0j x sep).length≤100000)then some ((a0j x sep).map D.str)else none
 |_,_=>none
def a1H(ma mb:Mo D):Mo (List D):=fun env=>(ma env).bind fun p=>(mb p.2).bind fun q=>(a2U p.1 q.1).map fun ds=>(ds,q.2)
theorem b1k{K:Qq}{G:Hp}:∀{ss:List Str},(∀y∈ss,y.length≤sizeLine)->z6_ K G (ss.map V.str) (ss.map D.str)
 |[],_=>repL_nil
 |y::ss,h=>repL_cons (by simp only[Rep];exact⟨trivial,h y (Zz ..)⟩) (b1k fun z hz=>h z (Qe _ hz))
section
variable{X:Cx}{B:OA}{pos:Pos}{o e:Expr}{ma mb:Mo D}
theorem a7A{apos cpos:Pos}(ho:ED X B o ma)(he:ED X B e mb)
  (hbase:attributeBase o "split" X.env (eval o X.env)=eval o X.env:=by rfl)
  (hfew:((backTo cpos (starEach [e] X.env)).all (fun x=>!x.1)&&(backToKw cpos (keywordEach [] X.env)).all (fun x=>x.1.isSome)
   &&decide ([e].length+([]:List Keyword).length+(if([]:List Keyword).isEmpty then 0 else 1)<30))=true:=by rfl)
  (hline:(apos.endLine==cpos.line)=true:=by rfl)(hs:starEach [e] X.env=(false,eval e X.env)::starEach [] X.env:=by rfl)(hplain:(backTo cpos (starEach [] X.env)).any (·.1)=false:=by rfl):
  EL X B (.Call (.Attribute o "split" apos) [e] [] cpos) (a1H ma mb):=by
 intro pins s σ H Q I h;obtain⟨G,env,ds,env',rl,em,k⟩:=h;obtain⟨⟨d1,env1⟩,e1,e2⟩:=q1_ em;obtain⟨⟨d2,env2⟩,e3,e4⟩:=q1_ e2;obtain⟨ds',e5,e6⟩:=v8_ e4;cases e6;dsimp only at e3 e5;unfold a2U at e5;split at e5
 ·rename_i x sep
  split at e5
  case isFalse=>cases e5
  rename_i hc;cases e5;simp only[Qy,Zf,Qv,Up]at hc;obtain⟨⟨c1,c2⟩,c3⟩:=hc;refine Vx hbase hfew hline rfl (thn (ho pins s σ H (fun v H1=>∃G1,v=.str x/\Ev X.K B G σ env H G1 σ env1 H1) I ⟨G,env,_,env1,rl,e1,fun v G1 H1 ev1 r1=>?_⟩) fun v s1 ⟨y,H1,I1,r1,G1,hx,ev1⟩=>?_)
  ·simp only[Rep]at r1
   exact⟨G1,r1.1,ev1⟩
  ·subst hx
   obtain⟨tk,rfl⟩:=r1;refine⟨"str","str.split",PySem.F.plainAttrs_str,PySem.F.slot_str_split,PySem.F.type_str_split,rfl,(fun a' z=>by cases z),?_⟩
   have hA:=(u0_ he a0R hs) cpos pins s1 σ H1 (fun vs H2=>vs=[.str sep]/\∃G2,Ev X.K B G σ env H G2 σ env2 H2) I1 ⟨G1,env1,_,env2,ev1.rel,e3,fun v2 G2 H2 ev2 r2=>by
    simp only[Rep]at r2;exact⟨by rw[r2.1],G2,ev1.trans ev2⟩⟩
   rw[hs]at hA ⊢;refine Vk (by show(false||(backTo cpos (starEach [] X.env)).any (·.1))=false;rw[hplain]<;>rfl) (Um ?_)
   refine thn hA fun us s2 ⟨vs,H2,I2,r2,hv,G2,ev2⟩=>?_
   subst hv;obtain⟨u,rfl,ru⟩:=r2.one;obtain⟨tu,rfl⟩:=ru;refine Uc PySem.F.slot_str_split rfl PySem.F.entry_str_split (PySem.F.args_str_split_2 _ _) (b7I x sep tk tu) ⟨c1,fun y hy=>Qt (c2 y hy) (by decide),Qt c3 (by decide),fun vs t' hv=>?_⟩
   have hn:H2 s2.heap.objs.size=none:=I2.hok.fresh (Qw _)
   refine⟨.ref s2.heap.objs.size,_,I2.laid (a:=s2.heap.objs.size) (o:=.lst ((a0j x sep).map V.str)) (t':=t') (fun _ _ q=>Qj _ q) (Qw _) ⟨?_,vs,0,hv,Qh _ rfl⟩,rfl,a5h ev2 hn (b1k fun y hy=>Qt (c2 y hy) (by decide)) k⟩
   rw[Qk];exact Qt c3 (by decide)
 ·cases e5
end
def signs(x:Str):List D:=x.cps.toList.map fun c=>D.str ⟨#[c]⟩
def Its(x:Str):It:=⟨fun i _=>i<x.cps.size,fun i H y H'=>H'=H/\∃c,x.cps[i]? =some c/\y=.str ⟨#[c]⟩,fun i _=>x.cps.size≤i⟩
theorem b7J{P:Program}{w:World}{K:Qq}{tg:Expr}(it:Addr)(x:Str)(t:Tok):Turn P w K tg (Its x) [it] it (fun i h=>h.IsStrIter it "str_ascii_iterator" x t i/\i≤x.cps.size)where
 mem:=by simp
 obj:=fun i h st b hb=>by
  have e:b=it:=by simpa using hb
  subst e;obtain⟨⟨o,e,c,d⟩,_⟩:=st;exact⟨o,e,fun v z=>by rw[d]at z;cases z⟩
 keep:=fun i h h' st k=>by
  obtain⟨⟨o,e,c,d⟩,hi⟩:=st;exact⟨⟨o,k it (by simp) _ e,c,d⟩,hi⟩
 item:=by
  intro X hP hw hK hc i pins s σ H E I hf st hg;subst hP hw hK;obtain⟨f0,f1,f2,f3,f4,f5⟩:=hf it (by simp)
  have W:=Walks.strAscii (prog:=X.prog) (w:=X.w) (I.ok.hd hc) it x t
  refine W.item i s _ _ hg st.1 fun v h' tk hv st' kk=>?_
  obtain⟨c,u,h1,rfl⟩:=hv;have I1:Inv X pins σ H {s with heap:=h',toks:=tk}:=I.turned (fun b o hb e=>kk b o (by simpa using hb) e) f0 f1 f3 f4 f5
  obtain⟨o,e,oc,od⟩:=id st';have hi:i<x.cps.size:=hg;exact⟨_,rfl,a4V (s:={s with heap:=h',toks:=tk}) (n:="str_ascii_iterator") e oc od (by decide) ⟨.str ⟨#[c]⟩,H,I1,⟨u,rfl⟩,⟨rfl,c,h1,rfl⟩,⟨st',hi⟩,fun b hb=>(hf b hb).1⟩⟩
 done:=by
  intro X hP hw hK hc i pins s σ H E I hf st hg;subst hP hw hK;obtain⟨f0,f1,f2,f3,f4,f5⟩:=hf it (by simp)
  have W:=Walks.strAscii (prog:=X.prog) (w:=X.w) (I.ok.hd hc) it x t
  have hi:x.cps.size≤i:=hg
  have e:i=x.cps.size:=Nat.le_antisymm st.2 hi
  subst e;exact W.done s _ _ st.1 fun h' tk kk=>⟨rfl,I.turned (fun b o hb e=>kk b o (by simpa using hb) e) f0 f1 f3 f4 f5⟩
 self:=fun A i s Q E st h=>by
  exact wpAny_pyIter_striter_ascii st.1 h
theorem b7K{K:Qq}{G:Hp}{x:Str}:ItD K (Its x) G (signs x)where
 go:=fun i H l hi=>by
  have h:i<x.cps.size:=by simpa [signs]using hi
  exact h
 stop:=fun i H l hi=>by
  have h:x.cps.size≤i:=by simpa [signs]using hi
  exact h
 yld:=fun i H y H' d l z e=>by
  obtain⟨rfl,c,h1,rfl⟩:=z;refine .inl ⟨rfl,?_⟩;unfold signs at e;rw[Zi,Array.getElem?_toList,h1]at e;cases e;simp only[Rep];exact⟨trivial,by show 1≤sizeLine;decide⟩
def a2k(m:Mo D):Mo (List D):=fun env=>(m env).bind fun p=>match p.1 with
 |.str x=>if x.cps.all (fun c=>decide (c<128))then some (signs x,p.2)else none
 |_=>none
section
variable{X:Cx}{B:OA}{tg e:Expr}{ma:Mo D}
theorem a7B(h:ED X B e ma):EI X B tg e (a2k ma):=by
 intro pins s σ H R I q;obtain⟨G,env,ds,env',rl,em,k⟩:=q;obtain⟨⟨d,env1⟩,e1,e2⟩:=q1_ em;dsimp only at e2;split at e2
 case h_2=>cases e2
 rename_i x;split at e2
 case isFalse=>cases e2
 rename_i ha;cases e2;refine thn (h pins s σ H (fun v H1=>∃G1,v=.str x/\Ev X.K B G σ env H G1 σ env' H1) I ⟨G,env,_,env',rl,e1,fun v G1 H1 ev1 r1=>?_⟩) fun v s1 ⟨y,H1,I1,r1,G1,hy,ev1⟩=>?_
 ·simp only[Rep]at r1
  exact⟨G1,r1.1,ev1⟩
 ·subst hy
  obtain⟨t,rfl⟩:=r1;refine wpAny_pyIter_strU ?_
  have ht:strIterType x="str_ascii_iterator":=by unfold strIterType;rw[Qn ha]
  rw[ht];refine⟨s1.heap.objs.size,[s1.heap.objs.size],_,_,H1,rfl,I1.kept (t':=s1.toks) fun b o e=>Qj _ e,b7J _ x t,⟨⟨_,Qh _ rfl,rfl,rfl⟩,Jd _⟩,fun b hb=>?_,k _ G1 H1 ev1 b7K⟩
  have e:b=s1.heap.objs.size:=by simpa using hb
  subst e;exact I1.fpOk (Qw _) (I1.hok.fresh (Qw _))
end
section
variable{X:Cx}{B:OA}{pos:Pos}{e e2:Expr}{ma mb:Mo D}
end
def lkK:List (Key×Key)->Key->Option Key
 |[],_=>none
 |p::l,k=>if p.1=k then some p.2 else lkK l k
structure DkG(P:Program)(w:World)(K:Qq)(mg:OU)(x:Str)(kvs:List (Key×Key)):Prop where
 ex:∃a,mg x=some (.ref a)/\(a==sysModules)=false/\∀h:Heap,K.In h->(∃o,h.get? a=some o/\o.cls=.type "dict")/\∃g:Key->Option Value,h.MapOf (g9_ P w) a g/\∀k,a0m ((lkK kvs k).map kV) (g k)
def a3F:D->Option Key
 |.int i=>some (.inl i)
 |.str x=>some (.inr x)
 |_=>none
def a0X:Key->Option D
 |.inl i=>some (.int i)
 |.inr x=>if x.length≤100000 then some (.str x)else none
theorem a5D{K:Qq}{G:Hp}{v:V}{d:D}{k:Key}(r:Rep K G v d)(h:a3F d=some k):v=kV k:=by
 cases d<;>first|(exact absurd (show(none:Option Key)=some k from h) (by simp))|skip
 ·cases h
  simp only[Rep]at r;exact r
 ·cases h
  simp only[Rep]at r;exact r.1
theorem a7C{K:Qq}{G:Hp}{k:Key}{d:D}(h:a0X k=some d):Rep K G (kV k) d:=by
 cases k with
 |inl i=>cases h;simp only[Rep];rfl
 |inr x=>
  unfold a0X at h;dsimp only at h;split at h
  ·rename_i hl
   cases h;simp only[Rep];exact⟨rfl,Qt hl (by decide)⟩
  ·cases h
def a5E(kvs:List (Key×Key))(mb:Mo D):Mo D:=fun env=>(mb env).bind fun p=>(a3F p.1).bind fun k=>(lkK kvs k).bind fun v=>(a0X v).map fun d=>(d,p.2)
def a4x(kvs:List (Key×Key))(ma:Mo D):Mo D:=fun env=>(ma env).bind fun p=>(a3F p.1).map fun k=>(.bl (lkK kvs k).isSome,p.2)
section
variable{X:Cx}{B:OA}{pos:Pos}{a b:Expr}{ma mb:Mo D}{kvs:List (Key×Key)}
theorem b7L{x:Str}{p:Pos}(hk:DkG X.prog X.w X.K X.mg x kvs)(hg:Gl X x)(hb:ED X B b mb)(hs:a3i b)(hd:(x==("__debug__":Str))=false:=by decide):
  ED X B (.Subscript (.Name x p) b pos) (a5E kvs mb):=by
 intro pins s σ H Q I h;obtain⟨G,env,d,env',rl,em,kk⟩:=h;obtain⟨⟨d1,env1⟩,e1,e2⟩:=q1_ em;obtain⟨key,e3,e4⟩:=q1_ e2;obtain⟨v,e5,e6⟩:=q1_ e4;obtain⟨d2,e7,e8⟩:=v8_ e6;cases e8;obtain⟨q,hm,hn,hall⟩:=hk.ex;refine a9E PySem.F.slot_dict_getitem.lookup hs (thn (a4S (v:=.ref q) hg hm rfl hd pins s σ H (fun v H1=>v=.ref q/\H1=H) I ⟨rfl,rfl⟩) fun u s1 ⟨y,H1,I1,ry,z1,z2⟩=>?_)
 subst z1 z2;cases ry;refine thn (hb pins s1 σ H1 (fun v H2=>∃G2,Ev X.K B G σ env H1 G2 σ env1 H2/\Rep X.K G2 v d1) I1 ⟨G,env,d1,env1,rl,e1,fun v G2 H2 ev r=>⟨G2,ev,r⟩⟩) fun iv s2 ⟨y,H2,I2,ry,G2,ev,r⟩=>?_
 have hv:=a5D r e3
 subst hv;obtain⟨⟨o,ho,hc⟩,g,hmap,hrel⟩:=hall s2.heap I2.kIn;have hr:=hrel key;rw[e5]at hr;obtain⟨w',hw,rw'⟩:=a0m.some_of (v:=kV v) (o:=g key) hr;exact⟨⟨o,ho,hc⟩,wpAny_getItem_of (a1g ry) hmap hw ⟨kV v,H2,I2.tok _,rw',kk _ G2 H2 ev (a7C e7)⟩⟩
theorem b7M{x:Str}{p:Pos}(hk:DkG X.prog X.w X.K X.mg x kvs)(hg:Gl X x)(ha:ED X B a ma)(hd:(x==("__debug__":Str))=false:=by decide):PC X .In a (.Name x p) (TD X.K B (a4x kvs ma)):=by
 intro pins s σ H Q I h;obtain⟨G,env,d,env',rl,em,kk⟩:=h;obtain⟨⟨d1,env1⟩,e1,e2⟩:=q1_ em;obtain⟨key,e3,e4⟩:=v8_ e2;cases e4;obtain⟨q,hm,hn,hall⟩:=hk.ex;refine thn (ha pins s σ H (fun v H1=>∃G1,Ev X.K B G σ env H G1 σ env1 H1/\Rep X.K G1 v d1) I ⟨G,env,d1,env1,rl,e1,fun v G2 H2 ev r=>⟨G2,ev,r⟩⟩) fun iv s1 ⟨y,H1,I1,ry,G1,ev,r⟩=>?_
 refine thn (a4S (v:=.ref q) hg hm rfl hd pins s1 σ H1 (fun v H2=>v=.ref q/\H2=H1) I1 ⟨rfl,rfl⟩) fun u s2 ⟨x',H2,I2,rx,z1,z2⟩=>?_
 subst z1 z2;cases rx;have hv:=a5D r e3;subst hv;obtain⟨_,g,hmap,hrel⟩:=hall s2.heap I2.kIn;have hr:=(hrel key).isSome_eq;rw[Option.isSome_map]at hr;refine wpAny_in_of (a1g ry) hn hmap ⟨.bl (lkK kvs key).isSome,H2,I2.tok _,by rw[hr];rfl,kk _ G1 H2 ev (by simp only[Rep])⟩
end
section
variable{X:Cx}{B:OA}{pos:Pos}{k1 k2 k3 v1 v2 v3:Expr}{a1 a2 a3 b1 b2 b3:Key}
theorem b7N(hk1:PE X k1 (tC (kV a1)))(hk2:PE X k2 (tC (kV a2)))(hk3:PE X k3 (tC (kV a3)))(hv1:PE X v1 (tC (kV b1)))(hv2:PE X v2 (tC (kV b2)))(hv3:PE X v3 (tC (kV b3)))
  (hm:∀u1 u2 u3:Value,merged [] [(a1,u1),(a2,u2),(a3,u3)]=[(a1,u1),(a2,u2),(a3,u3)]):
  PE X (.Dict [some k1,some k2,some k3] [v1,v2,v3] pos) (fun _ H Q=>∀p,H p=none->Q (.ref p) (upd H p (.dK [(a1,kV b1),(a2,kV b2),(a3,kV b3)]))):=by
 intro pins s σ H Q I h;refine wpAny_Dict_walk (knd:=g9_ X.prog X.w) rfl rfl (by simp) (by simp) ?_
 have hn:H s.heap.objs.size=none:=I.hok.fresh (Qw _)
 have hz:(s.heap.objs.size==sysModules)=false:=Qa.mpr (Zh (Qi I.big))
 have I0:Inv X pins σ (upd H s.heap.objs.size (.dK [])) {s with heap:=s.heap.push {cls:=.type "dict",data:=.dict #[]}}:=I.laid (a:=s.heap.objs.size) (o:=.dK []) (t':=s.toks) (fun _ _ q=>Qj _ q) (Qw _) ⟨Jd _,hz,[],.nil,Heap.DictOf.new s.heap⟩
 have step:∀{e:Expr}{a:Key}(he:PE X e (tC (kV a))) {s1:Shared}{R:OE},Inv X pins σ (upd H s.heap.objs.size (.dK [])) s1->(∀u s2,q9_ (kV a) u->Inv X pins σ (upd H s.heap.objs.size (.dK [])) s2->R u s2)->wpAny (model X.prog X.w) X.A (eval e X.env) R X.xe s1:=fun{e a} he {s1 R} I1 hR=>
  thn (he pins s1 σ _ (fun v H'=>v=kV a/\H'=upd H s.heap.objs.size (.dK [])) I1 ⟨rfl,rfl⟩) fun u s2 ⟨v,H',I2,r,e1,e2⟩=>by
   subst e1 e2;exact hR u s2 r I2
 refine Vt (step hk1 I0 fun x1 s1 r1 I1=>step hv1 I1 fun y1 s2 q1 I2=>?_)
 refine Vt (step hk2 I2 fun x2 s3 r2 I3=>step hv2 I3 fun y2 s4 q2 I4=>?_)
 refine Vt (step hk3 I4 fun x3 s5 r3 I5=>step hv3 I5 fun y3 s6 q3 I6=>?_)
 refine pairTrees_nil_walk ?_
 obtain⟨_,_,vs0,kv0,dd⟩:=(show x5_ X.prog X.w _ s6.heap s.heap.objs.size (.dK [])from I6.hok _ _ y3_)
 cases kv0;refine⟨[(a1,y1),(a2,y2),(a3,y3)],⟨a1g r1,rfl,a1g r2,rfl,a1g r3,rfl,trivial⟩,dd,fun h' d sb=>?_⟩
 rw[hm]at d;have I7:Inv X pins σ (upd (upd H s.heap.objs.size (.dK [])) s.heap.objs.size (.dK [(a1,kV b1),(a2,kV b2),(a3,kV b3)])) {s6 with heap:=h',toks:=s6.toks+3}:=b4L I6 (by rw[y3_];exact True.intro) sb (by obtain⟨o,es,ep,g1,_⟩:=d;exact⟨o,g1⟩) ⟨show 3≤sizeLine by decide,hz,_,.cons ⟨rfl,q1⟩ (.cons ⟨rfl,q2⟩ (.cons ⟨rfl,q3⟩ .nil)),d⟩
 rw[a8H]at I7;exact⟨.ref s.heap.objs.size,_,I7,rfl,h _ hn⟩
theorem b1l(hk1:PE X k1 (tC (kV a1)))(hk2:PE X k2 (tC (kV a2)))(hk3:PE X k3 (tC (kV a3)))(hv1:PE X v1 (tC (kV b1)))(hv2:PE X v2 (tC (kV b2)))(hv3:PE X v3 (tC (kV b3)))
  (hm:∀u1 u2 u3:Value,merged [] [(a1,u1),(a2,u2),(a3,u3)]=[(a1,u1),(a2,u2),(a3,u3)]):ED X B (.Dict [some k1,some k2,some k3] [v1,v2,v3] pos) (mC (.obj (.dk [(a1,b1),(a2,b2),(a3,b3)]))):=by
 refine pe_imp (b7N hk1 hk2 hk3 hv1 hv2 hv3 hm) ?_
 rintro σ H Q ⟨G,env,d,env',rl,e,k⟩;cases e;exact fun p hp=>k _ _ _ (rl.alloc hp) (by simp only[Rep];exact⟨p,rfl,y3_⟩)
def a7D:D->D->Option D:=fun a b=>match a with
 |.obj (.dk kvs)=>(a3F b).bind fun k=>(lkK kvs k).bind fun v=>a0X v
 |_=>none
theorem a7E:∀{kvs:List (Key×Key)}{vs:List (Key×Value)}(k:Key),KV (kvs.map fun p=>(p.1,kV p.2)) vs->a0m ((lkK kvs k).map kV) (valueAt vs k)
 |[],_,k,h=>by cases h;exact trivial
 |p::kvs,_,k,h=>by
  cases h with
  |@cons _ q _ qs hq t=>
   have ih:=a7E k t
   obtain⟨h1,h2⟩:=hq;dsimp only at h1
   by_cases e:p.1=k
   ·have e1:lkK (p::kvs) k=some p.2:=Qn e
    have e2:valueAt (q::qs) k=some q.2:=by
     unfold valueAt;rw[Yo,show decide (q.1=k)=true from Yj (h1.symm.trans e)]
     rfl
    rw[e1,e2];exact h2
   ·have e1:lkK (p::kvs) k=lkK kvs k:=Qr e
    have e2:valueAt (q::qs) k=valueAt qs k:=by
     unfold valueAt;rw[Yo,show decide (q.1=k)=false from Zk (fun z=>e (h1.trans z))]
    rw[e1,e2];exact ih
theorem b7O{a b:Expr}{ma mb:Mo D}(ha:ED X B a ma)(hb:ED X B b mb)(hs:a3i b):ED X B (.Subscript a b pos) (z3_ a7D ma mb):=by
 intro pins s σ H Q I h;obtain⟨G,env,d,env',rl,e,k⟩:=h;obtain⟨⟨d0,env0⟩,e0,e⟩:=q1_ e;obtain⟨⟨d1,env1⟩,e1,e2⟩:=q1_ e;obtain⟨d2,e3,e4⟩:=v8_ e2;cases e4;unfold a7D at e3;dsimp only at e3;split at e3
 case h_2=>cases e3
 rename_i kvs;obtain⟨key,e7,e8⟩:=q1_ e3;obtain⟨v,e9,e10⟩:=q1_ e8;refine a9E PySem.F.slot_dict_getitem.lookup hs (thn (ha pins s σ H (fun v H1=>∃G1,Ev X.K B G σ env H G1 σ env0 H1/\Rep X.K G1 v (.obj (.dk kvs))) I ⟨G,env,_,env0,rl,e0,fun v G1 H1 ev r=>⟨G1,ev,r⟩⟩) fun u s1 ⟨x,H1,I1,rx,G1,ev1,r1⟩=>?_)
 simp only[Rep]at r1;obtain⟨q,rfl,g2⟩:=r1;cases rx;refine thn (hb pins s1 σ H1 (fun v H2=>∃G2,Ev X.K B G1 σ env0 H1 G2 σ env1 H2/\Rep X.K G2 v d1) I1 ⟨G1,env0,d1,env1,ev1.rel,e1,fun v G2 H2 ev r=>⟨G2,ev,r⟩⟩) fun iv s2 ⟨y,H2,I2,ry,G2,ev2,r⟩=>?_
 have hv:=a5D r e7
 subst hv;have hq:H2 q=some (.dK (kvs.map fun p=>(p.1,kV p.2))):=ev2.rel.sub _ _ (ev2.same _ _ g2)
 obtain⟨_,_,vs,kv,dd⟩:=(show x5_ X.prog X.w H2 s2.heap q (.dK _)from I2.hok q _ hq)
 have hr:=a7E key kv
 rw[e9]at hr;obtain⟨w',hw,rw'⟩:=a0m.some_of (v:=kV v) (o:=valueAt vs key) hr;exact⟨dd.typeIs,wpAny_getItem_of (a1g ry) dd.mapOf hw ⟨kV v,H2,I2.tok _,rw',k _ G2 H2 (ev1.trans ev2) (a7C e10)⟩⟩
theorem b7P{kvs:List (Key×Key)}{a:Expr}{ma:Mo D}{x:Str}{p:Pos}(hk:DkG X.prog X.w X.K X.mg x kvs)(hg:Gl X x)(ha:ED X B a ma)(hm:behindInMarks .In (.Name x p)=false)(hd:(x==("__debug__":Str))=false:=by decide):ED X B (.Compare a [.In] [.Name x p] pos) (a4x kvs ma):=
 b3g (b7M hk hg ha hd) hm
end
inductive Ents (P:Program) (w:World):List DictEntry->List (Key×Key)->Prop
 |nil:Ents P w [] []
 |cons {e:DictEntry}{p:Key×Key}{es:List DictEntry}{kvs:List (Key×Key)}:q9_ (kV p.1) e.key->e.hash=(g9_ P w).hash p.1->q9_ (kV p.2) e.val->Ents P w es kvs->Ents P w (e::es) (p::kvs)
theorem Ents.keys{P:Program}{w:World}{es:List DictEntry}{kvs:List (Key×Key)}(h:Ents P w es kvs):∀e∈es,∃k,(g9_ P w).is k e.key=true/\e.hash=(g9_ P w).hash k:=by
 induction h with
 |nil=>intro e he;cases he
 |cons h1 h2 h3 _ ih=>
  intro e he
  rcases Qm.mp he with rfl|he
  ·exact⟨_,a1g h1,h2⟩
  ·exact ih e he
theorem Ents.find{P:Program}{w:World}{es:List DictEntry}{kvs:List (Key×Key)}(h:Ents P w es kvs)(k:Key):a0m ((lkK kvs k).map kV) ((es.find? fun e=>(g9_ P w).is k e.key).map (·.val)):=by
 induction h with
 |nil=>exact trivial
 |@cons e p es kvs h1 h2 h3 _ ih=>
  by_cases hk:p.1=k
  ·have e1:lkK (p::kvs) k=some p.2:=Qn hk
   have e2:(g9_ P w).is k e.key=true:=by rw[←hk];exact a1g h1
   rw[e1,Yo,e2];exact h3
  ·have e1:lkK (p::kvs) k=lkK kvs k:=Qr hk
   have e2:(g9_ P w).is k e.key=false:=by
    cases hq:(g9_ P w).is k e.key with
    |false=>rfl
    |true=>exact absurd ((g9_ P w).inj _ _ _ (a1g h1) hq) hk
   rw[e1,Yo,e2];exact ih
theorem b7Q{P:Program}{w:World}{K:Qq}{mg:OU}{x:Str}{kvs:List (Key×Key)}{a:Addr}{es:List DictEntry}{ep:Nat}(hm:mg x=some (.ref a))(hl:K.lookup a=some ⟨.type "dict",none,.dict ⟨es⟩ ep,⟨[]⟩⟩)(hz:(a==sysModules)=false)(he:Ents P w es kvs):DkG P w K mg x kvs:=by
 refine⟨a,hm,hz,fun h hin=>⟨⟨_,hin a _ hl,rfl⟩,findBy (g9_ P w).is ⟨es⟩,⟨_,⟨es⟩,ep,hin a _ hl,⟨rfl,rfl,rfl⟩,rfl,fun e he'=>he.keys e (by simpa using he'),fun _=>rfl⟩,fun k=>?_⟩⟩
 have:=he.find k;unfold findBy;rw[←Array.find?_toList];exact this
section
variable{X:Cx}{B:OA}{a b e st:Expr}{ma mb:Mo D}{pos p2:Pos}
def b1m:D->D->Option D
 |.str z,.int i=>(atI z.cps.toList i).map fun c=>.str ⟨#[c]⟩
 |_,_=>none
theorem b7R:(1:Nat)≤sizeLine:=by decide
theorem b7S:OpD X B a6x b1m:=by
 intro G σ env H x y a b d Q rl ra rb e k;cases a<;>cases b<;>first|(exact absurd (show(none:Option D)=some d from e) (by simp))|skip
 rename_i z i;simp only[Rep]at ra rb;obtain⟨rfl,hz⟩:=ra;subst rb;obtain⟨c,e1,e2⟩:=v8_ (show(atI z.cps.toList i).map _=some d from e)
 subst e2;exact⟨z,i,c,rfl,rfl,hz,e1,k _ G H (.refl rl) (by simp only[Rep];exact⟨trivial,b7R⟩)⟩
def a5F:=fOr dIx b1m
theorem b7T(ha:ED X B a ma)(hb:ED X B b mb)(hs:a3i b):ED X B (.Subscript a b pos) (z3_ a5F ma mb):=pe_imp (a6w (a9r.or a9q) ha hb hs) (a4g (a9N.or b7S))
def a7F:D->D->Option D
 |.str x,.str y=>if x.length+y.length≤10000 then some (.str (x++y))else none
 |_,_=>none
theorem a7G(x y:Str):(x++y).length=x.length+y.length:=by
 show(x.cps++y.cps).size=x.cps.size+y.cps.size;rw[Array.size_append]
theorem b7U:OpD X B (fun x y H Q=>∃i j,x=.str i/\y=.str j/\i.length+j.length≤sizeLine/\Q (.str (i++j)) H) a7F:=by
 intro G σ env H x y a b d Q rl ra rb e k;cases a<;>cases b<;>first|(exact absurd (show(none:Option D)=some d from e) (by simp))|skip
 rename_i z z';simp only[Rep]at ra rb;obtain⟨rfl,hz⟩:=ra;obtain⟨rfl,hz'⟩:=rb;simp only[a7F]at e;split at e
 ·rename_i hl
  cases e;have hl':=a5r hl;exact⟨z,z',rfl,rfl,hl',k _ G H (.refl rl) (by simp only[Rep];exact⟨trivial,by show(z++z').length≤sizeLine;rw[a7G];exact hl'⟩)⟩
 ·cases e
def a0s:=fOr y4_ a7F
theorem a3G:OpR X (binaryOp .Add) (fun x y H Q=>(rI0 (fun i j=>.int (i+j)) x y H Q∨rCatT' X.K x y H Q)∨ ∃i j,x=.str i/\y=.str j/\i.length+j.length≤sizeLine/\Q (.str (i++j)) H):=OpR.or u4_ b4g
theorem a3H:OpD X B (fun x y H Q=>(rI0 (fun i j=>.int (i+j)) x y H Q∨rCatT' X.K x y H Q)∨ ∃i j,x=.str i/\y=.str j/\i.length+j.length≤sizeLine/\Q (.str (i++j)) H) a0s:=u5_.or b7U
def a3I:List D->Option D
 |[.str z]=>some (.int z.length)
 |_=>none
theorem b1n:a0U X B (fun xs H Q=>∃z,xs=[.str z]/\z.length≤sizeLine/\Q (.int z.length) H) a3I:=by
 intro G σ env H xs ds c Q rl r e k
 match ds,e with
 |[.str z],e=>
  obtain⟨x,rfl,q⟩:=a0A r;simp only[Rep]at q;obtain⟨rfl,hz⟩:=q;cases e;exact⟨z,rfl,hz,k _ G H (.refl rl) (by simp only[Rep])⟩
def a0t(z:Str)(lo hi:Option Int)(st:Int):Str:=⟨((Builtin.Str.strSliceIndices lo hi st z.length).filterMap (z.cps[·]?)).toArray⟩
def a0Y(z:Str)(lo hi:Option Int):Str:=if(Builtin.Str.strSliceIndices lo hi 1 z.length).length==z.length then z else a0t z lo hi 1
theorem a7H(z:Str)(lo hi:Option Int):(a0Y z lo hi).length≤z.length:=by
 unfold a0Y;split
 ·exact Qw _
 ·refine Qt ?_ (indices_len_le lo hi z.length)
  show(List.toArray _).size≤_;rw[Qp];exact List.length_filterMap_le ..
def a5G:Value->Option Int->Option (Int×Tok)
 |.int i t,some _=>some (i,t)
 |_,_=>none
theorem b1o{v:Value}{o:Option Int}(h:IsPart v o):partValue (a5G v o)=v/\(a5G v o).map (·.1)=o:=by
 cases h<;>exact⟨rfl,rfl⟩
theorem b7V:SlR X (fun x lo hi H Q=>∃z,x=.str z/\z.length≤sizeLine/\Q (.str (a0Y z lo hi)) H):=by
 intro pins s σ H x v vl vu lo hi sl Q I rx hs pl pu h;obtain⟨z,rfl,hz,q⟩:=h;obtain⟨t,rfl⟩:=rx;have hl:=a7H z lo hi;obtain⟨o,ho,hc,hd⟩:=hs;obtain⟨a1,a2⟩:=b1o pl;obtain⟨b1,b2⟩:=b1o pu;refine⟨"str",_,PySem.F.slot_str_getitem.lookup,typeIs_str s z t,?_⟩;refine wpAny_getItem_str_slice (l:=a5G vl lo) (u:=a5G vu hi) (st:=none) ⟨o,ho,hc,by rw[hd,a1,b1];rfl⟩ rfl ?_
 unfold sliceMade slicePicked;rw[a2,b2];show Made.post (if((1:Int)==1&&(Builtin.Str.strSliceIndices lo hi 1 z.length).length==z.length)=true then _ else _) _ _
 have e1:((1:Int)==1)=true:=by decide
 rw[e1,Ze];unfold a0Y at q hl;split
 ·rename_i hq
  rw[Qn hq]at q;exact⟨.str z,H,I,⟨t,rfl⟩,q⟩
 ·rename_i hq
  rw[Qr hq]at q hl;exact⟨Qt hl hz,.str (a0t z lo hi 1),H,I.tok _,⟨_,rfl⟩,q⟩
def a0c(m:Mo D)(ml mh:Mo (Option Int)):Mo D:=fun env=>(m env).bind fun p=>(ml p.2).bind fun q=>(mh q.2).bind fun r=>match p.1 with
 |.str z=>some (.str (a0Y z q.1 r.1),r.2)
 |_=>none
theorem a3J{lo hi:Option Expr}{ml mh:Mo (Option Int)}(he:ED X B e ma)(hl:EO X B lo ml)(hh:EO X B hi mh):ED X B (.Subscript e (.Slice lo hi none p2) pos) (a0c ma ml mh):=by
 refine pe_imp (b4u b7V he hl hh) ?_
 rintro σ H Q ⟨G,env,d,env',rl,e,k⟩;obtain⟨⟨d1,env1⟩,e1,e2⟩:=q1_ e;obtain⟨⟨l,env2⟩,e3,e4⟩:=q1_ e2;obtain⟨⟨u,env3⟩,e5,e6⟩:=q1_ e4;dsimp only at e3 e5 e6;split at e6
 ·rename_i z
  cases e6;refine .bind rl e1 fun v G1 H1 ev1 r1=>⟨G1,env1,l,env2,ev1.rel,e3,fun G2 H2 ev2=>⟨G2,env2,u,_,ev2.rel,e5,fun G3 H3 ev3=>?_⟩⟩
  simp only[Rep]at r1;obtain⟨rfl,hz⟩:=r1;exact⟨z,rfl,hz,k _ G3 H3 ((ev1.trans ev2).trans ev3) (by simp only[Rep];exact⟨trivial,Qt (a7H z l u) hz⟩)⟩
 ·cases e6
theorem a4y(z:Str):(a0t z none none (-1)).length≤z.length:=by
 unfold a0t;show(List.toArray _).size≤_;rw[Qp];refine Qt (List.length_filterMap_le ..) ?_
 rw[picked_rev,Qk,List.length_range];exact Qw _
theorem b7W{te:TE}(he:PE X e te)(hst:PE X st (tC (.int (-1)))):PE X (.Subscript e (.Slice none none (some st) p2) pos) (fun σ H Q=>te σ H fun x H1=>∃z,x=.str z/\z.length≤sizeLine/\Q (.str (a0t z none none (-1))) H1):=by
 intro pins s σ H Q I h;refine Subscript_ (thn (he pins s σ H _ I h) fun v s1 ⟨x,H1,I1,r1,q1⟩=>?_)
 refine wpAny_Slice ?_
 rw[evalPart_none];refine Qd (Qd ?_);rw[evalPart_some];refine thn (hst pins s1 σ H1 (fun x H2=>x=.int (-1)/\H2=H1) I1 ⟨rfl,rfl⟩) fun vst s3 ⟨y,H3,I3,r3,q3⟩=>?_
 obtain⟨rfl,rfl⟩:=q3;obtain⟨tk,rfl⟩:=r3;obtain⟨z,rfl,hz,q⟩:=q1;obtain⟨t,rfl⟩:=r1;have I4:Inv X pins σ H3 {s3 with heap:=s3.heap.push {cls:=.type "slice",data:=.fields #[.none,.none,.int (-1) tk]}}:=I3.kept (t':=s3.toks) fun b ob q=>Qj _ q
 show wpAny (model X.prog X.w) X.A (subscriptTail e (.Slice none none (some st) p2) (.str z t) (.ref s3.heap.objs.size)) (EP X pins σ Q) X.xe {s3 with heap:=s3.heap.push {cls:=.type "slice",data:=.fields #[.none,.none,.int (-1) tk]}}
 refine tail_any (ops:=[.ref s3.heap.objs.size,.str z t]) (typeIs_str _ z t) PySem.F.slot_str_getitem.lookup ?_ (by with_unfolding_all rfl)
 refine wpAny_getItem_str_slice (l:=none) (u:=none) (st:=some (-1,tk)) ⟨_,Qh _ rfl,rfl,rfl⟩ rfl ?_
 unfold sliceMade slicePicked;show Made.post (if(((-1:Int)==1)&&(Builtin.Str.strSliceIndices none none (-1) z.length).length==z.length)=true then _ else _) _ _
 have e1:((-1:Int)==1)=false:=by decide
 rw[e1,Jk];exact⟨Qt (a4y z) hz,.str (a0t z none none (-1)),H3,I4.tok _,⟨_,rfl⟩,q⟩
def a2V(m:Mo D):Mo D:=fun env=>(m env).bind fun p=>match p.1 with
 |.str z=>some (.str (a0t z none none (-1)),p.2)
 |_=>none
theorem b7X(he:ED X B e ma)(hst:PE X st (tC (.int (-1)))):ED X B (.Subscript e (.Slice none none (some st) p2) pos) (a2V ma):=by
 refine pe_imp (b7W he hst) ?_
 rintro σ H Q ⟨G,env,d,env',rl,e,k⟩;obtain⟨⟨d1,env1⟩,e1,e2⟩:=q1_ e;dsimp only at e2;split at e2
 ·rename_i z
  cases e2;refine .bind rl e1 fun v G1 H1 ev1 r1=>?_
  simp only[Rep]at r1;obtain⟨rfl,hz⟩:=r1;exact⟨z,rfl,hz,k _ G1 H1 ev1 (by simp only[Rep];exact⟨trivial,Qt (a4y z) hz⟩)⟩
 ·cases e2
theorem b7Y:MtM X "dict.get" (fun x vs H Q=>∃(q:Addr) (kvs:List (Key×Key)) (key:Key) (df:V),x=.ref q/\vs=[kV key,df]/\H q=some (.dK (kvs.map fun p=>(p.1,kV p.2)))/\Q (((lkK kvs key).map kV).getD df) H):=by
 intro pins s σ H x vs v us Q I rx rv h;obtain⟨q,kvs,key,df,rfl,rfl,hq,k⟩:=h;cases rx;obtain⟨u,u2,rfl,ru,ru2⟩:=rv.two;obtain⟨_,hsys,xs,kv,dd⟩:=(show x5_ X.prog X.w H s.heap q (.dK _)from I.hok q _ hq)
 refine call_meetsIn PySem.F.slot_dict_get dd.typeIs PySem.F.entry_dict_get (PySem.F.args_dict_get_3 _ _ _) (meets_dict_get_default (g9_ X.prog X.w) q (a1g ru) hsys u2) ⟨_,dd.mapOf,?_⟩;have hr:=a7E key kv;cases hv:lkK kvs key with
 |none=>
  rw[hv]at hr k;have:valueAt xs key=none:=by
   cases h2:valueAt xs key with
   |none=>rfl
   |some w=>rw[h2]at hr;exact False.elim hr
  rw[this];exact⟨df,H,I.tok _,ru2,k⟩
 |some y=>
  rw[hv]at hr k;obtain⟨w',hw,rw'⟩:=a0m.some_of (v:=kV y) (o:=valueAt xs key) hr;rw[hw];exact⟨kV y,H,I.tok _,rw',k⟩
def a5H(md ma mb:Mo D):Mo D:=fun env=>(md env).bind fun o=>(ma o.2).bind fun p=>(mb p.2).bind fun r=>match o.1 with
 |.obj (.dk kvs)=>(a3F p.1).bind fun k=>match lkK kvs k with
  |none=>some (r.1,r.2)
  |some v=>(a0X v).map fun d=>(d,r.2)
 |_=>none
theorem b7Z{e e2 d:Expr}{md:Mo D}{apos cpos:Pos}(ho:ED X B d md)(ha:EDs X B [e,e2] (z2_ ma (z2_ mb z5_)))
  (hbase:attributeBase d "get" X.env (eval d X.env)=eval d X.env:=by rfl)
  (hfew:((backTo cpos (starEach [e,e2] X.env)).all (fun x=>!x.1)&&(backToKw cpos (keywordEach [] X.env)).all (fun x=>x.1.isSome)
   &&decide ([e,e2].length+([]:List Keyword).length+(if([]:List Keyword).isEmpty then 0 else 1)<30))=true:=by rfl)
  (hline:(apos.endLine==cpos.line)=true:=by rfl)(hs:starEach [e,e2] X.env=(false,eval e X.env)::starEach [e2] X.env:=by rfl)(hplain:(backTo cpos (starEach [e2] X.env)).any (·.1)=false:=by rfl):
  ED X B (.Call (.Attribute d "get" apos) [e,e2] [] cpos) (a5H md ma mb):=by
 refine pe_imp (a4c PySem.F.plainAttrs_dict PySem.F.slot_dict_get PySem.F.type_dict_get b7Y ho ha hbase hfew hline hs hplain) ?_
 rintro σ H Q ⟨G,env,d,env',rl,e,k⟩;obtain⟨⟨d0,env0⟩,e0,e⟩:=q1_ e;obtain⟨⟨d1,env1⟩,e1,e2⟩:=q1_ e;obtain⟨⟨d2,env2⟩,e3,e4⟩:=q1_ e2;dsimp only at e1 e3 e4;split at e4
 case h_2=>cases e4
 rename_i kvs;obtain⟨key,e5,e6⟩:=q1_ e4;refine .bind rl e0 fun v0 G0 H0 ev0 r0=>?_
 simp only[Rep]at r0;obtain⟨q,rfl,g0⟩:=r0;refine⟨.inr (.inr (.inl ⟨rfl,.inl ⟨_,ev0.rel.sub _ _ g0⟩⟩)),G0,env0,[d1,d2],env2,ev0.rel,?_,fun us G1 H1 ev r1=>?_⟩
 ·show(ma env0).bind _=_
  rw[e1,Qx];show((z2_ mb z5_) env1).map _=_;show((mb env1).bind _).map _=_;rw[e3]
  rfl
 ·simp only[z6_]at r1
  obtain⟨y1,t1,rfl,s1,y2,t2,rfl,s2,rfl⟩:=r1;have hk:=a5D s1 e5;subst hk;refine⟨q,kvs,key,y2,rfl,rfl,ev.rel.sub _ _ (ev.same _ _ g0),?_⟩;cases hv:lkK kvs key with
  |none=>
   rw[hv]at e6;cases e6;exact k _ G1 H1 (ev0.trans ev) s2
  |some v=>
   rw[hv]at e6;obtain⟨d',e7,e8⟩:=v8_ e6;cases e8;exact k _ G1 H1 (ev0.trans ev) (a7C e7)
def a0k{α:Type}(xs:List α)(i:Nat)(y:α):List α:=xs.take i++y::xs.drop i
theorem b8a:MtM X "list.insert" (fun x vs H Q=>∃l xs i y,x=.ref l/\vs=[.int i,y]/\H l=some (.lst xs)/\0≤i/\i≤xs.length/\xs.length+1≤sizeLine/\i<1000000/\Q .non (upd H l (.lst (a0k xs i.toNat y)))):=by
 intro pins s σ H x vs v us Q I rx rv h;obtain⟨l,xs,i,y,rfl,rfl,hH,h0,h1,hz,hb,q⟩:=h;cases rx;obtain⟨u,u2,rfl,ru,ru2⟩:=rv.two;obtain⟨t,rfl⟩:=ru;obtain⟨z,its,n,r,hl,e⟩:=I.lstM hH;have hf:Builtin.List.listFitsIndex i=true:=fitsIndex_both (by omega) (by omega)
 refine Uc F.slot_list_insert ⟨_,e,rfl⟩ F.entry_list_insert (F.args_list_insert_3 _ _ _) (PySem.AutoSeq1.list_insert_list_int_val_1 l its.toArray n i t u2 (by simp[hf]) (by rw[Qp];omega)) ⟨e,?_⟩
 have hi:¬ i<0:=by omega
 refine⟨.non,_,I.lset (its':=a0k its i.toNat u2) hH e ?_ ?_ ?_,rfl,q⟩
 ·rw[Qr hi,Qp]
  have hm:min i.toNat its.length=i.toNat:=by omega
  rw[hm];unfold a0k
  simp
  rw[Yd (by rw[Vb];exact Qw _)]
 ·unfold a0k
  exact(r.take _).append (.cons ru2 (r.drop _))
 ·unfold a0k
  rw[Qs,Zq,Yw,Vb]
  omega
def a4z(i:Nat)(ma mb:Mo D):Mo Fl:=fun env=>((env[i]?).bind W.mutL).bind fun _=>(ma env).bind fun p=>(mb p.2).bind fun r=>(r.2[i]?).bind fun w=>w.mutL.bind fun ds=>match p.1 with
 |.int k=>if 0≤k/\k≤ds.length/\ds.length<10000 then some (.nx,r.2.set i (w.put (a0k ds k.toNat r.1)))else none
 |_=>none
theorem b8b{e e2:Expr}{i:Nat}{x:Str}{p apos cpos:Pos}(ho:PE X (.Name x p) (a0Q i))(ha:EDs X B [e,e2] (z2_ ma (z2_ mb z5_)))
  (hbase:attributeBase (.Name x p) "insert" X.env (eval (.Name x p) X.env)=eval (.Name x p) X.env:=by rfl)
  (hfew:((backTo cpos (starEach [e,e2] X.env)).all (fun x=>!x.1)&&(backToKw cpos (keywordEach [] X.env)).all (fun x=>x.1.isSome)
   &&decide ([e,e2].length+([]:List Keyword).length+(if([]:List Keyword).isEmpty then 0 else 1)<30))=true:=by rfl)
  (hline:(apos.endLine==cpos.line)=true:=by rfl)(hs:starEach [e,e2] X.env=(false,eval e X.env)::starEach [e2] X.env:=by rfl)(hplain:(backTo cpos (starEach [e2] X.env)).any (·.1)=false:=by rfl)
  (hsw:swapsWith (.Call (.Attribute (.Name x p) "insert" apos) [e,e2] [] cpos) none pos.line X.env=pure false:=by rfl):
  ES X B (.Expr (.Call (.Attribute (.Name x p) "insert" apos) [e,e2] [] cpos) pos) (a4z i ma mb):=by
 refine ps_imp (a6f (a4c Js PySem.F.slot_list_insert PySem.F.type_list_insert b8a ho ha hbase hfew hline hs hplain) hsw) ?_
 rintro D σ H ⟨G,env,fl,env',rl,e,k⟩;obtain⟨ds0,e0,e⟩:=q1_ e;obtain⟨w0,e00,em0⟩:=q1_ e0;obtain⟨⟨d1,env1⟩,e1,e2⟩:=q1_ e;obtain⟨⟨d2,env2⟩,e3,e4⟩:=q1_ e2;obtain⟨w,e5,e6⟩:=q1_ e4;obtain⟨ds,e7,e8⟩:=q1_ e6;dsimp only at e3 e5 e8;split at e8
 case h_2=>cases e8
 rename_i n;split at e8
 case isFalse=>cases e8
 rename_i hn;cases e8;obtain⟨q,xs0,h1,h2,h3,h4⟩:=rl.ownL i w0 ds0 e00 em0;refine⟨_,h1,.inl ⟨rfl,xs0,.inl (.inl h2)⟩,G,env,[.int n,d2],env2,rl,?_,fun us G1 H1 ev r1=>?_⟩
 ·show(ma env).bind _=_
  rw[e1,Qx];show((z2_ mb z5_) env1).map _=_;show((mb env1).bind _).map _=_;rw[e3]
  rfl
 ·simp only[z6_]at r1
  obtain⟨y1,t1,rfl,s1,y2,t2,rfl,s2,rfl⟩:=r1;simp only[Rep]at s1;subst s1;obtain⟨q',xs,g1,g2,g3,g4⟩:=ev.rel.ownL i w ds e5 e7;rw[h1]at g1;cases g1;have hl:xs.length=ds.length:=g3.length;have hz:xs.length+1≤sizeLine:=by rw[hl];exact Qt hn.2.2 (by decide)
  exact⟨q,xs,n,y2,rfl,rfl,g2,hn.1,by rw[hl];exact hn.2.1,hz,by omega,k _ G1 _ (ev.write e5 e7 h1 ((g3.take _).append (repL_cons s2 (g3.drop _))))⟩
end
end L2.Mir
namespace L2.Mir
open PySem L2
abbrev rgD(n:Nat):List D:=(List.range n).map fun(i:Nat)=>D.int (i:Int)
theorem b8c(n:Nat):a0d 0 n=rgD n:=by
 unfold a0d rgD;exact Yp fun i _=>by simp
theorem b1p{M:Mo D}{e e1:Env'}{n:Nat}{j:Int}(hM:M e=some (.int j,e1))(hj:j=(n:Int))(hn:n≤10000):j2_ (z2_ M z5_) e=some (rgD n,e1):=by
 subst hj;have:=a4t (ms:=z2_ M z5_) (env:=e) (e1:=e1) (j:=(n:Int)) (by unfold z2_ z5_;rw[hM];rfl) (by omega) (by omega)
 rw[this,Yc,b8c]
theorem b8d{base:Env'}{w v:W}{k:Nat}(h:base.length=k):(base++[w]).set k v=base++[v]:=by
 subst h;simp
theorem b8e{base:Env'}{w w2 v v2:W}{k:Nat}(h:base.length=k):((base++[w,w2]).set k v).set (k+1) v2=base++[v,v2]:=by
 subst h;rw[List.set_append_right _ _ (Qw _),Nat.sub_self,List.set_append_right _ _ (by omega)]
 simp
theorem b1q{α:Type}{t:Mo Bool}{m:Mo D}{base:Env'}{q f:α->D}{p:α->Bool}{k:Nat}(hk:base.length=k):∀{l:List α},(∀a∈l,t (base++[.dat (q a)])=some (p a,base++[.dat (q a)])/\(p a=true->m (base++[.dat (q a)])=some (f a,base++[.dat (q a)])))->∀w,∃w',k9_ (gN k) t m (l.map q) (base++[w])=some ((l.filter p).map f,base++[w'])
 |[],_,w=>⟨w,rfl⟩
 |a::l,h,w=>by
  obtain⟨h1,h2⟩:=h a (by simp)
  obtain⟨w',e⟩:=b1q hk (l:=l) (fun x hx=>h x (by simp[hx])) (.dat (q a))
  refine⟨w',?_⟩;rw[Qg];unfold k9_ gN;rw[Qx,b8d hk,h1,Qx];cases hp:p a with
  |false=>simp only[Zn,Jv];rw[Jt (by simp[hp])];exact e
  |true=>
   simp only[Zs];rw[h2 hp,Qx,Ja hp,Qg];show(k9_ (gN k) t m (l.map q) (base++[.dat (q a)])).map _=_;rw[e];rfl
theorem b8f{α:Type}{mi:Mo (List D)}{keep:List Bool}{t:Mo Bool}{m:Mo D}{env base:Env'}{l:List α}{q f:α->D}{p:α->Bool}{k:Nat}(hi:mi env=some (l.map q,env))(hl:l.length≤100000)(hb:w6_ keep 0 env=base)(hk:base.length=k)
  (h:∀a∈l,t (base++[.dat (q a)])=some (p a,base++[.dat (q a)])/\(p a=true->m (base++[.dat (q a)])=some (f a,base++[.dat (q a)])))(ho:∀w,w7_ keep env (base++[w])=some env):v6_ mi keep 1 (gN k) t m env=some ((l.filter p).map f,env):=by
 obtain⟨w',e⟩:=b1q hk h .nil;refine a2d hi (by simpa using hl) (e2:=base++[w']) ?_ (ho w')
 have:w6_ keep 1 env=base++[.nil]:=by rw[←hb];unfold w6_;simp
 rw[this];exact e
theorem a3K{α:Type}{mi:Mo (List D)}{keep:List Bool}{m:Mo D}{env base:Env'}{l:List α}{q f:α->D}{k:Nat}(hi:mi env=some (l.map q,env))(hl:l.length≤100000)(hb:w6_ keep 0 env=base)(hk:base.length=k)
  (h:∀a∈l,m (base++[.dat (q a)])=some (f a,base++[.dat (q a)]))(ho:∀w,w7_ keep env (base++[w])=some env):v6_ mi keep 1 (gN k) v9_ m env=some (l.map f,env):=by
 have:=b8f (p:=fun _=>true) (t:=v9_) hi hl hb hk (fun a ha=>⟨rfl,fun _=>h a ha⟩) ho
 rw[this,List.filter_eq_self.mpr (fun _ _=>rfl)]
theorem b1r{α:Type}{t:Mo Bool}{m:Mo D}{base:Env'}{q q2 f:α->D}{p:α->Bool}{k:Nat}(hk:base.length=k):∀{l:List α},(∀a∈l,t (base++[.dat (q a),.dat (q2 a)])=some (p a,base++[.dat (q a),.dat (q2 a)])/\(p a=true->m (base++[.dat (q a),.dat (q2 a)])=some (f a,base++[.dat (q a),.dat (q2 a)])))->∀w w2,∃w' w2',k9_ (gT 2 (gCn (gN k) (gCn (gN (k+1)) gNl))) t m (l.map fun a=>.tup [q a,q2 a]) (base++[w,w2])=some ((l.filter p).map f,base++[w',w2'])
 |[],_,w,w2=>⟨w,w2,rfl⟩
 |a::l,h,w,w2=>by
  obtain⟨h1,h2⟩:=h a (by simp)
  obtain⟨w',w2',e⟩:=b1r hk (l:=l) (fun x hx=>h x (by simp[hx])) (.dat (q a)) (.dat (q2 a))
  refine⟨w',w2',?_⟩;rw[Qg];unfold k9_;have hg:gT 2 (gCn (gN k) (gCn (gN (k+1)) gNl)) (.tup [q a,q2 a]) (base++[w,w2])=some (base++[.dat (q a),.dat (q2 a)]):=by
   show some (((base++[w,w2]).set k _).set (k+1) _)=_;rw[b8e hk]
  rw[hg,Qx,h1,Qx];cases hp:p a with
  |false=>simp only[Zn,Jv];rw[Jt (by simp[hp])];exact e
  |true=>
   simp only[Zs];rw[h2 hp,Qx,Ja hp,Qg];show(k9_ _ t m (l.map _) (base++[.dat (q a),.dat (q2 a)])).map _=_;rw[e];rfl
theorem b8g{α:Type}{mi:Mo (List D)}{keep:List Bool}{t:Mo Bool}{m:Mo D}{env base:Env'}{l:List α}{q q2 f:α->D}{p:α->Bool}{k:Nat}(hi:mi env=some (l.map (fun a=>.tup [q a,q2 a]),env))(hl:l.length≤100000)(hb:w6_ keep 0 env=base)(hk:base.length=k)
  (h:∀a∈l,t (base++[.dat (q a),.dat (q2 a)])=some (p a,base++[.dat (q a),.dat (q2 a)])/\(p a=true->m (base++[.dat (q a),.dat (q2 a)])=some (f a,base++[.dat (q a),.dat (q2 a)])))(ho:∀w w2,w7_ keep env (base++[w,w2])=some env):
  v6_ mi keep 2 (gT 2 (gCn (gN k) (gCn (gN (k+1)) gNl))) t m env=some ((l.filter p).map f,env):=by
 obtain⟨w',w2',e⟩:=b1r hk h .nil .nil;refine a2d hi (by simpa using hl) (e2:=base++[w',w2']) ?_ (ho w' w2')
 have:w6_ keep 2 env=base++[.nil,.nil]:=by rw[←hb];unfold w6_;simp
 rw[this];exact e
theorem b8h{α:Type}{mi:Mo (List D)}{keep:List Bool}{m:Mo D}{env base:Env'}{l:List α}{q q2 f:α->D}{k:Nat}(hi:mi env=some (l.map (fun a=>.tup [q a,q2 a]),env))(hl:l.length≤100000)(hb:w6_ keep 0 env=base)(hk:base.length=k)
  (h:∀a∈l,m (base++[.dat (q a),.dat (q2 a)])=some (f a,base++[.dat (q a),.dat (q2 a)]))(ho:∀w w2,w7_ keep env (base++[w,w2])=some env):v6_ mi keep 2 (gT 2 (gCn (gN k) (gCn (gN (k+1)) gNl))) v9_ m env=some (l.map f,env):=by
 have:=b8g (p:=fun _=>true) (t:=v9_) hi hl hb hk (fun a ha=>⟨rfl,fun _=>h a ha⟩) ho
 rw[this,List.filter_eq_self.mpr (fun _ _=>rfl)]
theorem b1s{g:OZ}{b:Mo Fl}:∀{ds:List D}{P:Nat->Env'->Prop}{env:Env'},(∀i d e,ds[i]? =some d->P i e->∃e1 e2,g d e=some e1/\b e1=some (.nx,e2)/\P (i+1) e2)->P 0 env->∃env',loop g b ds env=some (.nx,env')/\P ds.length env'
 |[],P,env,_,p=>⟨env,rfl,p⟩
 |d::ds,P,env,h,p=>by
  obtain⟨e1,e2,h1,h2,h3⟩:=h 0 d env rfl p;obtain⟨e3,h4,h5⟩:=b1s (ds:=ds) (P:=fun i e=>P (i+1) e) (fun i x e hi q=>h (i+1) x e (by simpa using hi) q) h3
  refine⟨e3,?_,h5⟩;unfold loop;rw[h1];simp only[Qx];rw[h2];exact h4
theorem b1t{g:OZ}{b:Mo Fl}{n:Nat}(P:Nat->Env'->Prop){env:Env'}(h:∀i<n,∀e,P i e->∃e1 e2,g (.int (i:Int)) e=some e1/\b e1=some (.nx,e2)/\P (i+1) e2)(p:P 0 env):∃env',loop g b (rgD n) env=some (.nx,env')/\P n env':=by
 obtain⟨e',h1,h2⟩:=b1s (ds:=rgD n) (g:=g) (b:=b) (P:=P) (env:=env) (fun i d e hi q=>by
  unfold rgD at hi;rw[Zi]at hi
  by_cases hl:i<n
  ·rw[List.getElem?_range hl]at hi
   cases hi;exact h i hl e q
  ·rw[List.getElem?_eq_none (by simpa using hl)]at hi;cases hi) p
 refine⟨e',h1,?_⟩;have:(rgD n).length=n:=by simp[rgD]
 rw[this]at h2;exact h2
theorem b8i(l:List Int):ints? (l.map D.int)=some l:=by
 induction l with
 |nil=>rfl
 |cons a l ih=>show(ints? (l.map D.int)).map _=_;rw[ih];rfl
theorem y9_{m n:Mo Fl}{e e1:Env'}{r:Option (Fl×Env')}(h:m e=some (.nx,e1))(h2:n e1=r):z9_ m n e=r:=by unfold z9_;rw[h];exact h2
theorem a0Z{t:Mo Bool}{m n:Mo Fl}{e e1:Env'}{r:Option (Fl×Env')}(h:t e=some (true,e1))(h2:m e1=r):v1_ t m n e=r:=by unfold v1_;rw[h];exact h2
theorem w0_{t:Mo Bool}{m n:Mo Fl}{e e1:Env'}{r:Option (Fl×Env')}(h:t e=some (false,e1))(h2:n e1=r):v1_ t m n e=r:=by unfold v1_;rw[h];exact h2
theorem b8j{i:Nat}{m:Mo D}{env env':Env'}{w w':W}{d:D}{ds ds':List D}(h0:env[i]? =some w')(h00:w'.mutL=some ds')(h:m env=some (d,env'))(h1:env'[i]? =some w)(h2:w.mutL=some ds)(hl:ds.length<100000):a2F i m env=some (.nx,env'.set i (w.put (ds++[d]))):=by
 unfold a2F;rw[h0];simp only[Qx,h00,h,h1,h2];rw[Qn hl]
theorem a4A{n:Nat}{f:Fn}{as:Mo (List Ar)}{env e1:Env'}{av:List Ar}{r:D}{ws':List W}(h:as env=some (av,e1))(hn:av.length=n)(hs:slots av=[])(hf:f (av.map (j8_ (.l [])))=some (.d r,ws')):mCD n f as env=some (r,e1):=a0J (a2e h hn hs hf)
theorem b1u{names:List Str}{keep:List Bool}{mb:Mo D}{xb:Mx}{fr:Option Str->Option D}{env lw:Env'}{n:Str}{d:D}(hw:a2i keep env=lw)(hx:xb lw=some n)(hn:names.contains n=true)(hf:fr (some n)=some d):a2j names keep mb xb fr env=some (d,env):=by
 unfold a2j outcome;rw[hw,hx];simp only[hn,Zs,Qx];rw[hf];rfl
theorem b8k{C N:Nat}(hC:1≤C)(hC2:C≤900){body last:Mo Fl}{ns:List Int}(hb:∀k:Nat,k<1000->∀ws:List W,ws.length=N->∃ws':List W,ws'.length=N+1/\body (.dat (.lst (ns.map D.int))::.dat (.int (k:Int))::ws)=some (.nx,.dat (.lst (ns.map D.int))::ws'))
  (hl:∀ws:List W,ws.length=N+1->∃e,last (.dat (.lst (ns.map D.int))::ws)=some (.ret (.bl true),e)):
  ∃ws',fnM (N+2) (z9_ (j3_ (j2_ (z2_ (mCB a3u (z2_ (mC (.int 1)) (z2_ (mCB a3v (z2_ (mCB v5_ (z2_ (z0_ 0) z5_)) (z2_ (mC (.int (C:Int))) z5_))) z5_))) z5_)) (gN 1) body) last) [.dat (.lst (ns.map D.int))]=some (.d (.bl true),ws'):=by
 obtain⟨K,hK,hr⟩:∃K:Nat,K≤C/\(j2_ (z2_ (mCB a3u (z2_ (mC (.int 1)) (z2_ (mCB a3v (z2_ (mCB v5_ (z2_ (z0_ 0) z5_)) (z2_ (mC (.int (C:Int))) z5_))) z5_))) z5_)) (.dat (.lst (ns.map D.int))::List.replicate (N+1) .nil)=some (rgD K,.dat (.lst (ns.map D.int))::List.replicate (N+1) .nil):=by
  let q:Int:=if(C:Int)<(ns.length:Int)then C else(ns.length:Int)
  let p:Int:=if q>1 then q else 1
  have hq:q≤C:=by simp only[q];split<;>omega
  have hp:1≤p/\p≤C:=by simp only[p];split<;>omega
  refine⟨p.toNat,by omega,b1p (j:=p) (a0q (k2_ rfl (k2_ (a0q (k2_ (a0q (k2_ rfl rfl) (show v5_ [.lst (ns.map .int)]=some (.int (ns.length:Int))from ?_)) (k2_ rfl rfl)) (show a3v [.int (ns.length:Int),.int C]=some (.int q)from rfl)) rfl)) (show a3u [.int 1,.int q]=some (.int p)from rfl)) (by omega) (by omega)⟩
  show some (D.int ((ns.map D.int).length:Nat))=_;rw[Qk]
 obtain⟨e',h1,ws,hws,rfl⟩:=b1t (g:=gN 1) (b:=body) (n:=K) (fun _ e=>∃ws:List W,ws.length=N+1/\e=.dat (.lst (ns.map D.int))::ws) (env:=.dat (.lst (ns.map D.int))::List.replicate (N+1) .nil)
  (fun i hi e ⟨ws,hw,he⟩=>by
   subst he
   match ws,hw with
   |w::ws,hw=>
    obtain⟨ws',h1,h2⟩:=hb i (by omega) ws (by simpa using hw)
    exact⟨_,_,rfl,h2,ws',h1,rfl⟩) ⟨_,by simp,rfl⟩
 obtain⟨e2,h2⟩:=hl ws hws;refine⟨_,w3_ (d:=.bl true) (env:=e2) ?_⟩;show z9_ _ _ (.dat (.lst (ns.map D.int))::List.replicate (N+1) .nil)=_;exact y9_ ((a3B hr).trans h1) h2
theorem b1v{n:Nat}{g:List W->Option Str}{as:Mo (List Ar)}{env e1:Env'}{av:List Ar}{r:Option Str}(h:as env=some (av,e1))(hn:av.length=n)(hs:slots av=[])(hg:g (av.map (j8_ (.l [])))=r):a2g n g as env=r:=by
 unfold a2g;rw[h,Qx];simp only[hn,Zs,hs];exact hg
theorem b8l{α:Type}(z:α->List Int):∀l:List α,(l.flatMap z).sum=(l.map fun x=>(z x).sum).sum
 |[]=>rfl
 |x::l=>by rw[Ub,List.sum_append,b8l z l,Qg,Ym]
theorem b1w{α β:Type}(f:α->β):∀l:List α,(l.flatMap fun x=>[f x])=l.map f
 |[]=>rfl
 |x::l=>by rw[Ub,b1w f l];rfl
theorem b8m{ms:Mo (List D)}{env e1:Env'}{ds:List D}(h:ms env=some (ds,e1))(hl:ds.length≤1000):x7_ ms env=some (.tup ds,e1):=by unfold x7_;rw[h,Qx];simp only[hl,Zs]
theorem b8n{α:Type}(l:List α)(p q:α->D):a1n (l.map p) (l.map q)=l.map fun a=>.tup [p a,q a]:=by
 unfold a1n
 induction l with
 |nil=>rfl
 |cons a l ih=>rw[Qg,Qg,List.zip_cons_cons,Qg,ih,Qg]
theorem b8o{ms:Mo (List D)}{e e1:Env'}{a b:D}{α:Type}{l:List α}{p q:α->D}(h:ms e=some ([a,b],e1))(ha:a.items=some (l.map p))(hb:b.items=some (l.map q)):a1o ms e=some (l.map fun a=>.tup [p a,q a],e1):=by
 unfold a1o;rw[h];show a.items.bind _=_;rw[ha];show b.items.map _=_;rw[hb,Xg,b8n]
theorem b1x{m n:Mo D}{e e1:Env'}{r:Option (D×Env')}(h:m e=some (.bl true,e1))(h2:n e1=r):a0x m n e=r:=by unfold a0x;rw[h];exact h2
theorem b8p{m n:Mo D}{e e1:Env'}(h:m e=some (.bl true,e1)):a1T m n e=some (.bl true,e1):=by unfold a1T;rw[h];rfl
theorem b8q{m n:Mo D}{e e1:Env'}{r:Option (D×Env')}(h:m e=some (.bl false,e1))(h2:n e1=r):a1T m n e=r:=by unfold a1T;rw[h];exact h2
theorem a0u{i:Nat}{m:Mo D}{env e1 e2:Env'}{d:D}(h:m env=some (d,e1))(he:e1.set i (.dat d)=e2):v2_ i m env=some (.nx,e2):=by rw[a0V h,he]
theorem a5I{i:Nat}{m:Mo (List D)}{env e1 e2:Env'}{d:List D}(h:m env=some (d,e1))(he:e1.set i (.own d)=e2):u7_ i m env=some (.nx,e2):=by rw[b0D h,he]
theorem a2l{N:Nat}{mb:Mo Fl}{ws env ws':List W}{d:D}(h:mb (ws++List.replicate (N-ws.length) .nil)=some (.ret d,env))(he:a0B ws env=ws'):fnM N mb ws=some (.d d,ws'):=by rw[w3_ h,he]
abbrev up(a n:Nat):List Nat:=(List.range (n-a)).map (a+ ·)
end L2.Mir
namespace L2.Mir
open PySem PySem.W
structure DfAt(K:Frag)(x:Str)(st:Stmt)(f:Addr)(pm:Value)(cd:Addr):Prop where
 a:nsIn K mainGlobals x=some (some (.ref f))
 l:K.lookup f=some ⟨.type "function",none,.func (fnOf x x (a2y st) (a0F st) (v7_ st) .none .none .none pm none (.ref cd) .none),⟨[]⟩⟩
 c:codeIn K (.ref cd) x=true
 k:keepIn K (.ref f)=true
theorem DfAt.f{K:Frag}{x:Str}{st:Stmt}{f:Addr}{pm:Value}{cd:Addr}(A:DfAt K x st f pm cd):Fun K x x st f (fnOf x x (a2y st) (a0F st) (v7_ st) .none .none .none pm none (.ref cd) .none):=b4K A.l A.c A.k
theorem DfAt.g{K:Frag}{x:Str}{st:Stmt}{f:Addr}{pm:Value}{cd:Addr}{h:Heap}{mg:OU}(A:DfAt K x st f pm cd)(X:K.In h)(G:h.Ns mainGlobals mg):mg x=some (.ref f):=mg_of X G A.a
end L2.Mir
namespace K92
open PySem L2 L2.Mir
def top(i:Nat):Stmt:=PySem.Challenge.pw_turnsigns_k92_texts_that_write_none.main.body.getD i (.Pass ⟨0,0,0,0⟩)
abbrev a7I:Stmt:=top 16
abbrev a7J:Stmt:=top 17
abbrev a7K:Stmt:=top 18
abbrev a7L:Stmt:=top 19
abbrev a7M:Stmt:=top 20
abbrev a7N:Stmt:=top 23
abbrev a7O:Stmt:=top 24
abbrev a7P:Stmt:=top 27
abbrev a7Q:Stmt:=top 28
abbrev a5J:Stmt:=top 29
abbrev a7R:Stmt:=top 31
abbrev a7S:Stmt:=top 32
abbrev a7T:Stmt:=top 33
abbrev a7U:Stmt:=top 34
abbrev a7V:Stmt:=top 35
abbrev a7W:Stmt:=top 36
abbrev a7X:Stmt:=top 37
abbrev a7Y:Stmt:=top 38
abbrev a7Z:Stmt:=top 39
abbrev a8a:Stmt:=top 40
abbrev a8b:Stmt:=top 41
abbrev a8c:Stmt:=top 42
abbrev a8d:Stmt:=top 43
abbrev a3L:Stmt:=top 44
abbrev xN:List Str:=["NoTable","NoHeights","NoNet","NoPlace","NoTriangle","NoRow","NoNumber","NoTurn","NotAlike","NoStep","NoRows","TooMany","BadNote"]
structure Txt(K:Qq)(mg:OU):Prop where
 ex:a1p K "SignError" xN=true
 g_isinstance:mg "isinstance"=none
 g_int:mg "int"=none
 g_bool:mg "bool"=none
 g_all:mg "all"=none
 g_tuple:mg "tuple"=none
 g_len:mg "len"=none
 g_range:mg "range"=none
 g_str:mg "str"=none
 g_ValueError:mg "ValueError"=none
 g_sum:mg "sum"=none
 g_sorted:mg "sorted"=none
 g_zip:mg "zip"=none
 g_list:mg "list"=none
 g_min:mg "min"=none
 g_max:mg "max"=none
 c_GREATEST_SIDE:∃t,mg "GREATEST_SIDE"=some (.int 6 t)
section
variable{P:Program}{w:World}{K:Qq}{mg:OU}{base:Heap}
theorem b8r:FnScope ["thing"] ["thing"] (v7_ a7I):=k8_
def b8s:Mo Fl:=(q7_ (a0x (mIs "int" (z0_ 0)) (a5f (mIs "bool" (z0_ 0)))))
def a1I:Fn:=fnM 1 b8s
theorem b8t{f:Addr}{fd:FuncData}(F:Fun K "is_whole" "is_whole" a7I f fd)(T:Txt K mg):FnOk P w K mg base CX0 1 f fd ["thing"] (SpF K 1 a1I):=
 w2_ F b8r fun cdv A outer s H E hr=>(@q8_ _ _ _ _ (@y0_ _ _ _ _ _ (@a3n _ _ _ _ _ _ _ _ (@u8_ _ _ _ _ _ _ _ _ _ (by exact b0f) (@z4_ _ _ _ _ _ (pv 0)) (by exact rfl) (by exact T.g_isinstance) (by exact rfl) (by exact T.g_int) (by exact a7g) (by decide) (by decide) (by exact se2 rfl rfl)) (@a3m _ _ _ _ _ _ (@a9L _ _ _ _ _ (@u8_ _ _ _ _ _ _ _ _ _ (by exact a5p) (@z4_ _ _ _ _ _ (pv 0)) (by exact rfl) (by exact T.g_isinstance) (by exact rfl) (by exact T.g_bool) (by exact a5w) (by decide) (by decide) (by exact se2 rfl rfl)))))))
theorem b8u:FnScope ["thing","width"] ["thing","width"] (v7_ a7J):=k8_
theorem nd1:(["-0","-1","number"]:List Str).Nodup:=by decide+kernel
def a8e:Mo Fl:=(z9_ (v1_ (j1_ (y2_ (mT (mIs "tuple" (z0_ 0)))) (mT (z3_ (dEq true) (mCB v5_ (z2_ (z0_ 0) z5_)) (z0_ 1)))) (q7_ (mC (.bl false))) mNx) (q7_ (mCB a1m (z2_ (mF (v6_ (y6_ (z0_ 0)) [false,false] 1 (gN 2) v9_ (mCD 1 a1I (z7_ (z0_ 2) q0_)))) z5_))))
def a1q:Fn:=fnM 2 a8e
theorem b8v{f:Addr}{fd:FuncData}(F:Fun K "is_row" "is_row" a7J f fd)(T:Txt K mg)(d_is_whole:Def P w K mg base "is_whole" 1 1 a1I):FnOk P w K mg base CX0 2 f fd ["thing","width"] (SpF K 2 a1q):=
 w2_ F b8u fun cdv A outer s H E hr=>(@v0_ _ _ _ _ _ _ (@x2_ _ _ _ _ _ _ _ _ _ (@a1S _ _ _ _ (@a2D _ _ _ _ _ _ _ _ (@g4_ _ _ _ _ _ (@g3_ _ _ _ _ (@u8_ _ _ _ _ _ _ _ _ _ (by exact a2a) (@z4_ _ _ _ _ _ (pv 0)) (by exact rfl) (by exact T.g_isinstance) (by exact rfl) (by exact T.g_tuple) (by exact a0b) (by decide) (by decide) (by exact se2 rfl rfl)) (by intro _;rfl))) (@a2C _ _ _ _ _ (@w5_ _ _ _ _ _ _ _ _ _ _ (by exact(op_neD hr.units)) (by exact opd_eq) (@x8_ _ _ _ _ _ _ _ _ _ _ _ (by exact g2_) (by exact u1_) (by exact rfl) (by exact T.g_len) (by exact Zw) (@z8_ _ _ _ _ _ _ (@z4_ _ _ _ _ _ (pv 0)) (@q5_ _ _) (by exact z1_ rfl)) (by decide) (by decide) (by exact z1_ rfl) (by exact q2_ rfl)) (@z4_ _ _ _ _ _ (pv 1)) (by exact(nomark _)))))) (@q8_ _ _ _ _ (@y0_ _ _ _ _ _ (@w9_ _ _ _ _ _))) (@k0_ _ _)) (@q8_ _ _ _ _ (@y0_ _ _ _ _ _ (@x8_ _ _ _ _ _ _ _ _ _ _ _ (by exact(a3s rfl)) (by exact a3t) (by exact rfl) (by exact T.g_all) (by exact a3z) (@z8_ _ _ _ _ _ _ (@x6_ _ _ _ _ (@g7_ _ _ ["-0","-1","number"] _ [false,false] 1 _ _ _ _ _ _ _ _ _ (by exact(w8_ rfl rfl)) (by exact rfl) (@g5_ _ _ _ _ _ (@z4_ _ _ _ _ _ (pv 0))) (fun s H fp=>(@x1_ _ _ _ _ 2 _ (by exact(show 2≤2 by decide)) (by exact nd1) (by exact rfl) (by first|exact Or.inl rfl|exact Or.inr rfl) (by first|exact .inl rfl|exact .inr rfl|assumption))) (fun s H fp=>(@u3_ _ _)) (fun s H fp=>(@x0_ _ _ _ _ _ _ _ _ _ _ _ (by exact d_is_whole) (by exact(hr.mono (show 1≤1 by decide))) (by exact rfl) (@v4_ _ _ _ _ _ _ (@z4_ _ _ _ _ _ (pv 2)) (@y5_ _ _) (by exact z1_ rfl)) (by decide) (by exact z1_ rfl) (by exact q2_ rfl))) (by intro _;rfl))) (@q5_ _ _) (by exact z1_ rfl)) (by decide) (by decide) (by exact z1_ rfl) (by exact q2_ rfl)))))
theorem b8w:FnScope ["thing","many","width"] ["thing","many","width"] (v7_ a7K):=k8_
theorem nd2:(["-0","-1","width","row"]:List Str).Nodup:=by decide+kernel
def a4B:Mo Fl:=(z9_ (v1_ (j1_ (y2_ (mT (mIs "tuple" (z0_ 0)))) (mT (z3_ (dEq true) (mCB v5_ (z2_ (z0_ 0) z5_)) (z0_ 1)))) (q7_ (mC (.bl false))) mNx) (q7_ (mCB a1m (z2_ (mF (v6_ (y6_ (z0_ 0)) [false,false,true] 1 (gN 3) v9_ (mCD 2 a1q (z7_ (z0_ 3) (z7_ (z0_ 2) q0_))))) z5_))))
def a3M:Fn:=fnM 3 a4B
theorem b8x{f:Addr}{fd:FuncData}(F:Fun K "is_grid" "is_grid" a7K f fd)(T:Txt K mg)(d_is_row:Def P w K mg base "is_row" 2 2 a1q):FnOk P w K mg base CX0 3 f fd ["thing","many","width"] (SpF K 3 a3M):=
 w2_ F b8w fun cdv A outer s H E hr=>(@v0_ _ _ _ _ _ _ (@x2_ _ _ _ _ _ _ _ _ _ (@a1S _ _ _ _ (@a2D _ _ _ _ _ _ _ _ (@g4_ _ _ _ _ _ (@g3_ _ _ _ _ (@u8_ _ _ _ _ _ _ _ _ _ (by exact a2a) (@z4_ _ _ _ _ _ (pv 0)) (by exact rfl) (by exact T.g_isinstance) (by exact rfl) (by exact T.g_tuple) (by exact a0b) (by decide) (by decide) (by exact se2 rfl rfl)) (by intro _;rfl))) (@a2C _ _ _ _ _ (@w5_ _ _ _ _ _ _ _ _ _ _ (by exact(op_neD hr.units)) (by exact opd_eq) (@x8_ _ _ _ _ _ _ _ _ _ _ _ (by exact g2_) (by exact u1_) (by exact rfl) (by exact T.g_len) (by exact Zw) (@z8_ _ _ _ _ _ _ (@z4_ _ _ _ _ _ (pv 0)) (@q5_ _ _) (by exact z1_ rfl)) (by decide) (by decide) (by exact z1_ rfl) (by exact q2_ rfl)) (@z4_ _ _ _ _ _ (pv 1)) (by exact(nomark _)))))) (@q8_ _ _ _ _ (@y0_ _ _ _ _ _ (@w9_ _ _ _ _ _))) (@k0_ _ _)) (@q8_ _ _ _ _ (@y0_ _ _ _ _ _ (@x8_ _ _ _ _ _ _ _ _ _ _ _ (by exact(a3s rfl)) (by exact a3t) (by exact rfl) (by exact T.g_all) (by exact a3z) (@z8_ _ _ _ _ _ _ (@x6_ _ _ _ _ (@g7_ _ _ ["-0","-1","width","row"] _ [false,false,true] 1 _ _ _ _ _ _ _ _ _ (by exact(w8_ rfl rfl)) (by exact rfl) (@g5_ _ _ _ _ _ (@z4_ _ _ _ _ _ (pv 0))) (fun s H fp=>(@x1_ _ _ _ _ 3 _ (by exact(show 3≤3 by decide)) (by exact nd2) (by exact rfl) (by first|exact Or.inl rfl|exact Or.inr rfl) (by first|exact .inl rfl|exact .inr rfl|assumption))) (fun s H fp=>(@u3_ _ _)) (fun s H fp=>(@x0_ _ _ _ _ _ _ _ _ _ _ _ (by exact d_is_row) (by exact(hr.mono (show 2≤2 by decide))) (by exact rfl) (@v4_ _ _ _ _ _ _ (@z4_ _ _ _ _ _ (pv 3)) (@v4_ _ _ _ _ _ _ (@z4_ _ _ _ _ _ (pv 2)) (@y5_ _ _) (by exact z1_ rfl)) (by exact z1_ rfl)) (by decide) (by exact z1_ rfl) (by exact q2_ rfl))) (by intro _;rfl))) (@q5_ _ _) (by exact z1_ rfl)) (by decide) (by decide) (by exact z1_ rfl) (by exact q2_ rfl)))))
theorem b8y:FnScope ["thing","least","greatest"] ["thing","least","greatest"] (v7_ a7L):=k8_
def a4C:Mo Fl:=(z9_ (v1_ (j1_ (y2_ (mT (mIs "tuple" (z0_ 0)))) (y2_ (mT (a0y dLe dLe (z0_ 1) (mCB v5_ (z2_ (z0_ 0) z5_)) (z0_ 2))))) (q7_ (mC (.bl false))) mNx) (q7_ (mCD 3 a3M (z7_ (z0_ 0) (z7_ (mCB v5_ (z2_ (z0_ 0) z5_)) (z7_ (mCB v5_ (z2_ (z0_ 0) z5_)) q0_))))))
def a2W:Fn:=fnM 3 a4C
theorem b8z{f:Addr}{fd:FuncData}(F:Fun K "is_square" "is_square" a7L f fd)(T:Txt K mg)(d_is_grid:Def P w K mg base "is_grid" 3 3 a3M):FnOk P w K mg base CX0 4 f fd ["thing","least","greatest"] (SpF K 3 a2W):=
 w2_ F b8y fun cdv A outer s H E hr=>(@v0_ _ _ _ _ _ _ (@x2_ _ _ _ _ _ _ _ _ _ (@a1S _ _ _ _ (@a2D _ _ _ _ _ _ _ _ (@g4_ _ _ _ _ _ (@g3_ _ _ _ _ (@u8_ _ _ _ _ _ _ _ _ _ (by exact a2a) (@z4_ _ _ _ _ _ (pv 0)) (by exact rfl) (by exact T.g_isinstance) (by exact rfl) (by exact T.g_tuple) (by exact a0b) (by decide) (by decide) (by exact se2 rfl rfl)) (by intro _;rfl))) (@a2C _ _ _ _ _ (@g4_ _ _ _ _ _ (@a5g _ _ _ _ _ _ _ _ _ _ _ _ _ _ _ (by exact a1e) (by exact a1e) (by exact a1h) (by exact a1h) (@z4_ _ _ _ _ _ (pv 1)) (@x8_ _ _ _ _ _ _ _ _ _ _ _ (by exact g2_) (by exact u1_) (by exact rfl) (by exact T.g_len) (by exact Zw) (@z8_ _ _ _ _ _ _ (@z4_ _ _ _ _ _ (pv 0)) (@q5_ _ _) (by exact z1_ rfl)) (by decide) (by decide) (by exact z1_ rfl) (by exact q2_ rfl)) (@z4_ _ _ _ _ _ (pv 2)) (by with_unfolding_all rfl)))))) (@q8_ _ _ _ _ (@y0_ _ _ _ _ _ (@w9_ _ _ _ _ _))) (@k0_ _ _)) (@q8_ _ _ _ _ (@y0_ _ _ _ _ _ (@x0_ _ _ _ _ _ _ _ _ _ _ _ (by exact d_is_grid) (by exact(hr.mono (show 3≤3 by decide))) (by exact rfl) (@v4_ _ _ _ _ _ _ (@z4_ _ _ _ _ _ (pv 0)) (@v4_ _ _ _ _ _ _ (@x8_ _ _ _ _ _ _ _ _ _ _ _ (by exact g2_) (by exact u1_) (by exact rfl) (by exact T.g_len) (by exact Zw) (@z8_ _ _ _ _ _ _ (@z4_ _ _ _ _ _ (pv 0)) (@q5_ _ _) (by exact z1_ rfl)) (by decide) (by decide) (by exact z1_ rfl) (by exact q2_ rfl)) (@v4_ _ _ _ _ _ _ (@x8_ _ _ _ _ _ _ _ _ _ _ _ (by exact g2_) (by exact u1_) (by exact rfl) (by exact T.g_len) (by exact Zw) (@z8_ _ _ _ _ _ _ (@z4_ _ _ _ _ _ (pv 0)) (@q5_ _ _) (by exact z1_ rfl)) (by decide) (by decide) (by exact z1_ rfl) (by exact q2_ rfl)) (@y5_ _ _) (by exact z1_ rfl)) (by exact z1_ rfl)) (by exact z1_ rfl)) (by decide) (by exact z1_ rfl) (by exact q2_ rfl)))))
theorem b8A:FnScope ["grid"] ["grid"] (v7_ a7M):=k8_
theorem nd3:(["grid","at"]:List Str).Nodup:=by decide+kernel
theorem nd4:(["-0","at","row"]:List Str).Nodup:=by decide+kernel
def a8f:Mo Fl:=(q7_ (mCB u6_ (z2_ (mF (v6_ (j2_ (z2_ (mCB v5_ (z2_ (z3_ dIx (z0_ 0) (mC (.int 0))) z5_)) z5_)) [true] 1 (gN 1) v9_ (mCB u6_ (z2_ (mF (v6_ (y6_ (z0_ 0)) [false,true] 1 (gN 2) v9_ (z3_ dIx (z0_ 2) (z0_ 1)))) z5_)))) z5_)))
def a1J:Fn:=fnM 1 a8f
theorem b8B{f:Addr}{fd:FuncData}(F:Fun K "flipped" "flipped" a7M f fd)(T:Txt K mg):FnOk P w K mg base CX0 1 f fd ["grid"] (SpF K 1 a1J):=
 w2_ F b8A fun cdv A outer s H E hr=>(@q8_ _ _ _ _ (@y0_ _ _ _ _ _ (@a1A _ _ _ _ _ _ _ _ _ _ _ (by exact a1P) (by exact a1U) (by exact rfl) (by exact T.g_tuple) (by exact a0b) (@z8_ _ _ _ _ _ _ (@x6_ _ _ _ _ (@g7_ _ _ ["grid","at"] _ [true] 1 _ _ _ _ _ _ _ _ _ (by exact(w8_ rfl rfl)) (by exact rfl) (@a3p _ _ _ _ _ _ _ (by exact rfl) (by exact T.g_range) (@z8_ _ _ _ _ _ _ (@x8_ _ _ _ _ _ _ _ _ _ _ _ (by exact g2_) (by exact u1_) (by exact rfl) (by exact T.g_len) (by exact Zw) (@z8_ _ _ _ _ _ _ (@a1z _ _ _ _ _ _ _ (@z4_ _ _ _ _ _ (pv 0)) (@q6_ _ _ _ _ _) (fun _ _=>rfl)) (@q5_ _ _) (by exact z1_ rfl)) (by decide) (by decide) (by exact z1_ rfl) (by exact q2_ rfl)) (@q5_ _ _) (by exact z1_ rfl)) (by exact se1 rfl)) (fun s H fp=>(@x1_ _ _ _ _ 1 _ (by exact(show 1≤1 by decide)) (by exact nd3) (by exact rfl) (by first|exact Or.inl rfl|exact Or.inr rfl) (by first|exact .inl rfl|exact .inr rfl|assumption))) (fun s H fp=>(@u3_ _ _)) (fun s H fp=>(@a1A _ _ _ _ _ _ _ _ _ _ _ (by exact a1P) (by exact a1U) (by exact rfl) (by exact T.g_tuple) (by exact a0b) (@z8_ _ _ _ _ _ _ (@x6_ _ _ _ _ (@g7_ _ _ ["-0","at","row"] _ [false,true] 1 _ _ _ _ _ _ _ _ _ (by exact(w8_ rfl rfl)) (by exact rfl) (@g5_ _ _ _ _ _ (@z4_ _ _ _ _ _ (pv 0))) (fun s H fp=>(@x1_ _ _ _ _ 2 _ (by exact(show 2≤2 by decide)) (by exact nd4) (by exact rfl) (by first|exact Or.inl rfl|exact Or.inr rfl) (by first|exact .inl rfl|exact .inr rfl|assumption))) (fun s H fp=>(@u3_ _ _)) (fun s H fp=>(@a1z _ _ _ _ _ _ _ (@z4_ _ _ _ _ _ (pv 2)) (@z4_ _ _ _ _ _ (pv 1)) (fun _ _=>rfl))) (by intro _;rfl))) (@q5_ _ _) (by exact z1_ rfl)) (by decide) (by decide) (by exact z1_ rfl) (by exact q2_ rfl))) (by intro _;rfl))) (@q5_ _ _) (by exact z1_ rfl)) (by decide) (by decide) (by exact z1_ rfl) (by exact q2_ rfl))))
theorem a5K:FnScope ["line","total","number"] ["line"] (v7_ a7N):=k8_
def a4D:Mo Fl:=(z9_ (v2_ 1 (mC (.int 0))) (z9_ (j3_ (y6_ (z0_ 0)) (gN 2) (z9_ (a5i 1 a5d (z0_ 2)) (v1_ (mT (z3_ (dIn true) (z0_ 1) (x7_ (z2_ (mC (.int 0)) (z2_ (mC (.int 1)) z5_))))) (q7_ (mC (.bl false))) mNx))) (q7_ (z3_ (dEq false) (z0_ 1) (mC (.int 1))))))
def a2m:Fn:=fnM 3 a4D
theorem b8C{f:Addr}{fd:FuncData}(F:Fun K "takes_turns" "takes_turns" a7N f fd)(T:Txt K mg):FnOk P w K mg base CX0 1 f fd ["line"] (SpF K 1 a2m):=
 w2_ F a5K fun cdv A outer s H E hr=>(@v0_ _ _ _ _ _ _ (@x9_ _ _ _ _ _ 1 _ _ (by exact a5K.nd) (by exact rfl) (by first|exact Or.inl rfl|exact Or.inr rfl) (@q6_ _ _ _ _ _) (by rfl) (by first|exact .inl rfl|exact .inr rfl|assumption)) (@v0_ _ _ _ _ _ _ (@a1k _ _ _ _ _ _ _ _ _ (by exact Yg) (by exact rfl) (@g5_ _ _ _ _ _ (@z4_ _ _ _ _ _ (pv 0))) (@x1_ _ _ _ _ 2 _ (by exact(show 0≤2 by decide)) (by exact a5K.nd) (by exact rfl) (by first|exact Or.inl rfl|exact Or.inr rfl) (by first|exact .inl rfl|exact .inr rfl|assumption)) (@v0_ _ _ _ _ _ _ (@b4Y _ _ _ _ _ 1 _ _ _ _ _ (by exact a5K.nd) (by exact rfl) (by first|exact Or.inl rfl|exact Or.inr rfl) (@z4_ _ _ _ _ _ (pv 2)) (by exact b3Z) (by exact a9H) (by first|exact .inl rfl|exact .inr rfl|assumption)) (@q8_ _ _ _ _ (@x2_ _ _ _ _ _ _ _ _ _ (@w5_ _ _ _ _ _ _ _ _ _ _ (by exact b4F) (by exact b0h) (@z4_ _ _ _ _ _ (pv 1)) (@a0z _ _ _ _ _ _ (@z8_ _ _ _ _ _ _ (@q6_ _ _ _ _ _) (@z8_ _ _ _ _ _ _ (@q6_ _ _ _ _ _) (@q5_ _ _) (by exact z1_ rfl)) (by exact z1_ rfl))) (by with_unfolding_all rfl)) (@q8_ _ _ _ _ (@y0_ _ _ _ _ _ (@w9_ _ _ _ _ _))) (@k0_ _ _)))) (by intro _;rfl)) (@q8_ _ _ _ _ (@y0_ _ _ _ _ _ (@a2A _ _ _ _ _ _ _ _ _ _ (by exact(op_eqD hr.units)) (by exact opd_eq) (@z4_ _ _ _ _ _ (pv 1)) (@q6_ _ _ _ _ _) (by exact(nomark _)))))))
theorem b8D:FnScope ["thing"] ["thing"] (v7_ a7O):=k8_
theorem nd5:(["-0","line"]:List Str).Nodup:=by decide+kernel
def a8g:Mo Fl:=(z9_ (v1_ (y2_ (mT (mCD 3 a2W (z7_ (z0_ 0) (z7_ (mC (.int 1)) (z7_ (mC (.int 6)) q0_)))))) (q7_ (mC (.bl false))) mNx) (q7_ (mCB a1m (z2_ (mF (v6_ (y6_ (z3_ y4_ (z0_ 0) (mCD 1 a1J (z7_ (z0_ 0) q0_)))) [false] 1 (gN 1) v9_ (mCD 1 a2m (z7_ (z0_ 1) q0_)))) z5_))))
def a4E:Fn:=fnM 1 a8g
theorem b8E{f:Addr}{fd:FuncData}(F:Fun K "is_table" "is_table" a7O f fd)(T:Txt K mg)(d_is_square:Def P w K mg base "is_square" 4 3 a2W)(d_takes_turns:Def P w K mg base "takes_turns" 1 1 a2m)(d_flipped:Def P w K mg base "flipped" 1 1 a1J):FnOk P w K mg base CX0 5 f fd ["thing"] (SpF K 1 a4E):=
 w2_ F b8D fun cdv A outer s H E hr=>(@v0_ _ _ _ _ _ _ (@x2_ _ _ _ _ _ _ _ _ _ (@g4_ _ _ _ _ _ (@g3_ _ _ _ _ (@x0_ _ _ _ _ _ _ _ _ _ _ _ (by exact d_is_square) (by exact(hr.mono (show 4≤4 by decide))) (by exact rfl) (@v4_ _ _ _ _ _ _ (@z4_ _ _ _ _ _ (pv 0)) (@v4_ _ _ _ _ _ _ (@q6_ _ _ _ _ _) (@v4_ _ _ _ _ _ _ (@b6i _ _ _ _ _ (by exact rfl) (by exact T.c_GREATEST_SIDE) (by decide)) (@y5_ _ _) (by exact z1_ rfl)) (by exact z1_ rfl)) (by exact z1_ rfl)) (by decide) (by exact z1_ rfl) (by exact q2_ rfl)) (by intro _;rfl))) (@q8_ _ _ _ _ (@y0_ _ _ _ _ _ (@w9_ _ _ _ _ _))) (@k0_ _ _)) (@q8_ _ _ _ _ (@y0_ _ _ _ _ _ (@x8_ _ _ _ _ _ _ _ _ _ _ _ (by exact(a3s rfl)) (by exact a3t) (by exact rfl) (by exact T.g_all) (by exact a3z) (@z8_ _ _ _ _ _ _ (@x6_ _ _ _ _ (@g7_ _ _ ["-0","line"] _ [false] 1 _ _ _ _ _ _ _ _ _ (by exact(w8_ rfl rfl)) (by exact rfl) (@g5_ _ _ _ _ _ (@y1_ _ _ _ _ _ _ _ _ _ _ (by exact u4_) (by exact u5_) (@z4_ _ _ _ _ _ (pv 0)) (@x0_ _ _ _ _ _ _ _ _ _ _ _ (by exact d_flipped) (by exact(hr.mono (show 1≤4 by decide))) (by exact rfl) (@v4_ _ _ _ _ _ _ (@z4_ _ _ _ _ _ (pv 0)) (@y5_ _ _) (by exact z1_ rfl)) (by decide) (by exact z1_ rfl) (by exact q2_ rfl)))) (fun s H fp=>(@x1_ _ _ _ _ 1 _ (by exact(show 1≤1 by decide)) (by exact nd5) (by exact rfl) (by first|exact Or.inl rfl|exact Or.inr rfl) (by first|exact .inl rfl|exact .inr rfl|assumption))) (fun s H fp=>(@u3_ _ _)) (fun s H fp=>(@x0_ _ _ _ _ _ _ _ _ _ _ _ (by exact d_takes_turns) (by exact(hr.mono (show 1≤4 by decide))) (by exact rfl) (@v4_ _ _ _ _ _ _ (@z4_ _ _ _ _ _ (pv 1)) (@y5_ _ _) (by exact z1_ rfl)) (by decide) (by exact z1_ rfl) (by exact q2_ rfl))) (by intro _;rfl))) (@q5_ _ _) (by exact z1_ rfl)) (by decide) (by decide) (by exact z1_ rfl) (by exact q2_ rfl)))))
theorem b8F:FnScope ["text"] ["text"] (v7_ a7P):=k8_
theorem nd6:(["-0","row"]:List Str).Nodup:=by decide+kernel
theorem nd7:(["-0","-1","sign"]:List Str).Nodup:=by decide+kernel
def a8h:Mo Fl:=(q7_ (mCB u6_ (z2_ (mF (v6_ (y6_ (mF (a1H (z0_ 0) (mC (.str "/"))))) [false] 1 (gN 1) v9_ (mCB u6_ (z2_ (mF (v6_ (a2k (z0_ 1)) [false,false] 1 (gN 2) v9_ (a5E [(.inr "+",.inl 1),(.inr "-",.inl (-1)),(.inr "0",.inl 0)] (z0_ 2)))) z5_)))) z5_)))
def a2n:Fn:=fnM 1 a8h
theorem b8G{f:Addr}{fd:FuncData}(F:Fun K "unwritten" "unwritten" a7P f fd)(T:Txt K mg)(k_NUMBERS:DkG P w K mg "NUMBERS" [(.inr "+",.inl 1),(.inr "-",.inl (-1)),(.inr "0",.inl 0)]):FnOk P w K mg base CX0 1 f fd ["text"] (SpF K 1 a2n):=
 w2_ F b8F fun cdv A outer s H E hr=>(@q8_ _ _ _ _ (@y0_ _ _ _ _ _ (@a1A _ _ _ _ _ _ _ _ _ _ _ (by exact a1P) (by exact a1U) (by exact rfl) (by exact T.g_tuple) (by exact a0b) (@z8_ _ _ _ _ _ _ (@x6_ _ _ _ _ (@g7_ _ _ ["-0","row"] _ [false] 1 _ _ _ _ _ _ _ _ _ (by exact(w8_ rfl rfl)) (by exact rfl) (@g5_ _ _ _ _ _ (@x6_ _ _ _ _ (@a7A _ _ _ _ _ _ _ _ (@z4_ _ _ _ _ _ (pv 0)) (@j7_ _ _ _ _ _ (by decide)) (by rfl) (by rfl) (by rfl) (by exact z1_ rfl) (by exact q2_ rfl)))) (fun s H fp=>(@x1_ _ _ _ _ 1 _ (by exact(show 1≤1 by decide)) (by exact nd6) (by exact rfl) (by first|exact Or.inl rfl|exact Or.inr rfl) (by first|exact .inl rfl|exact .inr rfl|assumption))) (fun s H fp=>(@u3_ _ _)) (fun s H fp=>(@a1A _ _ _ _ _ _ _ _ _ _ _ (by exact a1P) (by exact a1U) (by exact rfl) (by exact T.g_tuple) (by exact a0b) (@z8_ _ _ _ _ _ _ (@x6_ _ _ _ _ (@g7_ _ _ ["-0","-1","sign"] _ [false,false] 1 _ _ _ _ _ _ _ _ _ (by exact(w8_ rfl rfl)) (by exact rfl) (@a7B _ _ _ _ _ (@z4_ _ _ _ _ _ (pv 1))) (fun s H fp=>(@x1_ _ _ _ _ 2 _ (by exact(show 2≤2 by decide)) (by exact nd7) (by exact rfl) (by first|exact Or.inl rfl|exact Or.inr rfl) (by first|exact .inl rfl|exact .inr rfl|assumption))) (fun s H fp=>(@u3_ _ _)) (fun s H fp=>(@b7L _ _ _ _ _ _ _ _ (by exact k_NUMBERS) (by exact rfl) (@z4_ _ _ _ _ _ (pv 2)) (fun _ _=>rfl) (by decide))) (by intro _;rfl))) (@q5_ _ _) (by exact z1_ rfl)) (by decide) (by decide) (by exact z1_ rfl) (by exact q2_ rfl))) (by intro _;rfl))) (@q5_ _ _) (by exact z1_ rfl)) (by decide) (by decide) (by exact z1_ rfl) (by exact q2_ rfl))))
theorem b8H:FnScope ["thing"] ["thing"] (v7_ a7Q):=k8_
theorem nd8:(["-0","sign"]:List Str).Nodup:=by decide+kernel
def a4F:Mo Fl:=(z9_ (v1_ (y2_ (mT (mIs "str" (z0_ 0)))) (q7_ (mC (.bl false))) mNx) (z9_ (v1_ (y2_ (mT (mCB a1m (z2_ (mF (v6_ (a2k (z0_ 0)) [false] 1 (gN 1) v9_ (a1T (z3_ (dEq false) (z0_ 1) (mC (.str "/"))) (a4x [(.inr "+",.inl 1),(.inr "-",.inl (-1)),(.inr "0",.inl 0)] (z0_ 1))))) z5_)))) (q7_ (mC (.bl false))) mNx) (q7_ (mCD 1 a4E (z7_ (mCD 1 a2n (z7_ (z0_ 0) q0_)) q0_)))))
def a1a:Fn:=fnM 1 a4F
theorem b8I{f:Addr}{fd:FuncData}(F:Fun K "is_note" "is_note" a7Q f fd)(T:Txt K mg)(d_is_table:Def P w K mg base "is_table" 5 1 a4E)(d_unwritten:Def P w K mg base "unwritten" 1 1 a2n)(k_NUMBERS:DkG P w K mg "NUMBERS" [(.inr "+",.inl 1),(.inr "-",.inl (-1)),(.inr "0",.inl 0)]):FnOk P w K mg base CX0 6 f fd ["thing"] (SpF K 1 a1a):=
 w2_ F b8H fun cdv A outer s H E hr=>(@v0_ _ _ _ _ _ _ (@x2_ _ _ _ _ _ _ _ _ _ (@g4_ _ _ _ _ _ (@g3_ _ _ _ _ (@u8_ _ _ _ _ _ _ _ _ _ (by exact b5u) (@z4_ _ _ _ _ _ (pv 0)) (by exact rfl) (by exact T.g_isinstance) (by exact rfl) (by exact T.g_str) (by exact b6j) (by decide) (by decide) (by exact se2 rfl rfl)) (by intro _;rfl))) (@q8_ _ _ _ _ (@y0_ _ _ _ _ _ (@w9_ _ _ _ _ _))) (@k0_ _ _)) (@v0_ _ _ _ _ _ _ (@x2_ _ _ _ _ _ _ _ _ _ (@g4_ _ _ _ _ _ (@g3_ _ _ _ _ (@x8_ _ _ _ _ _ _ _ _ _ _ _ (by exact(a3s rfl)) (by exact a3t) (by exact rfl) (by exact T.g_all) (by exact a3z) (@z8_ _ _ _ _ _ _ (@x6_ _ _ _ _ (@g7_ _ _ ["-0","sign"] _ [false] 1 _ _ _ _ _ _ _ _ _ (by exact(w8_ rfl rfl)) (by exact rfl) (@a7B _ _ _ _ _ (@z4_ _ _ _ _ _ (pv 0))) (fun s H fp=>(@x1_ _ _ _ _ 1 _ (by exact(show 1≤1 by decide)) (by exact nd8) (by exact rfl) (by first|exact Or.inl rfl|exact Or.inr rfl) (by first|exact .inl rfl|exact .inr rfl|assumption))) (fun s H fp=>(@u3_ _ _)) (fun s H fp=>(@b4U _ _ _ _ _ _ _ _ (@a2A _ _ _ _ _ _ _ _ _ _ (by exact(op_eqD hr.units)) (by exact opd_eq) (@z4_ _ _ _ _ _ (pv 1)) (@j7_ _ _ _ _ _ (by decide)) (by exact(nomark _))) (@a3m _ _ _ _ _ _ (@b7P _ _ _ _ _ _ _ _ (by exact k_NUMBERS) (by exact rfl) (@z4_ _ _ _ _ _ (pv 1)) (by with_unfolding_all rfl) (by decide))))) (by intro _;rfl))) (@q5_ _ _) (by exact z1_ rfl)) (by decide) (by decide) (by exact z1_ rfl) (by exact q2_ rfl)) (by intro _;rfl))) (@q8_ _ _ _ _ (@y0_ _ _ _ _ _ (@w9_ _ _ _ _ _))) (@k0_ _ _)) (@q8_ _ _ _ _ (@y0_ _ _ _ _ _ (@x0_ _ _ _ _ _ _ _ _ _ _ _ (by exact d_is_table) (by exact(hr.mono (show 5≤5 by decide))) (by exact rfl) (@v4_ _ _ _ _ _ _ (@x0_ _ _ _ _ _ _ _ _ _ _ _ (by exact d_unwritten) (by exact(hr.mono (show 1≤5 by decide))) (by exact rfl) (@v4_ _ _ _ _ _ _ (@z4_ _ _ _ _ _ (pv 0)) (@y5_ _ _) (by exact z1_ rfl)) (by decide) (by exact z1_ rfl) (by exact q2_ rfl)) (@y5_ _ _) (by exact z1_ rfl)) (by decide) (by exact z1_ rfl) (by exact q2_ rfl))))))
theorem b1y:FnScope ["text"] ["text"] (v7_ a5J):=k8_
def a8i:Mo Fl:=(z9_ (v1_ (y2_ (mT (mCD 1 a1a (z7_ (z0_ 0) q0_)))) a6G mNx) (q7_ (mCD 1 a2n (z7_ (z0_ 0) q0_))))
def a0M:Fn:=fnM 1 a8i
theorem b8J{f:Addr}{fd:FuncData}(F:Fun K "table_read" "table_read" a5J f fd)(T:Txt K mg)(d_unwritten:Def P w K mg base "unwritten" 1 1 a2n)(d_is_note:Def P w K mg base "is_note" 6 1 a1a):FnOk P w K mg base CX0 7 f fd ["text"] (SpF K 1 a0M):=
 w2_ F b1y fun cdv A outer s H E hr=>(@v0_ _ _ _ _ _ _ (@x2_ _ _ _ _ _ _ _ _ _ (@g4_ _ _ _ _ _ (@g3_ _ _ _ _ (@x0_ _ _ _ _ _ _ _ _ _ _ _ (by exact d_is_note) (by exact(hr.mono (show 6≤6 by decide))) (by exact rfl) (@v4_ _ _ _ _ _ _ (@z4_ _ _ _ _ _ (pv 0)) (@y5_ _ _) (by exact z1_ rfl)) (by decide) (by exact z1_ rfl) (by exact q2_ rfl)) (by intro _;rfl))) (@q8_ _ _ _ _ (@a9Q _ _ _)) (@k0_ _ _)) (@q8_ _ _ _ _ (@y0_ _ _ _ _ _ (@x0_ _ _ _ _ _ _ _ _ _ _ _ (by exact d_unwritten) (by exact(hr.mono (show 1≤6 by decide))) (by exact rfl) (@v4_ _ _ _ _ _ _ (@z4_ _ _ _ _ _ (pv 0)) (@y5_ _ _) (by exact z1_ rfl)) (by decide) (by exact z1_ rfl) (by exact q2_ rfl)))))
def a8j:Mx:=(a4v (xIf (y2_ (mT (mCD 1 a1a (z7_ (z0_ 0) q0_)))) (b0R "BadNote" (z2_ (mC (.str "this is no text of a table")) z5_)) xNo) (v1_ (y2_ (mT (mCD 1 a1a (z7_ (z0_ 0) q0_)))) a6G mNx) xNo)
def a1r:List W->Option Str:=fnX 1 a8j
theorem b8K{f:Addr}{fd:FuncData}(F:Fun K "table_read" "table_read" a5J f fd)(T:Txt K mg)(d_unwritten:Def P w K mg base "unwritten" 1 1 a2n)(d_is_note:Def P w K mg base "is_note" 6 1 a1a):FnOk P w K mg base (CXE P w) 7 f fd ["text"] (SpX K 1 a1r):=
 b6I F b1y fun cdv A outer s H E hr=>(@b6F _ _ _ _ _ _ _ _ (@b6G _ _ _ _ _ _ _ _ _ _ (by exact(PT.nox (@g4_ _ _ _ _ _ (@g3_ _ _ _ _ (@x0_ _ _ _ _ _ _ _ _ _ _ _ (by exact d_is_note) (by exact(hr.mono (show 6≤6 by decide))) (by exact rfl) (@v4_ _ _ _ _ _ _ (@z4_ _ _ _ _ _ (pv 0)) (@y5_ _ _) (by exact z1_ rfl)) (by decide) (by exact z1_ rfl) (by exact q2_ rfl)) (by intro _;rfl))))) (@b0Q _ _ _ _ _ (@b6H _ _ _ _ _ _ _ _ _ _ (by exact b6B) (by exact rfl) (by exact(b7z T.ex (by decide+kernel))) (by exact rfl) (by exact(PA.nox (@z8_ _ _ _ _ _ _ (@j7_ _ _ _ _ _ (by decide)) (@q5_ _ _) (by exact z1_ rfl)))) (by exact z1_ rfl) (by exact q2_ rfl) (by decide))) (@b6E _ _ _)) (by exact(PS.nox (@x2_ _ _ _ _ _ _ _ _ _ (@g4_ _ _ _ _ _ (@g3_ _ _ _ _ (@x0_ _ _ _ _ _ _ _ _ _ _ _ (by exact d_is_note) (by exact(hr.mono (show 6≤6 by decide))) (by exact rfl) (@v4_ _ _ _ _ _ _ (@z4_ _ _ _ _ _ (pv 0)) (@y5_ _ _) (by exact z1_ rfl)) (by decide) (by exact z1_ rfl) (by exact q2_ rfl)) (by intro _;rfl))) (@q8_ _ _ _ _ (@a9Q _ _ _)) (@k0_ _ _)))) (@b0Q _ _ _ _ _ (@b6D _ _ _ _)))
theorem b8L:FnScope ["_law_script","_law_k"] ["_law_script","_law_k"] (v7_ a7R):=k8_
def a4G:Mo Fl:=(z9_ (v1_ (mT (z3_ dLt (z0_ 1) (mCB v5_ (z2_ (z0_ 0) z5_)))) (q7_ (z3_ dIx (z0_ 0) (z0_ 1))) mNx) (q7_ (mC (.int 0))))
def a3N:Fn:=fnM 2 a4G
theorem b8M{f:Addr}{fd:FuncData}(F:Fun K "_law_cell_at" "_law_cell_at" a7R f fd)(T:Txt K mg):FnOk P w K mg base CX0 1 f fd ["_law_script","_law_k"] (SpF K 2 a3N):=
 w2_ F b8L fun cdv A outer s H E hr=>(@v0_ _ _ _ _ _ _ (@x2_ _ _ _ _ _ _ _ _ _ (@w5_ _ _ _ _ _ _ _ _ _ _ (by exact a9a) (by exact a9K) (@z4_ _ _ _ _ _ (pv 1)) (@x8_ _ _ _ _ _ _ _ _ _ _ _ (by exact g2_) (by exact u1_) (by exact rfl) (by exact T.g_len) (by exact Zw) (@z8_ _ _ _ _ _ _ (@z4_ _ _ _ _ _ (pv 0)) (@q5_ _ _) (by exact z1_ rfl)) (by decide) (by decide) (by exact z1_ rfl) (by exact q2_ rfl)) (by exact(nomark _))) (@q8_ _ _ _ _ (@y0_ _ _ _ _ _ (@a1z _ _ _ _ _ _ _ (@z4_ _ _ _ _ _ (pv 0)) (@z4_ _ _ _ _ _ (pv 1)) (fun _ _=>rfl)))) (@k0_ _ _)) (@q8_ _ _ _ _ (@y0_ _ _ _ _ _ (@q6_ _ _ _ _ _))))
theorem b1z:FnScope ["_law_script","_law_k","_law_cell"] ["_law_script","_law_k"] (v7_ a7S):=k8_
def a4H:Mo Fl:=(z9_ (v2_ 2 (mCD 2 a3N (z7_ (z0_ 0) (z7_ (z0_ 1) q0_)))) (z9_ (v1_ (mT (z3_ dGe (z0_ 2) (z3_ a1Q (mC (.int 10)) (mC (.int 18))))) (a2E (k4_ (z2_ (z3_ a0S (z0_ 2) (z3_ a1Q (mC (.int 10)) (mC (.int 18)))) (z2_ (mC (.bl true)) z5_)))) mNx) (a2E (k4_ (z2_ (z3_ j0_ (z0_ 2) (mC (.int 2147483647))) (z2_ (mC (.bl false)) z5_))))))
def a3O:Fn:=fnM 3 a4H
theorem b8N{f:Addr}{fd:FuncData}(F:Fun K "_law_state" "_law_state" a7S f fd)(T:Txt K mg)(d__law_cell_at:Def P w K mg base "_law_cell_at" 1 2 a3N):FnOk P w K mg base CX0 2 f fd ["_law_script","_law_k"] (SpF K 2 a3O):=
 w2_ F b1z fun cdv A outer s H E hr=>(@v0_ _ _ _ _ _ _ (@x9_ _ _ _ _ _ 2 _ _ (by exact b1z.nd) (by exact rfl) (by first|exact Or.inl rfl|exact Or.inr rfl) (@x0_ _ _ _ _ _ _ _ _ _ _ _ (by exact d__law_cell_at) (by exact(hr.mono (show 1≤1 by decide))) (by exact rfl) (@v4_ _ _ _ _ _ _ (@z4_ _ _ _ _ _ (pv 0)) (@v4_ _ _ _ _ _ _ (@z4_ _ _ _ _ _ (pv 1)) (@y5_ _ _) (by exact z1_ rfl)) (by exact z1_ rfl)) (by decide) (by exact z1_ rfl) (by exact q2_ rfl)) (by rfl) (by first|exact .inl rfl|exact .inr rfl|assumption)) (@v0_ _ _ _ _ _ _ (@x2_ _ _ _ _ _ _ _ _ _ (@w5_ _ _ _ _ _ _ _ _ _ _ (by exact b4b) (by exact b4P) (@z4_ _ _ _ _ _ (pv 2)) (@y1_ _ _ _ _ _ _ _ _ _ _ (by exact a8Y) (by exact a9J) (@q6_ _ _ _ _ _) (@q6_ _ _ _ _ _)) (by exact(nomark _))) (@q8_ _ _ _ _ (@a6H _ _ _ _ _ (@a0o _ _ _ _ _ (@z8_ _ _ _ _ _ _ (@y1_ _ _ _ _ _ _ _ _ _ _ (by exact a6o) (by exact a6A) (@z4_ _ _ _ _ _ (pv 2)) (@y1_ _ _ _ _ _ _ _ _ _ _ (by exact a8Y) (by exact a9J) (@q6_ _ _ _ _ _) (@q6_ _ _ _ _ _))) (@z8_ _ _ _ _ _ _ (@w9_ _ _ _ _ _) (@q5_ _ _) (by exact z1_ rfl)) (by exact z1_ rfl))))) (@k0_ _ _)) (@q8_ _ _ _ _ (@a6H _ _ _ _ _ (@a0o _ _ _ _ _ (@z8_ _ _ _ _ _ _ (@y1_ _ _ _ _ _ _ _ _ _ _ (by exact a1N) (by exact a1R) (@z4_ _ _ _ _ _ (pv 2)) (@q6_ _ _ _ _ _)) (@z8_ _ _ _ _ _ _ (@w9_ _ _ _ _ _) (@q5_ _ _) (by exact z1_ rfl)) (by exact z1_ rfl)))))))
theorem a5L:FnScope ["_law_state_here","_law_many","_law_mixed","_law_found"] ["_law_state_here","_law_many"] (v7_ a7T):=k8_
def a4I:Mo Fl:=(z9_ (v1_ (mT (y7_ 0 (mC (.int 1)))) (z9_ (v2_ 3 (z3_ j0_ (y7_ 0 (mC (.int 0))) (z0_ 1))) (z9_ (u2_ (z3_ a4i (y7_ 0 (mC (.int 0))) (z0_ 1)) (gS 0 (mC (.int 0)))) (q7_ (z0_ 3)))) mNx) (z9_ (u2_ (z3_ j0_ (z3_ y4_ (z3_ j5_ (y7_ 0 (mC (.int 0))) (mC (.int 48271))) (mC (.int 29))) (mC (.int 2147483647))) (gS 0 (mC (.int 0)))) (z9_ (v2_ 2 (z3_ j0_ (z3_ y4_ (z3_ y4_ (z3_ j5_ (y7_ 0 (mC (.int 0))) (y7_ 0 (mC (.int 0)))) (z3_ j5_ (mC (.int 39373)) (y7_ 0 (mC (.int 0))))) (mC (.int 7))) (mC (.int 2147483629)))) (z9_ (v2_ 2 (z3_ j0_ (z3_ y4_ (z3_ j5_ (z0_ 2) (z0_ 2)) (z3_ j5_ (mC (.int 16807)) (z0_ 2))) (mC (.int 2147483587)))) (q7_ (z3_ j0_ (z3_ a4i (z0_ 2) (mC (.int 8))) (z0_ 1)))))))
def x4_:Fn:=fnM 4 a4I
theorem b8O{f:Addr}{fd:FuncData}(F:Fun K "_law_take" "_law_take" a7T f fd)(T:Txt K mg):FnOk P w K mg base CX0 1 f fd ["_law_state_here","_law_many"] (SpF K 2 x4_):=
 w2_ F a5L fun cdv A outer s H E hr=>(@v0_ _ _ _ _ _ _ (@x2_ _ _ _ _ _ _ _ _ _ (@g3_ _ _ _ _ (@a0T _ _ _ _ _ _ _ _ (pv 0) (@q6_ _ _ _ _ _) (fun _ _=>rfl) (by exact a2N)) (by intro _;rfl)) (@v0_ _ _ _ _ _ _ (@x9_ _ _ _ _ _ 3 _ _ (by exact a5L.nd) (by exact rfl) (by first|exact Or.inl rfl|exact Or.inr rfl) (@y1_ _ _ _ _ _ _ _ _ _ _ (by exact a1N) (by exact a1R) (@a0T _ _ _ _ _ _ _ _ (pv 0) (@q6_ _ _ _ _ _) (fun _ _=>rfl) (by exact a2N)) (@z4_ _ _ _ _ _ (pv 1))) (by rfl) (by first|exact .inl rfl|exact .inr rfl|assumption)) (@v0_ _ _ _ _ _ _ (@a5j _ _ _ _ _ _ _ (@y1_ _ _ _ _ _ _ _ _ _ _ (by exact a8X) (by exact a9I) (@a0T _ _ _ _ _ _ _ _ (pv 0) (@q6_ _ _ _ _ _) (fun _ _=>rfl) (by exact a2N)) (@z4_ _ _ _ _ _ (pv 1))) (@a4l _ _ _ _ _ _ _ _ _ (pv 0) (@q6_ _ _ _ _ _) (by intro _;rfl)) (by rfl) (by rfl) (by rfl)) (@q8_ _ _ _ _ (@y0_ _ _ _ _ _ (@z4_ _ _ _ _ _ (pv 3)))))) (@k0_ _ _)) (@v0_ _ _ _ _ _ _ (@a5j _ _ _ _ _ _ _ (@y1_ _ _ _ _ _ _ _ _ _ _ (by exact a1N) (by exact a1R) (@y1_ _ _ _ _ _ _ _ _ _ _ (by exact u4_) (by exact u5_) (@y1_ _ _ _ _ _ _ _ _ _ _ (by exact a2L) (by exact a2M) (@a0T _ _ _ _ _ _ _ _ (pv 0) (@q6_ _ _ _ _ _) (fun _ _=>rfl) (by exact a2N)) (@q6_ _ _ _ _ _)) (@q6_ _ _ _ _ _)) (@q6_ _ _ _ _ _)) (@a4l _ _ _ _ _ _ _ _ _ (pv 0) (@q6_ _ _ _ _ _) (by intro _;rfl)) (by rfl) (by rfl) (by rfl)) (@v0_ _ _ _ _ _ _ (@x9_ _ _ _ _ _ 2 _ _ (by exact a5L.nd) (by exact rfl) (by first|exact Or.inl rfl|exact Or.inr rfl) (@y1_ _ _ _ _ _ _ _ _ _ _ (by exact a1N) (by exact a1R) (@y1_ _ _ _ _ _ _ _ _ _ _ (by exact u4_) (by exact u5_) (@y1_ _ _ _ _ _ _ _ _ _ _ (by exact u4_) (by exact u5_) (@y1_ _ _ _ _ _ _ _ _ _ _ (by exact a2L) (by exact a2M) (@a0T _ _ _ _ _ _ _ _ (pv 0) (@q6_ _ _ _ _ _) (fun _ _=>rfl) (by exact a2N)) (@a0T _ _ _ _ _ _ _ _ (pv 0) (@q6_ _ _ _ _ _) (fun _ _=>rfl) (by exact a2N))) (@y1_ _ _ _ _ _ _ _ _ _ _ (by exact a2L) (by exact a2M) (@q6_ _ _ _ _ _) (@a0T _ _ _ _ _ _ _ _ (pv 0) (@q6_ _ _ _ _ _) (fun _ _=>rfl) (by exact a2N)))) (@q6_ _ _ _ _ _)) (@q6_ _ _ _ _ _)) (by rfl) (by first|exact .inl rfl|exact .inr rfl|assumption)) (@v0_ _ _ _ _ _ _ (@x9_ _ _ _ _ _ 2 _ _ (by exact a5L.nd) (by exact rfl) (by first|exact Or.inl rfl|exact Or.inr rfl) (@y1_ _ _ _ _ _ _ _ _ _ _ (by exact a1N) (by exact a1R) (@y1_ _ _ _ _ _ _ _ _ _ _ (by exact u4_) (by exact u5_) (@y1_ _ _ _ _ _ _ _ _ _ _ (by exact a2L) (by exact a2M) (@z4_ _ _ _ _ _ (pv 2)) (@z4_ _ _ _ _ _ (pv 2))) (@y1_ _ _ _ _ _ _ _ _ _ _ (by exact a2L) (by exact a2M) (@q6_ _ _ _ _ _) (@z4_ _ _ _ _ _ (pv 2)))) (@q6_ _ _ _ _ _)) (by rfl) (by first|exact .inl rfl|exact .inr rfl|assumption)) (@q8_ _ _ _ _ (@y0_ _ _ _ _ _ (@y1_ _ _ _ _ _ _ _ _ _ _ (by exact a1N) (by exact a1R) (@y1_ _ _ _ _ _ _ _ _ _ _ (by exact a8X) (by exact a9I) (@z4_ _ _ _ _ _ (pv 2)) (@q6_ _ _ _ _ _)) (@z4_ _ _ _ _ _ (pv 1)))))))))
theorem a3P:FnScope ["_law_call","_law_error","e","_law_sorts"] ["_law_call"] (v7_ a7U):=k8_
theorem nd9:(["-0","-1","-2","-3","_law_one"]:List Str).Nodup:=by decide+kernel
def b8P:Mo Fl:=(z9_ (v1_ (mT (z3_ a2S (z0_ 1) (mC .non))) (q7_ (mC .non)) mNx) (z9_ (u7_ 3 (k4_ (z2_ (a0r xN "NoTable" (z0_ 1)) (z2_ (a0r xN "NoHeights" (z0_ 1)) (z2_ (a0r xN "NoNet" (z0_ 1)) z5_))))) (z9_ (u7_ 3 (a5s (z0_ 3) (mF (k4_ (z2_ (a0r xN "NoPlace" (z0_ 1)) (z2_ (a0r xN "NoTriangle" (z0_ 1)) (z2_ (a0r xN "NoRow" (z0_ 1)) z5_))))))) (z9_ (u7_ 3 (a5s (z0_ 3) (mF (k4_ (z2_ (a0r xN "NoNumber" (z0_ 1)) (z2_ (a0r xN "NoTurn" (z0_ 1)) (z2_ (a0r xN "NotAlike" (z0_ 1)) z5_))))))) (z9_ (u7_ 3 (a5s (z0_ 3) (mF (k4_ (z2_ (a0r xN "NoStep" (z0_ 1)) (z2_ (a0r xN "NoRows" (z0_ 1)) (z2_ (a0r xN "TooMany" (z0_ 1)) z5_))))))) (z9_ (a2F 3 (a0r xN "BadNote" (z0_ 1))) (z9_ (v1_ (j1_ (y2_ (mT (b0T xN (z0_ 1)))) (mT (z3_ (dEq true) (mCB a7o (z2_ (mF (v6_ (y6_ (z0_ 3)) [false,false,false,false] 1 (gN 4) v9_ (mCB a6Z (z2_ (z0_ 4) z5_)))) z5_)) (mC (.int 1))))) (q7_ (a1i (mC (.int 1)))) mNx) (q7_ (z3_ a7w (z0_ 3) (mC (.bl true)))))))))))
def b8Q(o:Option Str):Mo Fl:=z9_ (v2_ 1 (mC .non)) (z9_ (a7r xN 2 1 o) b8P)
def a2o:Option Str->Option D:=a7u 4 b8Q
theorem b8R{f:Addr}{fd:FuncData}(F:Fun K "_law_refused" "_law_refused" a7U f fd)(T:Txt K mg)(hmg:mg "_law_refused"=some (.ref f))(hbd:a0w K fd ["_law_call"] []):RefDef P w K mg base "_law_refused" 9 8 a2o:=
 b7s F a3P hmg hbd (by decide) fun cdv A outer s H E fl o G hr fn clo=>b7f (i0:=0) (i:=2) (j:=1) rfl rfl rfl T.ex a3P.nd rfl (Or.inl rfl) rfl rfl rfl rfl (by decide) rfl fn clo (@v0_ _ _ _ _ _ _ (@x2_ _ _ _ _ _ _ _ _ _ (@w5_ _ _ _ _ _ _ _ _ _ _ (by exact a9b) (by exact b0V) (@z4_ _ _ _ _ _ (pv 1)) (@a3l _ _ _ _) (by exact(nomark _))) (@q8_ _ _ _ _ (@y0_ _ _ _ _ _ (@a3l _ _ _ _))) (@k0_ _ _)) (@v0_ _ _ _ _ _ _ (@a1V _ _ _ _ _ 3 _ _ (by exact a3P.nd) (by exact rfl) (by first|exact Or.inl rfl|exact Or.inr rfl) (@a0o _ _ _ _ _ (@z8_ _ _ _ _ _ _ (@a0D _ _ _ _ _ _ _ _ _ _ (by exact T.ex) (by decide+kernel) (@z4_ _ _ _ _ _ (pv 1)) (by exact rfl) (by exact T.g_isinstance) (by exact rfl) (by decide) (by exact se2 rfl rfl)) (@z8_ _ _ _ _ _ _ (@a0D _ _ _ _ _ _ _ _ _ _ (by exact T.ex) (by decide+kernel) (@z4_ _ _ _ _ _ (pv 1)) (by exact rfl) (by exact T.g_isinstance) (by exact rfl) (by decide) (by exact se2 rfl rfl)) (@z8_ _ _ _ _ _ _ (@a0D _ _ _ _ _ _ _ _ _ _ (by exact T.ex) (by decide+kernel) (@z4_ _ _ _ _ _ (pv 1)) (by exact rfl) (by exact T.g_isinstance) (by exact rfl) (by decide) (by exact se2 rfl rfl)) (@q5_ _ _) (by exact z1_ rfl)) (by exact z1_ rfl)) (by exact z1_ rfl))) (by rfl) (by first|exact .inl rfl|exact .inr rfl|assumption)) (@v0_ _ _ _ _ _ _ (@a1V _ _ _ _ _ 3 _ _ (by exact a3P.nd) (by exact rfl) (by first|exact Or.inl rfl|exact Or.inr rfl) (@a7c _ _ _ _ _ _ _ (@z4_ _ _ _ _ _ (pv 3)) (@x6_ _ _ _ _ (@a0o _ _ _ _ _ (@z8_ _ _ _ _ _ _ (@a0D _ _ _ _ _ _ _ _ _ _ (by exact T.ex) (by decide+kernel) (@z4_ _ _ _ _ _ (pv 1)) (by exact rfl) (by exact T.g_isinstance) (by exact rfl) (by decide) (by exact se2 rfl rfl)) (@z8_ _ _ _ _ _ _ (@a0D _ _ _ _ _ _ _ _ _ _ (by exact T.ex) (by decide+kernel) (@z4_ _ _ _ _ _ (pv 1)) (by exact rfl) (by exact T.g_isinstance) (by exact rfl) (by decide) (by exact se2 rfl rfl)) (@z8_ _ _ _ _ _ _ (@a0D _ _ _ _ _ _ _ _ _ _ (by exact T.ex) (by decide+kernel) (@z4_ _ _ _ _ _ (pv 1)) (by exact rfl) (by exact T.g_isinstance) (by exact rfl) (by decide) (by exact se2 rfl rfl)) (@q5_ _ _) (by exact z1_ rfl)) (by exact z1_ rfl)) (by exact z1_ rfl))))) (by rfl) (by first|exact .inl rfl|exact .inr rfl|assumption)) (@v0_ _ _ _ _ _ _ (@a1V _ _ _ _ _ 3 _ _ (by exact a3P.nd) (by exact rfl) (by first|exact Or.inl rfl|exact Or.inr rfl) (@a7c _ _ _ _ _ _ _ (@z4_ _ _ _ _ _ (pv 3)) (@x6_ _ _ _ _ (@a0o _ _ _ _ _ (@z8_ _ _ _ _ _ _ (@a0D _ _ _ _ _ _ _ _ _ _ (by exact T.ex) (by decide+kernel) (@z4_ _ _ _ _ _ (pv 1)) (by exact rfl) (by exact T.g_isinstance) (by exact rfl) (by decide) (by exact se2 rfl rfl)) (@z8_ _ _ _ _ _ _ (@a0D _ _ _ _ _ _ _ _ _ _ (by exact T.ex) (by decide+kernel) (@z4_ _ _ _ _ _ (pv 1)) (by exact rfl) (by exact T.g_isinstance) (by exact rfl) (by decide) (by exact se2 rfl rfl)) (@z8_ _ _ _ _ _ _ (@a0D _ _ _ _ _ _ _ _ _ _ (by exact T.ex) (by decide+kernel) (@z4_ _ _ _ _ _ (pv 1)) (by exact rfl) (by exact T.g_isinstance) (by exact rfl) (by decide) (by exact se2 rfl rfl)) (@q5_ _ _) (by exact z1_ rfl)) (by exact z1_ rfl)) (by exact z1_ rfl))))) (by rfl) (by first|exact .inl rfl|exact .inr rfl|assumption)) (@v0_ _ _ _ _ _ _ (@a1V _ _ _ _ _ 3 _ _ (by exact a3P.nd) (by exact rfl) (by first|exact Or.inl rfl|exact Or.inr rfl) (@a7c _ _ _ _ _ _ _ (@z4_ _ _ _ _ _ (pv 3)) (@x6_ _ _ _ _ (@a0o _ _ _ _ _ (@z8_ _ _ _ _ _ _ (@a0D _ _ _ _ _ _ _ _ _ _ (by exact T.ex) (by decide+kernel) (@z4_ _ _ _ _ _ (pv 1)) (by exact rfl) (by exact T.g_isinstance) (by exact rfl) (by decide) (by exact se2 rfl rfl)) (@z8_ _ _ _ _ _ _ (@a0D _ _ _ _ _ _ _ _ _ _ (by exact T.ex) (by decide+kernel) (@z4_ _ _ _ _ _ (pv 1)) (by exact rfl) (by exact T.g_isinstance) (by exact rfl) (by decide) (by exact se2 rfl rfl)) (@z8_ _ _ _ _ _ _ (@a0D _ _ _ _ _ _ _ _ _ _ (by exact T.ex) (by decide+kernel) (@z4_ _ _ _ _ _ (pv 1)) (by exact rfl) (by exact T.g_isinstance) (by exact rfl) (by decide) (by exact se2 rfl rfl)) (@q5_ _ _) (by exact z1_ rfl)) (by exact z1_ rfl)) (by exact z1_ rfl))))) (by rfl) (by first|exact .inl rfl|exact .inr rfl|assumption)) (@v0_ _ _ _ _ _ _ (@a6I _ _ _ _ _ _ _ _ _ _ (pv 3) (@z8_ _ _ _ _ _ _ (@a0D _ _ _ _ _ _ _ _ _ _ (by exact T.ex) (by decide+kernel) (@z4_ _ _ _ _ _ (pv 1)) (by exact rfl) (by exact T.g_isinstance) (by exact rfl) (by decide) (by exact se2 rfl rfl)) (@q5_ _ _) (by exact z1_ rfl)) (by rfl) (by rfl) (by rfl) (by exact z1_ rfl) (by exact q2_ rfl) (by rfl)) (@v0_ _ _ _ _ _ _ (@x2_ _ _ _ _ _ _ _ _ _ (@a1S _ _ _ _ (@a2D _ _ _ _ _ _ _ _ (@g4_ _ _ _ _ _ (@g3_ _ _ _ _ (@b6T _ _ _ _ _ _ _ _ _ (by exact T.ex) (@z4_ _ _ _ _ _ (pv 1)) (by exact rfl) (by exact T.g_isinstance) (by exact rfl) (by exact T.g_ValueError) (by exact se2 rfl rfl)) (by intro _;rfl))) (@a2C _ _ _ _ _ (@w5_ _ _ _ _ _ _ _ _ _ _ (by exact(op_neD hr.units)) (by exact opd_eq) (@x8_ _ _ _ _ _ _ _ _ _ _ _ (by exact(b6w rfl)) (by exact b6x) (by exact rfl) (by exact T.g_sum) (by exact b6y) (@z8_ _ _ _ _ _ _ (@x6_ _ _ _ _ (@g7_ _ _ ["-0","-1","-2","-3","_law_one"] _ [false,false,false,false] 1 _ _ _ _ _ _ _ _ _ (by exact(w8_ rfl rfl)) (by exact rfl) (@g5_ _ _ _ _ _ (@z4_ _ _ _ _ _ (pv 3))) (fun s H fp=>(@x1_ _ _ _ _ 4 _ (by exact(show 4≤4 by decide)) (by exact nd9) (by exact rfl) (by first|exact Or.inl rfl|exact Or.inr rfl) (by first|exact .inl rfl|exact .inr rfl|assumption))) (fun s H fp=>(@u3_ _ _)) (fun s H fp=>(@a1A _ _ _ _ _ _ _ _ _ _ _ (by exact b4j) (by exact b5x) (by exact rfl) (by exact T.g_int) (by exact a7g) (@z8_ _ _ _ _ _ _ (@z4_ _ _ _ _ _ (pv 4)) (@q5_ _ _) (by exact z1_ rfl)) (by decide) (by decide) (by exact z1_ rfl) (by exact q2_ rfl))) (by intro _;rfl))) (@q5_ _ _) (by exact z1_ rfl)) (by decide) (by decide) (by exact z1_ rfl) (by exact q2_ rfl)) (@q6_ _ _ _ _ _) (by exact(nomark _)))))) (@q8_ _ _ _ _ (@y0_ _ _ _ _ _ (@a6C _ _ _ _ _ (@q6_ _ _ _ _ _)))) (@k0_ _ _)) (@q8_ _ _ _ _ (@y0_ _ _ _ _ _ (@b7E _ _ _ _ _ _ _ _ (@z4_ _ _ _ _ _ (pv 3)) (@w9_ _ _ _ _ _) (by rfl) (by rfl) (by rfl) (by exact z1_ rfl) (by exact q2_ rfl)))))))))))
theorem a2p:FnScope ["_law_held","_law_found","_law_one","_law_longer","_law_far","_law_row","_law_number"] ["_law_held"] (v7_ a7V):=k8_
theorem b1A:(["-0","-1","-2","-3","-4","-5","-6","_law_far","_law_row"]:List Str).Nodup:=by decide+kernel
def b8S:Mo Fl:=(z9_ (v2_ 1 (mF (k4_ (z2_ (x7_ (z2_ (mC (.int 0)) (z2_ (x7_ z5_) z5_))) z5_)))) (z9_ (j3_ (y6_ (z0_ 0)) (gN 2) (z9_ (u7_ 3 (k4_ z5_)) (z9_ (j3_ (y6_ (z0_ 1)) (gT 2 (gCn (gN 4) (gCn (gN 5) gNl))) (j3_ (y6_ (x7_ (z2_ (a1i (mC (.int 1))) (z2_ (mC (.int 0)) (z2_ (mC (.int 1)) z5_))))) (gN 6) (v1_ (a5e (mT (a0y dLe dLe (mC (.int 0)) (z3_ y4_ (z0_ 4) (z0_ 6)) (mC (.int 1)))) (mT (a0y dLe dLe (mC (.int 0)) (z3_ y4_ (z0_ 2) (z0_ 6)) (mC (.int 1))))) (a2F 3 (x7_ (z2_ (z3_ y4_ (z0_ 4) (z0_ 6)) (z2_ (z3_ y4_ (z0_ 5) (x7_ (z2_ (z0_ 6) z5_))) z5_)))) mNx))) (v2_ 1 (z0_ 3))))) (a2E (mCL a7n (z2_ (mF (v6_ (y6_ (z0_ 1)) [false,false,false,false,false,false,false] 2 (gT 2 (gCn (gN 7) (gCn (gN 8) gNl))) (mT (z3_ (dEq false) (z0_ 7) (mC (.int 1)))) (z0_ 8))) z5_)))))
def a2q:Fn:=fnM 7 b8S
theorem b8T{f:Addr}{fd:FuncData}(F:Fun K "_law_lines" "_law_lines" a7V f fd)(T:Txt K mg):FnOk P w K mg base CX0 1 f fd ["_law_held"] (SpF K 1 a2q):=
 w2_ F a2p fun cdv A outer s H E hr=>(@v0_ _ _ _ _ _ _ (@x9_ _ _ _ _ _ 1 _ _ (by exact a2p.nd) (by exact rfl) (by first|exact Or.inl rfl|exact Or.inr rfl) (@x6_ _ _ _ _ (@a0o _ _ _ _ _ (@z8_ _ _ _ _ _ _ (@a0z _ _ _ _ _ _ (@z8_ _ _ _ _ _ _ (@q6_ _ _ _ _ _) (@z8_ _ _ _ _ _ _ (@a0z _ _ _ _ _ _ (@q5_ _ _)) (@q5_ _ _) (by exact z1_ rfl)) (by exact z1_ rfl))) (@q5_ _ _) (by exact z1_ rfl)))) (by rfl) (by first|exact .inl rfl|exact .inr rfl|assumption)) (@v0_ _ _ _ _ _ _ (@a1k _ _ _ _ _ _ _ _ _ (by exact Yg) (by exact rfl) (@g5_ _ _ _ _ _ (@z4_ _ _ _ _ _ (pv 0))) (@x1_ _ _ _ _ 2 _ (by exact(show 0≤2 by decide)) (by exact a2p.nd) (by exact rfl) (by first|exact Or.inl rfl|exact Or.inr rfl) (by first|exact .inl rfl|exact .inr rfl|assumption)) (@v0_ _ _ _ _ _ _ (@a1V _ _ _ _ _ 3 _ _ (by exact a2p.nd) (by exact rfl) (by first|exact Or.inl rfl|exact Or.inr rfl) (@a0o _ _ _ _ _ (@q5_ _ _)) (by rfl) (by first|exact .inl rfl|exact .inr rfl|assumption)) (@v0_ _ _ _ _ _ _ (@a1k _ _ _ _ _ _ _ _ _ (by exact Yg) (by exact rfl) (@g5_ _ _ _ _ _ (@z4_ _ _ _ _ _ (pv 1))) (@a4k _ _ _ _ _ _ _ _ (by exact rfl) (@a1j _ _ _ _ _ _ _ (@x1_ _ _ _ _ 4 _ (by exact(show 0≤4 by decide)) (by exact a2p.nd) (by exact rfl) (by first|exact Or.inl rfl|exact Or.inr rfl) (by first|exact .inl rfl|exact .inr rfl|assumption)) (@a1j _ _ _ _ _ _ _ (@x1_ _ _ _ _ 5 _ (by exact(show 0≤5 by decide)) (by exact a2p.nd) (by exact rfl) (by first|exact Or.inl rfl|exact Or.inr rfl) (by first|exact .inl rfl|exact .inr rfl|assumption)) (@a4j _ _ _) (by rfl)) (by rfl)) (by rfl) (by rfl)) (@q8_ _ _ _ _ (@a1k _ _ _ _ _ _ _ _ _ (by exact Yg) (by exact rfl) (@g5_ _ _ _ _ _ (@a0z _ _ _ _ _ _ (@z8_ _ _ _ _ _ _ (@a6C _ _ _ _ _ (@q6_ _ _ _ _ _)) (@z8_ _ _ _ _ _ _ (@q6_ _ _ _ _ _) (@z8_ _ _ _ _ _ _ (@q6_ _ _ _ _ _) (@q5_ _ _) (by exact z1_ rfl)) (by exact z1_ rfl)) (by exact z1_ rfl)))) (@x1_ _ _ _ _ 6 _ (by exact(show 0≤6 by decide)) (by exact a2p.nd) (by exact rfl) (by first|exact Or.inl rfl|exact Or.inr rfl) (by first|exact .inl rfl|exact .inr rfl|assumption)) (@q8_ _ _ _ _ (@x2_ _ _ _ _ _ _ _ _ _ (@a1S _ _ _ _ (@b4T _ _ _ _ _ _ _ _ (@a5g _ _ _ _ _ _ _ _ _ _ _ _ _ _ _ (by exact a1e) (by exact a1e) (by exact a1h) (by exact a1h) (@q6_ _ _ _ _ _) (@y1_ _ _ _ _ _ _ _ _ _ _ (by exact u4_) (by exact u5_) (@z4_ _ _ _ _ _ (pv 4)) (@z4_ _ _ _ _ _ (pv 6))) (@q6_ _ _ _ _ _) (by with_unfolding_all rfl)) (@b4S _ _ _ _ _ (@a5g _ _ _ _ _ _ _ _ _ _ _ _ _ _ _ (by exact a1e) (by exact a1e) (by exact a1h) (by exact a1h) (@q6_ _ _ _ _ _) (@y1_ _ _ _ _ _ _ _ _ _ _ (by exact u4_) (by exact u5_) (@z4_ _ _ _ _ _ (pv 2)) (@z4_ _ _ _ _ _ (pv 6))) (@q6_ _ _ _ _ _) (by with_unfolding_all rfl))))) (@q8_ _ _ _ _ (@a6I _ _ _ _ _ _ _ _ _ _ (pv 3) (@z8_ _ _ _ _ _ _ (@a0z _ _ _ _ _ _ (@z8_ _ _ _ _ _ _ (@y1_ _ _ _ _ _ _ _ _ _ _ (by exact u4_) (by exact u5_) (@z4_ _ _ _ _ _ (pv 4)) (@z4_ _ _ _ _ _ (pv 6))) (@z8_ _ _ _ _ _ _ (@y1_ _ _ _ _ _ _ _ _ _ _ (by exact u4_) (by exact u5_) (@z4_ _ _ _ _ _ (pv 5)) (@a0z _ _ _ _ _ _ (@z8_ _ _ _ _ _ _ (@z4_ _ _ _ _ _ (pv 6)) (@q5_ _ _) (by exact z1_ rfl)))) (@q5_ _ _) (by exact z1_ rfl)) (by exact z1_ rfl))) (@q5_ _ _) (by exact z1_ rfl)) (by rfl) (by rfl) (by rfl) (by exact z1_ rfl) (by exact q2_ rfl) (by rfl))) (@k0_ _ _))) (by intro _;rfl))) (by intro _;rfl)) (@q8_ _ _ _ _ (@x9_ _ _ _ _ _ 1 _ _ (by exact a2p.nd) (by exact rfl) (by first|exact Or.inl rfl|exact Or.inr rfl) (@z4_ _ _ _ _ _ (pv 3)) (by rfl) (by first|exact .inl rfl|exact .inr rfl|assumption))))) (by intro _;rfl)) (@q8_ _ _ _ _ (@a6H _ _ _ _ _ (@b4X _ _ _ _ _ _ _ _ _ _ _ (by exact b6s) (by exact b6t) (by exact rfl) (by exact T.g_sorted) (by exact b6m) (@z8_ _ _ _ _ _ _ (@x6_ _ _ _ _ (@g7_ _ _ ["-0","-1","-2","-3","-4","-5","-6","_law_far","_law_row"] _ [false,false,false,false,false,false,false] 2 _ _ _ _ _ _ _ _ _ (by exact(w8_ rfl rfl)) (by exact rfl) (@g5_ _ _ _ _ _ (@z4_ _ _ _ _ _ (pv 1))) (fun s H fp=>(@a4k _ _ _ _ _ _ _ _ (by exact rfl) (@a1j _ _ _ _ _ _ _ (@x1_ _ _ _ _ 7 _ (by exact(show 7≤7 by decide)) (by exact b1A) (by exact rfl) (by first|exact Or.inl rfl|exact Or.inr rfl) (by first|exact .inl rfl|exact .inr rfl|assumption)) (@a1j _ _ _ _ _ _ _ (@x1_ _ _ _ _ 8 _ (by exact(show 7≤8 by decide)) (by exact b1A) (by exact rfl) (by first|exact Or.inl rfl|exact Or.inr rfl) (by first|exact .inl rfl|exact .inr rfl|assumption)) (@a4j _ _ _) (by rfl)) (by rfl)) (by rfl) (by rfl))) (fun s H fp=>(@b0d _ _ _ _ (@w5_ _ _ _ _ _ _ _ _ _ _ (by exact(op_eqD hr.units)) (by exact opd_eq) (@z4_ _ _ _ _ _ (pv 7)) (@q6_ _ _ _ _ _) (by exact(nomark _))))) (fun s H fp=>(@z4_ _ _ _ _ _ (pv 8))) (by intro _;rfl))) (@q5_ _ _) (by exact z1_ rfl)) (by decide) (by decide) (by exact z1_ rfl) (by exact q2_ rfl))))))
theorem a1K:FnScope ["_law_state_here","_law_least","_law_most","_law_side","_law_held","_law_found","_law_turn","_law_rows","_law_row"] ["_law_state_here","_law_least","_law_most"] (v7_ a7W):=k8_
theorem b1B:(["-0","-1","-2","-3","-4","-5","-6","-7","-8","_law_one","_law_number"]:List Str).Nodup:=by decide+kernel
def a8k:Mo Fl:=(z9_ (v2_ 3 (z3_ y4_ (z0_ 1) (mCD 2 x4_ (y8_ 0 (z7_ (z3_ y4_ (z3_ a0S (z0_ 2) (z0_ 1)) (mC (.int 1))) q0_))))) (z9_ (v2_ 4 (z3_ j5_ (x7_ (z2_ (mC (.int 0)) z5_)) (z0_ 3))) (z9_ (v2_ 5 (x7_ z5_)) (z9_ (j3_ (j2_ (z2_ (z0_ 3) z5_)) (gN 6) (z9_ (v2_ 7 (mF (a1C 1 a2q (z7_ (z0_ 4) q0_)))) (z9_ (v2_ 8 (z3_ dIx (z0_ 7) (mCD 2 x4_ (y8_ 0 (z7_ (mCB v5_ (z2_ (z0_ 7) z5_)) q0_))))) (z9_ (v2_ 4 (mCB u6_ (z2_ (mF (v6_ (a1o (z2_ (z0_ 4) (z2_ (z0_ 8) z5_))) [false,false,false,false,false,false,false,false,false] 2 (gT 2 (gCn (gN 9) (gCn (gN 10) gNl))) v9_ (z3_ y4_ (z0_ 9) (z0_ 10)))) z5_))) (v2_ 5 (z3_ y4_ (z0_ 5) (x7_ (z2_ (z0_ 8) z5_)))))))) (q7_ (z0_ 5))))))
def a2X:Fn:=fnM 9 a8k
theorem b8U{f:Addr}{fd:FuncData}(F:Fun K "_law_table" "_law_table" a7W f fd)(T:Txt K mg)(d__law_take:Def P w K mg base "_law_take" 1 2 x4_)(d__law_lines:Def P w K mg base "_law_lines" 1 1 a2q):FnOk P w K mg base CX0 2 f fd ["_law_state_here","_law_least","_law_most"] (SpF K 3 a2X):=
 w2_ F a1K fun cdv A outer s H E hr=>(@v0_ _ _ _ _ _ _ (@x9_ _ _ _ _ _ 3 _ _ (by exact a1K.nd) (by exact rfl) (by first|exact Or.inl rfl|exact Or.inr rfl) (@y1_ _ _ _ _ _ _ _ _ _ _ (by exact u4_) (by exact u5_) (@z4_ _ _ _ _ _ (pv 1)) (@x0_ _ _ _ _ _ _ _ _ _ _ _ (by exact d__law_take) (by exact(hr.mono (show 1≤1 by decide))) (by exact rfl) (@a0G _ _ _ _ _ _ _ (pv 0) (@v4_ _ _ _ _ _ _ (@y1_ _ _ _ _ _ _ _ _ _ _ (by exact u4_) (by exact u5_) (@y1_ _ _ _ _ _ _ _ _ _ _ (by exact a6o) (by exact a6A) (@z4_ _ _ _ _ _ (pv 2)) (@z4_ _ _ _ _ _ (pv 1))) (@q6_ _ _ _ _ _)) (@y5_ _ _) (by exact z1_ rfl)) (by exact z1_ rfl)) (by decide) (by exact z1_ rfl) (by exact q2_ rfl))) (by rfl) (by first|exact .inl rfl|exact .inr rfl|assumption)) (@v0_ _ _ _ _ _ _ (@x9_ _ _ _ _ _ 4 _ _ (by exact a1K.nd) (by exact rfl) (by first|exact Or.inl rfl|exact Or.inr rfl) (@y1_ _ _ _ _ _ _ _ _ _ _ (by exact a2L) (by exact a2M) (@a0z _ _ _ _ _ _ (@z8_ _ _ _ _ _ _ (@q6_ _ _ _ _ _) (@q5_ _ _) (by exact z1_ rfl))) (@z4_ _ _ _ _ _ (pv 3))) (by rfl) (by first|exact .inl rfl|exact .inr rfl|assumption)) (@v0_ _ _ _ _ _ _ (@x9_ _ _ _ _ _ 5 _ _ (by exact a1K.nd) (by exact rfl) (by first|exact Or.inl rfl|exact Or.inr rfl) (@a0z _ _ _ _ _ _ (@q5_ _ _)) (by rfl) (by first|exact .inl rfl|exact .inr rfl|assumption)) (@v0_ _ _ _ _ _ _ (@a1k _ _ _ _ _ _ _ _ _ (by exact Yg) (by exact rfl) (@a3p _ _ _ _ _ _ _ (by exact rfl) (by exact T.g_range) (@z8_ _ _ _ _ _ _ (@z4_ _ _ _ _ _ (pv 3)) (@q5_ _ _) (by exact z1_ rfl)) (by exact se1 rfl)) (@x1_ _ _ _ _ 6 _ (by exact(show 0≤6 by decide)) (by exact a1K.nd) (by exact rfl) (by first|exact Or.inl rfl|exact Or.inr rfl) (by first|exact .inl rfl|exact .inr rfl|assumption)) (@v0_ _ _ _ _ _ _ (@x9_ _ _ _ _ _ 7 _ _ (by exact a1K.nd) (by exact rfl) (by first|exact Or.inl rfl|exact Or.inr rfl) (@x6_ _ _ _ _ (@b0A _ _ _ _ _ _ _ _ _ _ _ (by exact d__law_lines) (by exact(hr.mono (show 1≤1 by decide))) (by exact rfl) (@v4_ _ _ _ _ _ _ (@z4_ _ _ _ _ _ (pv 4)) (@y5_ _ _) (by exact z1_ rfl)) (by decide) (by exact z1_ rfl) (by exact q2_ rfl))) (by rfl) (by first|exact .inl rfl|exact .inr rfl|assumption)) (@v0_ _ _ _ _ _ _ (@x9_ _ _ _ _ _ 8 _ _ (by exact a1K.nd) (by exact rfl) (by first|exact Or.inl rfl|exact Or.inr rfl) (@a1z _ _ _ _ _ _ _ (@z4_ _ _ _ _ _ (pv 7)) (@x0_ _ _ _ _ _ _ _ _ _ _ _ (by exact d__law_take) (by exact(hr.mono (show 1≤1 by decide))) (by exact rfl) (@a0G _ _ _ _ _ _ _ (pv 0) (@v4_ _ _ _ _ _ _ (@x8_ _ _ _ _ _ _ _ _ _ _ _ (by exact g2_) (by exact u1_) (by exact rfl) (by exact T.g_len) (by exact Zw) (@z8_ _ _ _ _ _ _ (@z4_ _ _ _ _ _ (pv 7)) (@q5_ _ _) (by exact z1_ rfl)) (by decide) (by decide) (by exact z1_ rfl) (by exact q2_ rfl)) (@y5_ _ _) (by exact z1_ rfl)) (by exact z1_ rfl)) (by decide) (by exact z1_ rfl) (by exact q2_ rfl)) (fun _ _=>rfl)) (by rfl) (by first|exact .inl rfl|exact .inr rfl|assumption)) (@v0_ _ _ _ _ _ _ (@x9_ _ _ _ _ _ 4 _ _ (by exact a1K.nd) (by exact rfl) (by first|exact Or.inl rfl|exact Or.inr rfl) (@a1A _ _ _ _ _ _ _ _ _ _ _ (by exact a1P) (by exact a1U) (by exact rfl) (by exact T.g_tuple) (by exact a0b) (@z8_ _ _ _ _ _ _ (@x6_ _ _ _ _ (@g7_ _ _ ["-0","-1","-2","-3","-4","-5","-6","-7","-8","_law_one","_law_number"] _ [false,false,false,false,false,false,false,false,false] 2 _ _ _ _ _ _ _ _ _ (by exact(w8_ rfl rfl)) (by exact rfl) (@b0r _ _ _ _ _ _ _ _ _ _ (by exact rfl) (by exact T.g_zip) (@z8_ _ _ _ _ _ _ (@z4_ _ _ _ _ _ (pv 4)) (@z8_ _ _ _ _ _ _ (@z4_ _ _ _ _ _ (pv 8)) (@q5_ _ _) (by exact z1_ rfl)) (by exact z1_ rfl)) (by exact se2 rfl rfl) (by exact se1 rfl)) (fun s H fp=>(@a4k _ _ _ _ _ _ _ _ (by exact rfl) (@a1j _ _ _ _ _ _ _ (@x1_ _ _ _ _ 9 _ (by exact(show 9≤9 by decide)) (by exact b1B) (by exact rfl) (by first|exact Or.inl rfl|exact Or.inr rfl) (by first|exact .inl rfl|exact .inr rfl|assumption)) (@a1j _ _ _ _ _ _ _ (@x1_ _ _ _ _ 10 _ (by exact(show 9≤10 by decide)) (by exact b1B) (by exact rfl) (by first|exact Or.inl rfl|exact Or.inr rfl) (by first|exact .inl rfl|exact .inr rfl|assumption)) (@a4j _ _ _) (by rfl)) (by rfl)) (by rfl) (by rfl))) (fun s H fp=>(@u3_ _ _)) (fun s H fp=>(@y1_ _ _ _ _ _ _ _ _ _ _ (by exact u4_) (by exact u5_) (@z4_ _ _ _ _ _ (pv 9)) (@z4_ _ _ _ _ _ (pv 10)))) (by intro _;rfl))) (@q5_ _ _) (by exact z1_ rfl)) (by decide) (by decide) (by exact z1_ rfl) (by exact q2_ rfl)) (by rfl) (by first|exact .inl rfl|exact .inr rfl|assumption)) (@q8_ _ _ _ _ (@x9_ _ _ _ _ _ 5 _ _ (by exact a1K.nd) (by exact rfl) (by first|exact Or.inl rfl|exact Or.inr rfl) (@y1_ _ _ _ _ _ _ _ _ _ _ (by exact u4_) (by exact u5_) (@z4_ _ _ _ _ _ (pv 5)) (@a0z _ _ _ _ _ _ (@z8_ _ _ _ _ _ _ (@z4_ _ _ _ _ _ (pv 8)) (@q5_ _ _) (by exact z1_ rfl)))) (by rfl) (by first|exact .inl rfl|exact .inr rfl|assumption)))))) (by intro _;rfl)) (@q8_ _ _ _ _ (@y0_ _ _ _ _ _ (@z4_ _ _ _ _ _ (pv 5))))))))
theorem b8V:FnScope ["_law_thing","_law_least","_law_most"] ["_law_thing","_law_least","_law_most"] (v7_ a7X):=k8_
def a8l:Mo Fl:=(q7_ (a0x (mIs "int" (z0_ 0)) (a0x (a5f (mIs "bool" (z0_ 0))) (a0y dLe dLe (z0_ 1) (z0_ 0) (z0_ 2)))))
def a1s:Fn:=fnM 3 a8l
theorem b8W{f:Addr}{fd:FuncData}(F:Fun K "_law_whole" "_law_whole" a7X f fd)(T:Txt K mg):FnOk P w K mg base CX0 1 f fd ["_law_thing","_law_least","_law_most"] (SpF K 3 a1s):=
 w2_ F b8V fun cdv A outer s H E hr=>(@q8_ _ _ _ _ (@y0_ _ _ _ _ _ (@a3n _ _ _ _ _ _ _ _ (@u8_ _ _ _ _ _ _ _ _ _ (by exact b0f) (@z4_ _ _ _ _ _ (pv 0)) (by exact rfl) (by exact T.g_isinstance) (by exact rfl) (by exact T.g_int) (by exact a7g) (by decide) (by decide) (by exact se2 rfl rfl)) (@a3n _ _ _ _ _ _ _ _ (@a9L _ _ _ _ _ (@u8_ _ _ _ _ _ _ _ _ _ (by exact a5p) (@z4_ _ _ _ _ _ (pv 0)) (by exact rfl) (by exact T.g_isinstance) (by exact rfl) (by exact T.g_bool) (by exact a5w) (by decide) (by decide) (by exact se2 rfl rfl))) (@a3m _ _ _ _ _ _ (@b4V _ _ _ _ _ _ _ _ _ _ _ _ _ _ _ (by exact a1e) (by exact a1e) (by exact a1h) (by exact a1h) (@z4_ _ _ _ _ _ (pv 1)) (@z4_ _ _ _ _ _ (pv 0)) (@z4_ _ _ _ _ _ (pv 2)) (by with_unfolding_all rfl)))))))
theorem b1C:FnScope ["_law_line","_law_some"] ["_law_line"] (v7_ a7Y):=k8_
theorem b8X:(["-0","-1","_law_at"]:List Str).Nodup:=by decide+kernel
theorem b8Y:(["-0","-1","_law_number"]:List Str).Nodup:=by decide+kernel
def a8m:Mo Fl:=(z9_ (u7_ 1 (v6_ (y6_ (z0_ 0)) [false,false] 1 (gN 2) (mT (z3_ (dEq true) (z0_ 2) (mC (.int 0)))) (z0_ 2))) (q7_ (a0x (z3_ (dEq false) (z0_ 1) (mF (v6_ (j2_ (z2_ (mCB v5_ (z2_ (z0_ 1) z5_)) z5_)) [false,false] 1 (gN 2) v9_ (z3_ a0S (mC (.int 1)) (z3_ j5_ (mC (.int 2)) (z3_ j0_ (z0_ 2) (mC (.int 2)))))))) (z3_ (dEq false) (z3_ j0_ (mCB v5_ (z2_ (z0_ 1) z5_)) (mC (.int 2))) (mC (.int 1))))))
def a1b:Fn:=fnM 2 a8m
theorem b8Z{f:Addr}{fd:FuncData}(F:Fun K "_law_turns" "_law_turns" a7Y f fd)(T:Txt K mg):FnOk P w K mg base CX0 1 f fd ["_law_line"] (SpF K 1 a1b):=
 w2_ F b1C fun cdv A outer s H E hr=>(@v0_ _ _ _ _ _ _ (@b5s _ _ ["-0","-1","_law_number"] _ [false,false] 1 _ _ _ _ _ _ _ _ _ 1 _ _ _ (by exact(w8_ rfl rfl)) (by exact rfl) (by exact b1C.nd) (by exact rfl) (by exact rfl) (by exact rfl) (@g5_ _ _ _ _ _ (@z4_ _ _ _ _ _ (pv 0))) (fun s H fp=>(@x1_ _ _ _ _ 2 _ (by exact(show 2≤2 by decide)) (by exact b8Y) (by exact rfl) (by first|exact Or.inl rfl|exact Or.inr rfl) (by first|exact .inl rfl|exact .inr rfl|assumption))) (fun s H fp=>(@b0d _ _ _ _ (@w5_ _ _ _ _ _ _ _ _ _ _ (by exact(op_neD hr.units)) (by exact opd_eq) (@z4_ _ _ _ _ _ (pv 2)) (@q6_ _ _ _ _ _) (by exact(nomark _))))) (fun s H fp=>(@z4_ _ _ _ _ _ (pv 2))) (by intro _;rfl)) (@q8_ _ _ _ _ (@y0_ _ _ _ _ _ (@a3n _ _ _ _ _ _ _ _ (@a2A _ _ _ _ _ _ _ _ _ _ (by exact(op_eqD hr.units)) (by exact opd_eq) (@z4_ _ _ _ _ _ (pv 1)) (@x6_ _ _ _ _ (@g7_ _ _ ["-0","-1","_law_at"] _ [false,false] 1 _ _ _ _ _ _ _ _ _ (by exact(w8_ rfl rfl)) (by exact rfl) (@a3p _ _ _ _ _ _ _ (by exact rfl) (by exact T.g_range) (@z8_ _ _ _ _ _ _ (@x8_ _ _ _ _ _ _ _ _ _ _ _ (by exact g2_) (by exact u1_) (by exact rfl) (by exact T.g_len) (by exact Zw) (@z8_ _ _ _ _ _ _ (@z4_ _ _ _ _ _ (pv 1)) (@q5_ _ _) (by exact z1_ rfl)) (by decide) (by decide) (by exact z1_ rfl) (by exact q2_ rfl)) (@q5_ _ _) (by exact z1_ rfl)) (by exact se1 rfl)) (fun s H fp=>(@x1_ _ _ _ _ 2 _ (by exact(show 2≤2 by decide)) (by exact b8X) (by exact rfl) (by first|exact Or.inl rfl|exact Or.inr rfl) (by first|exact .inl rfl|exact .inr rfl|assumption))) (fun s H fp=>(@u3_ _ _)) (fun s H fp=>(@y1_ _ _ _ _ _ _ _ _ _ _ (by exact a6o) (by exact a6A) (@q6_ _ _ _ _ _) (@y1_ _ _ _ _ _ _ _ _ _ _ (by exact a2L) (by exact a2M) (@q6_ _ _ _ _ _) (@y1_ _ _ _ _ _ _ _ _ _ _ (by exact a1N) (by exact a1R) (@z4_ _ _ _ _ _ (pv 2)) (@q6_ _ _ _ _ _))))) (by intro _;rfl))) (by exact(nomark _))) (@a3m _ _ _ _ _ _ (@a2A _ _ _ _ _ _ _ _ _ _ (by exact(op_eqD hr.units)) (by exact opd_eq) (@y1_ _ _ _ _ _ _ _ _ _ _ (by exact a1N) (by exact a1R) (@x8_ _ _ _ _ _ _ _ _ _ _ _ (by exact g2_) (by exact u1_) (by exact rfl) (by exact T.g_len) (by exact Zw) (@z8_ _ _ _ _ _ _ (@z4_ _ _ _ _ _ (pv 1)) (@q5_ _ _) (by exact z1_ rfl)) (by decide) (by decide) (by exact z1_ rfl) (by exact q2_ rfl)) (@q6_ _ _ _ _ _)) (@q6_ _ _ _ _ _) (by exact(nomark _))))))))
theorem a8n:FnScope ["_law_thing","_law_row","_law_number"] ["_law_thing"] (v7_ a7Z):=k8_
theorem b9a:(["_law_thing","_law_row","-2","_law_at"]:List Str).Nodup:=by decide+kernel
theorem b9b:(["-0","-1","-2","_law_at","_law_row"]:List Str).Nodup:=by decide+kernel
def a2Y:Mo Fl:=(z9_ (v1_ (j1_ (y2_ (mT (mIs "tuple" (z0_ 0)))) (y2_ (mT (a0y dLe dLe (mC (.int 1)) (mCB v5_ (z2_ (z0_ 0) z5_)) (mC (.int 6)))))) (q7_ (mC (.bl false))) mNx) (z9_ (j3_ (y6_ (z0_ 0)) (gN 1) (z9_ (v1_ (j1_ (y2_ (mT (mIs "tuple" (z0_ 1)))) (mT (z3_ (dEq true) (mCB v5_ (z2_ (z0_ 1) z5_)) (mCB v5_ (z2_ (z0_ 0) z5_))))) (q7_ (mC (.bl false))) mNx) (z9_ (j3_ (y6_ (z0_ 1)) (gN 2) (v1_ (y2_ (mT (mCD 3 a1s (z7_ (z0_ 2) (z7_ (a1i (mC (.int 1))) (z7_ (mC (.int 1)) q0_)))))) (q7_ (mC (.bl false))) mNx)) (v1_ (y2_ (mT (mCD 1 a1b (z7_ (z0_ 1) q0_)))) (q7_ (mC (.bl false))) mNx)))) (q7_ (mCB a1m (z2_ (mF (v6_ (j2_ (z2_ (mCB v5_ (z2_ (z0_ 0) z5_)) z5_)) [true,true,false] 1 (gN 3) v9_ (mCD 1 a1b (z7_ (mF (v6_ (y6_ (z0_ 0)) [false,false,false,true] 1 (gN 4) v9_ (z3_ dIx (z0_ 4) (z0_ 3)))) q0_)))) z5_)))))
def a3Q:Fn:=fnM 3 a2Y
theorem b9c{f:Addr}{fd:FuncData}(F:Fun K "_law_is_table" "_law_is_table" a7Z f fd)(T:Txt K mg)(d__law_turns:Def P w K mg base "_law_turns" 1 1 a1b)(d__law_whole:Def P w K mg base "_law_whole" 1 3 a1s):FnOk P w K mg base CX0 2 f fd ["_law_thing"] (SpF K 1 a3Q):=
 w2_ F a8n fun cdv A outer s H E hr=>(@v0_ _ _ _ _ _ _ (@x2_ _ _ _ _ _ _ _ _ _ (@a1S _ _ _ _ (@a2D _ _ _ _ _ _ _ _ (@g4_ _ _ _ _ _ (@g3_ _ _ _ _ (@u8_ _ _ _ _ _ _ _ _ _ (by exact a2a) (@z4_ _ _ _ _ _ (pv 0)) (by exact rfl) (by exact T.g_isinstance) (by exact rfl) (by exact T.g_tuple) (by exact a0b) (by decide) (by decide) (by exact se2 rfl rfl)) (by intro _;rfl))) (@a2C _ _ _ _ _ (@g4_ _ _ _ _ _ (@a5g _ _ _ _ _ _ _ _ _ _ _ _ _ _ _ (by exact a1e) (by exact a1e) (by exact a1h) (by exact a1h) (@q6_ _ _ _ _ _) (@x8_ _ _ _ _ _ _ _ _ _ _ _ (by exact g2_) (by exact u1_) (by exact rfl) (by exact T.g_len) (by exact Zw) (@z8_ _ _ _ _ _ _ (@z4_ _ _ _ _ _ (pv 0)) (@q5_ _ _) (by exact z1_ rfl)) (by decide) (by decide) (by exact z1_ rfl) (by exact q2_ rfl)) (@q6_ _ _ _ _ _) (by with_unfolding_all rfl)))))) (@q8_ _ _ _ _ (@y0_ _ _ _ _ _ (@w9_ _ _ _ _ _))) (@k0_ _ _)) (@v0_ _ _ _ _ _ _ (@a1k _ _ _ _ _ _ _ _ _ (by exact Yg) (by exact rfl) (@g5_ _ _ _ _ _ (@z4_ _ _ _ _ _ (pv 0))) (@x1_ _ _ _ _ 1 _ (by exact(show 0≤1 by decide)) (by exact a8n.nd) (by exact rfl) (by first|exact Or.inl rfl|exact Or.inr rfl) (by first|exact .inl rfl|exact .inr rfl|assumption)) (@v0_ _ _ _ _ _ _ (@x2_ _ _ _ _ _ _ _ _ _ (@a1S _ _ _ _ (@a2D _ _ _ _ _ _ _ _ (@g4_ _ _ _ _ _ (@g3_ _ _ _ _ (@u8_ _ _ _ _ _ _ _ _ _ (by exact a2a) (@z4_ _ _ _ _ _ (pv 1)) (by exact rfl) (by exact T.g_isinstance) (by exact rfl) (by exact T.g_tuple) (by exact a0b) (by decide) (by decide) (by exact se2 rfl rfl)) (by intro _;rfl))) (@a2C _ _ _ _ _ (@w5_ _ _ _ _ _ _ _ _ _ _ (by exact(op_neD hr.units)) (by exact opd_eq) (@x8_ _ _ _ _ _ _ _ _ _ _ _ (by exact g2_) (by exact u1_) (by exact rfl) (by exact T.g_len) (by exact Zw) (@z8_ _ _ _ _ _ _ (@z4_ _ _ _ _ _ (pv 1)) (@q5_ _ _) (by exact z1_ rfl)) (by decide) (by decide) (by exact z1_ rfl) (by exact q2_ rfl)) (@x8_ _ _ _ _ _ _ _ _ _ _ _ (by exact g2_) (by exact u1_) (by exact rfl) (by exact T.g_len) (by exact Zw) (@z8_ _ _ _ _ _ _ (@z4_ _ _ _ _ _ (pv 0)) (@q5_ _ _) (by exact z1_ rfl)) (by decide) (by decide) (by exact z1_ rfl) (by exact q2_ rfl)) (by exact(nomark _)))))) (@q8_ _ _ _ _ (@y0_ _ _ _ _ _ (@w9_ _ _ _ _ _))) (@k0_ _ _)) (@v0_ _ _ _ _ _ _ (@a1k _ _ _ _ _ _ _ _ _ (by exact Yg) (by exact rfl) (@g5_ _ _ _ _ _ (@z4_ _ _ _ _ _ (pv 1))) (@x1_ _ _ _ _ 2 _ (by exact(show 0≤2 by decide)) (by exact a8n.nd) (by exact rfl) (by first|exact Or.inl rfl|exact Or.inr rfl) (by first|exact .inl rfl|exact .inr rfl|assumption)) (@q8_ _ _ _ _ (@x2_ _ _ _ _ _ _ _ _ _ (@g4_ _ _ _ _ _ (@g3_ _ _ _ _ (@x0_ _ _ _ _ _ _ _ _ _ _ _ (by exact d__law_whole) (by exact(hr.mono (show 1≤1 by decide))) (by exact rfl) (@v4_ _ _ _ _ _ _ (@z4_ _ _ _ _ _ (pv 2)) (@v4_ _ _ _ _ _ _ (@a6C _ _ _ _ _ (@q6_ _ _ _ _ _)) (@v4_ _ _ _ _ _ _ (@q6_ _ _ _ _ _) (@y5_ _ _) (by exact z1_ rfl)) (by exact z1_ rfl)) (by exact z1_ rfl)) (by decide) (by exact z1_ rfl) (by exact q2_ rfl)) (by intro _;rfl))) (@q8_ _ _ _ _ (@y0_ _ _ _ _ _ (@w9_ _ _ _ _ _))) (@k0_ _ _))) (by intro _;rfl)) (@q8_ _ _ _ _ (@x2_ _ _ _ _ _ _ _ _ _ (@g4_ _ _ _ _ _ (@g3_ _ _ _ _ (@x0_ _ _ _ _ _ _ _ _ _ _ _ (by exact d__law_turns) (by exact(hr.mono (show 1≤1 by decide))) (by exact rfl) (@v4_ _ _ _ _ _ _ (@z4_ _ _ _ _ _ (pv 1)) (@y5_ _ _) (by exact z1_ rfl)) (by decide) (by exact z1_ rfl) (by exact q2_ rfl)) (by intro _;rfl))) (@q8_ _ _ _ _ (@y0_ _ _ _ _ _ (@w9_ _ _ _ _ _))) (@k0_ _ _))))) (by intro _;rfl)) (@q8_ _ _ _ _ (@y0_ _ _ _ _ _ (@x8_ _ _ _ _ _ _ _ _ _ _ _ (by exact(a3s rfl)) (by exact a3t) (by exact rfl) (by exact T.g_all) (by exact a3z) (@z8_ _ _ _ _ _ _ (@x6_ _ _ _ _ (@g7_ _ _ ["_law_thing","_law_row","-2","_law_at"] _ [true,true,false] 1 _ _ _ _ _ _ _ _ _ (by exact(w8_ rfl rfl)) (by exact rfl) (@a3p _ _ _ _ _ _ _ (by exact rfl) (by exact T.g_range) (@z8_ _ _ _ _ _ _ (@x8_ _ _ _ _ _ _ _ _ _ _ _ (by exact g2_) (by exact u1_) (by exact rfl) (by exact T.g_len) (by exact Zw) (@z8_ _ _ _ _ _ _ (@z4_ _ _ _ _ _ (pv 0)) (@q5_ _ _) (by exact z1_ rfl)) (by decide) (by decide) (by exact z1_ rfl) (by exact q2_ rfl)) (@q5_ _ _) (by exact z1_ rfl)) (by exact se1 rfl)) (fun s H fp=>(@x1_ _ _ _ _ 3 _ (by exact(show 3≤3 by decide)) (by exact b9a) (by exact rfl) (by first|exact Or.inl rfl|exact Or.inr rfl) (by first|exact .inl rfl|exact .inr rfl|assumption))) (fun s H fp=>(@u3_ _ _)) (fun s H fp=>(@x0_ _ _ _ _ _ _ _ _ _ _ _ (by exact d__law_turns) (by exact(hr.mono (show 1≤1 by decide))) (by exact rfl) (@v4_ _ _ _ _ _ _ (@x6_ _ _ _ _ (@g7_ _ _ ["-0","-1","-2","_law_at","_law_row"] _ [false,false,false,true] 1 _ _ _ _ _ _ _ _ _ (by exact(w8_ rfl rfl)) (by exact rfl) (@g5_ _ _ _ _ _ (@z4_ _ _ _ _ _ (pv 0))) (fun s H fp=>(@x1_ _ _ _ _ 4 _ (by exact(show 4≤4 by decide)) (by exact b9b) (by exact rfl) (by first|exact Or.inl rfl|exact Or.inr rfl) (by first|exact .inl rfl|exact .inr rfl|assumption))) (fun s H fp=>(@u3_ _ _)) (fun s H fp=>(@a1z _ _ _ _ _ _ _ (@z4_ _ _ _ _ _ (pv 4)) (@z4_ _ _ _ _ _ (pv 3)) (fun _ _=>rfl))) (by intro _;rfl))) (@y5_ _ _) (by exact z1_ rfl)) (by decide) (by exact z1_ rfl) (by exact q2_ rfl))) (by intro _;rfl))) (@q5_ _ _) (by exact z1_ rfl)) (by decide) (by decide) (by exact z1_ rfl) (by exact q2_ rfl))))))
theorem b1D:FnScope ["_law_table_here","_law_words"] ["_law_table_here"] (v7_ a8a):=k8_
theorem b9d:(["-0","_law_words","_law_row"]:List Str).Nodup:=by decide+kernel
theorem b9e:(["-0","_law_words","-2","_law_number"]:List Str).Nodup:=by decide+kernel
def a8o:Mo Fl:=(z9_ (v2_ 1 (mC (.obj (.dk [(.inl 0,.inr "0"),(.inl 1,.inr "+"),(.inl (-1),.inr "-")])))) (q7_ (z3_ a0L (mC (.str "/")) (mF (v6_ (y6_ (z0_ 0)) [false,true] 1 (gN 2) v9_ (z3_ a0L (mC (.str "")) (mF (v6_ (y6_ (z0_ 2)) [false,true,false] 1 (gN 3) v9_ (z3_ a7D (z0_ 1) (z0_ 3))))))))))
def a3R:Fn:=fnM 2 a8o
theorem b9f{f:Addr}{fd:FuncData}(F:Fun K "_law_text" "_law_text" a8a f fd)(T:Txt K mg):FnOk P w K mg base CX0 1 f fd ["_law_table_here"] (SpF K 1 a3R):=
 w2_ F b1D fun cdv A outer s H E hr=>(@v0_ _ _ _ _ _ _ (@x9_ _ _ _ _ _ 1 _ _ (by exact b1D.nd) (by exact rfl) (by first|exact Or.inl rfl|exact Or.inr rfl) (@b1l _ _ _ _ _ _ _ _ _ _ _ _ _ _ _ (by exact a3d) (by exact a3d) (by exact a7d) (by exact a2v) (by exact a2v) (by exact a2v) (fun _ _ _=>rfl)) (by rfl) (by first|exact .inl rfl|exact .inr rfl|assumption)) (@q8_ _ _ _ _ (@y0_ _ _ _ _ _ (@a7z _ _ _ _ _ _ _ _ (@j7_ _ _ _ _ _ (by decide)) (@x6_ _ _ _ _ (@g7_ _ _ ["-0","_law_words","_law_row"] _ [false,true] 1 _ _ _ _ _ _ _ _ _ (by exact(w8_ rfl rfl)) (by exact rfl) (@g5_ _ _ _ _ _ (@z4_ _ _ _ _ _ (pv 0))) (fun s H fp=>(@x1_ _ _ _ _ 2 _ (by exact(show 2≤2 by decide)) (by exact b9d) (by exact rfl) (by first|exact Or.inl rfl|exact Or.inr rfl) (by first|exact .inl rfl|exact .inr rfl|assumption))) (fun s H fp=>(@u3_ _ _)) (fun s H fp=>(@a7z _ _ _ _ _ _ _ _ (@j7_ _ _ _ _ _ (by decide)) (@x6_ _ _ _ _ (@g7_ _ _ ["-0","_law_words","-2","_law_number"] _ [false,true,false] 1 _ _ _ _ _ _ _ _ _ (by exact(w8_ rfl rfl)) (by exact rfl) (@g5_ _ _ _ _ _ (@z4_ _ _ _ _ _ (pv 2))) (fun s H fp=>(@x1_ _ _ _ _ 3 _ (by exact(show 3≤3 by decide)) (by exact b9e) (by exact rfl) (by first|exact Or.inl rfl|exact Or.inr rfl) (by first|exact .inl rfl|exact .inr rfl|assumption))) (fun s H fp=>(@u3_ _ _)) (fun s H fp=>(@b7O _ _ _ _ _ _ _ (@z4_ _ _ _ _ _ (pv 1)) (@z4_ _ _ _ _ _ (pv 3)) (fun _ _=>rfl))) (by intro _;rfl))) (by rfl) (by rfl) (by rfl) (by exact z1_ rfl) (by exact q2_ rfl))) (by intro _;rfl))) (by rfl) (by rfl) (by rfl) (by exact z1_ rfl) (by exact q2_ rfl)))))
theorem b9g:FnScope ["_law_found","_law_due_here"] ["_law_found","_law_due_here"] (v7_ a8b):=k8_
theorem b1E:(["-0","-1","_law_one","_law_other"]:List Str).Nodup:=by decide+kernel
def a4J(r_:Fn):Mo Fl:=(z9_ (v1_ (mT (b0L "list" "tuple" (z0_ 1))) (z9_ (v1_ (j1_ (mT (z3_ (dEq true) (mIs "list" (z0_ 0)) (mIs "list" (z0_ 1)))) (mT (z3_ (dEq true) (mIs "tuple" (z0_ 0)) (mIs "tuple" (z0_ 1))))) (q7_ (mC (.bl false))) mNx) (q7_ (a0x (z3_ (dEq false) (mCB v5_ (z2_ (z0_ 0) z5_)) (mCB v5_ (z2_ (z0_ 1) z5_))) (mCB a1m (z2_ (mF (v6_ (a1o (z2_ (z0_ 0) (z2_ (z0_ 1) z5_))) [false,false] 2 (gT 2 (gCn (gN 2) (gCn (gN 3) gNl))) v9_ (mCD 2 r_ (z7_ (z0_ 2) (z7_ (z0_ 3) q0_))))) z5_))))) mNx) (q7_ (a0x (z3_ (dEq false) (mIs "bool" (z0_ 0)) (mIs "bool" (z0_ 1))) (z3_ (dEq false) (z0_ 0) (z0_ 1)))))
def a0l:Nat->Fn
 |0=>fun _=>none
 |n_+1=>fnM 2 (a4J (a0l n_))
theorem b1F{f:Addr}{fd:FuncData}(F:Fun K "_law_same" "_law_same" a8b f fd)(T:Txt K mg)(hmg:mg "_law_same"=some (.ref f))(hkp:PySem.W.keepIn K (.ref f)=true)(hbd:a0w K fd ["_law_found","_law_due_here"] []):∀n_:Nat,FnOk P w K mg base CX0 (1+n_) f fd ["_law_found","_law_due_here"] (SpF K 2 (a0l n_))
 |0=>b6z
 |n_+1=>by
  have d__law_same:Def P w K mg base "_law_same" (1+n_) 2 (a0l n_):=⟨_,_,_,b1F F T hmg hkp hbd n_,rfl,hmg,hkp,hbd⟩
  exact w2_ F b9g fun cdv A outer s H E hr=>(@v0_ _ _ _ _ _ _ (@x2_ _ _ _ _ _ _ _ _ _ (@g3_ _ _ _ _ (@b6v _ _ _ _ _ _ _ _ _ _ _ _ _ _ (by exact a6Y) (by exact a2a) (@z4_ _ _ _ _ _ (pv 1)) (by exact rfl) (by exact T.g_isinstance) (by exact rfl) (by exact T.g_list) (by exact a7h) (by exact rfl) (by exact T.g_tuple) (by exact a0b) (by decide) (by decide) (by decide) (by decide) (by exact se2 rfl rfl)) (by intro _;rfl)) (@v0_ _ _ _ _ _ _ (@x2_ _ _ _ _ _ _ _ _ _ (@a1S _ _ _ _ (@a2D _ _ _ _ _ _ _ _ (@w5_ _ _ _ _ _ _ _ _ _ _ (by exact(op_neD hr.units)) (by exact opd_eq) (@u8_ _ _ _ _ _ _ _ _ _ (by exact a6Y) (@z4_ _ _ _ _ _ (pv 0)) (by exact rfl) (by exact T.g_isinstance) (by exact rfl) (by exact T.g_list) (by exact a7h) (by decide) (by decide) (by exact se2 rfl rfl)) (@u8_ _ _ _ _ _ _ _ _ _ (by exact a6Y) (@z4_ _ _ _ _ _ (pv 1)) (by exact rfl) (by exact T.g_isinstance) (by exact rfl) (by exact T.g_list) (by exact a7h) (by decide) (by decide) (by exact se2 rfl rfl)) (by exact(nomark _))) (@a2C _ _ _ _ _ (@w5_ _ _ _ _ _ _ _ _ _ _ (by exact(op_neD hr.units)) (by exact opd_eq) (@u8_ _ _ _ _ _ _ _ _ _ (by exact a2a) (@z4_ _ _ _ _ _ (pv 0)) (by exact rfl) (by exact T.g_isinstance) (by exact rfl) (by exact T.g_tuple) (by exact a0b) (by decide) (by decide) (by exact se2 rfl rfl)) (@u8_ _ _ _ _ _ _ _ _ _ (by exact a2a) (@z4_ _ _ _ _ _ (pv 1)) (by exact rfl) (by exact T.g_isinstance) (by exact rfl) (by exact T.g_tuple) (by exact a0b) (by decide) (by decide) (by exact se2 rfl rfl)) (by exact(nomark _)))))) (@q8_ _ _ _ _ (@y0_ _ _ _ _ _ (@w9_ _ _ _ _ _))) (@k0_ _ _)) (@q8_ _ _ _ _ (@y0_ _ _ _ _ _ (@a3n _ _ _ _ _ _ _ _ (@a2A _ _ _ _ _ _ _ _ _ _ (by exact(op_eqD hr.units)) (by exact opd_eq) (@x8_ _ _ _ _ _ _ _ _ _ _ _ (by exact g2_) (by exact u1_) (by exact rfl) (by exact T.g_len) (by exact Zw) (@z8_ _ _ _ _ _ _ (@z4_ _ _ _ _ _ (pv 0)) (@q5_ _ _) (by exact z1_ rfl)) (by decide) (by decide) (by exact z1_ rfl) (by exact q2_ rfl)) (@x8_ _ _ _ _ _ _ _ _ _ _ _ (by exact g2_) (by exact u1_) (by exact rfl) (by exact T.g_len) (by exact Zw) (@z8_ _ _ _ _ _ _ (@z4_ _ _ _ _ _ (pv 1)) (@q5_ _ _) (by exact z1_ rfl)) (by decide) (by decide) (by exact z1_ rfl) (by exact q2_ rfl)) (by exact(nomark _))) (@a3m _ _ _ _ _ _ (@x8_ _ _ _ _ _ _ _ _ _ _ _ (by exact(a3s rfl)) (by exact a3t) (by exact rfl) (by exact T.g_all) (by exact a3z) (@z8_ _ _ _ _ _ _ (@x6_ _ _ _ _ (@g7_ _ _ ["-0","-1","_law_one","_law_other"] _ [false,false] 2 _ _ _ _ _ _ _ _ _ (by exact(w8_ rfl rfl)) (by exact rfl) (@b0r _ _ _ _ _ _ _ _ _ _ (by exact rfl) (by exact T.g_zip) (@z8_ _ _ _ _ _ _ (@z4_ _ _ _ _ _ (pv 0)) (@z8_ _ _ _ _ _ _ (@z4_ _ _ _ _ _ (pv 1)) (@q5_ _ _) (by exact z1_ rfl)) (by exact z1_ rfl)) (by exact se2 rfl rfl) (by exact se1 rfl)) (fun s H fp=>(@a4k _ _ _ _ _ _ _ _ (by exact rfl) (@a1j _ _ _ _ _ _ _ (@x1_ _ _ _ _ 2 _ (by exact(show 2≤2 by decide)) (by exact b1E) (by exact rfl) (by first|exact Or.inl rfl|exact Or.inr rfl) (by first|exact .inl rfl|exact .inr rfl|assumption)) (@a1j _ _ _ _ _ _ _ (@x1_ _ _ _ _ 3 _ (by exact(show 2≤3 by decide)) (by exact b1E) (by exact rfl) (by first|exact Or.inl rfl|exact Or.inr rfl) (by first|exact .inl rfl|exact .inr rfl|assumption)) (@a4j _ _ _) (by rfl)) (by rfl)) (by rfl) (by rfl))) (fun s H fp=>(@u3_ _ _)) (fun s H fp=>(@x0_ _ _ _ _ _ _ _ _ _ _ _ (by exact d__law_same) (by exact(hr.mono (Qw _))) (by exact rfl) (@v4_ _ _ _ _ _ _ (@z4_ _ _ _ _ _ (pv 2)) (@v4_ _ _ _ _ _ _ (@z4_ _ _ _ _ _ (pv 3)) (@y5_ _ _) (by exact z1_ rfl)) (by exact z1_ rfl)) (by decide) (by exact z1_ rfl) (by exact q2_ rfl))) (by intro _;rfl))) (@q5_ _ _) (by exact z1_ rfl)) (by decide) (by decide) (by exact z1_ rfl) (by exact q2_ rfl))))))) (@k0_ _ _)) (@q8_ _ _ _ _ (@y0_ _ _ _ _ _ (@a3n _ _ _ _ _ _ _ _ (@a2A _ _ _ _ _ _ _ _ _ _ (by exact(op_eqD hr.units)) (by exact opd_eq) (@u8_ _ _ _ _ _ _ _ _ _ (by exact a5p) (@z4_ _ _ _ _ _ (pv 0)) (by exact rfl) (by exact T.g_isinstance) (by exact rfl) (by exact T.g_bool) (by exact a5w) (by decide) (by decide) (by exact se2 rfl rfl)) (@u8_ _ _ _ _ _ _ _ _ _ (by exact a5p) (@z4_ _ _ _ _ _ (pv 1)) (by exact rfl) (by exact T.g_isinstance) (by exact rfl) (by exact T.g_bool) (by exact a5w) (by decide) (by decide) (by exact se2 rfl rfl)) (by exact(nomark _))) (@a3m _ _ _ _ _ _ (@a2A _ _ _ _ _ _ _ _ _ _ (by exact(op_eqD hr.units)) (by exact opd_eq) (@z4_ _ _ _ _ _ (pv 0)) (@z4_ _ _ _ _ _ (pv 1)) (by exact(nomark _))))))))
theorem a4K:FnScope ["_law_text_here","_law_good","_law_found","_law_word","_law_line"] ["_law_text_here"] (v7_ a8c):=k8_
theorem b9h:(["-0","_law_good","-2","-3","-4","_law_sign"]:List Str).Nodup:=by decide+kernel
def a4L:Mo Fl:=(z9_ (v2_ 1 (mC (.obj (.dk [(.inr "0",.inl 0),(.inr "+",.inl 1),(.inr "-",.inl (-1))])))) (z9_ (u7_ 2 (k4_ z5_)) (z9_ (j3_ (y6_ (mF (a1H (z0_ 0) (mC (.str "/"))))) (gN 3) (z9_ (v2_ 4 (mCB u6_ (z2_ (mF (v6_ (a2k (z0_ 3)) [false,true,false,false,false] 1 (gN 5) v9_ (a5H (z0_ 1) (z0_ 5) (mC (.int 7))))) z5_))) (z9_ (v1_ (mT (z3_ (dIn false) (mC (.int 7)) (z0_ 4))) (q7_ (mC .non)) mNx) (a2F 2 (z0_ 4))))) (z9_ (v1_ (y2_ (mT (mCD 1 a3Q (z7_ (mCB u6_ (z2_ (z0_ 2) z5_)) q0_)))) (q7_ (mC .non)) mNx) (q7_ (mCB u6_ (z2_ (z0_ 2) z5_)))))))
def a2r:Fn:=fnM 5 a4L
theorem b9i{f:Addr}{fd:FuncData}(F:Fun K "_law_due" "_law_due" a8c f fd)(T:Txt K mg)(d__law_is_table:Def P w K mg base "_law_is_table" 2 1 a3Q):FnOk P w K mg base CX0 3 f fd ["_law_text_here"] (SpF K 1 a2r):=
 w2_ F a4K fun cdv A outer s H E hr=>(@v0_ _ _ _ _ _ _ (@x9_ _ _ _ _ _ 1 _ _ (by exact a4K.nd) (by exact rfl) (by first|exact Or.inl rfl|exact Or.inr rfl) (@b1l _ _ _ _ _ _ _ _ _ _ _ _ _ _ _ (by exact a2v) (by exact a2v) (by exact a2v) (by exact a3d) (by exact a3d) (by exact a7d) (fun _ _ _=>rfl)) (by rfl) (by first|exact .inl rfl|exact .inr rfl|assumption)) (@v0_ _ _ _ _ _ _ (@a1V _ _ _ _ _ 2 _ _ (by exact a4K.nd) (by exact rfl) (by first|exact Or.inl rfl|exact Or.inr rfl) (@a0o _ _ _ _ _ (@q5_ _ _)) (by rfl) (by first|exact .inl rfl|exact .inr rfl|assumption)) (@v0_ _ _ _ _ _ _ (@a1k _ _ _ _ _ _ _ _ _ (by exact Yg) (by exact rfl) (@g5_ _ _ _ _ _ (@x6_ _ _ _ _ (@a7A _ _ _ _ _ _ _ _ (@z4_ _ _ _ _ _ (pv 0)) (@j7_ _ _ _ _ _ (by decide)) (by rfl) (by rfl) (by rfl) (by exact z1_ rfl) (by exact q2_ rfl)))) (@x1_ _ _ _ _ 3 _ (by exact(show 0≤3 by decide)) (by exact a4K.nd) (by exact rfl) (by first|exact Or.inl rfl|exact Or.inr rfl) (by first|exact .inl rfl|exact .inr rfl|assumption)) (@v0_ _ _ _ _ _ _ (@x9_ _ _ _ _ _ 4 _ _ (by exact a4K.nd) (by exact rfl) (by first|exact Or.inl rfl|exact Or.inr rfl) (@a1A _ _ _ _ _ _ _ _ _ _ _ (by exact a1P) (by exact a1U) (by exact rfl) (by exact T.g_tuple) (by exact a0b) (@z8_ _ _ _ _ _ _ (@x6_ _ _ _ _ (@g7_ _ _ ["-0","_law_good","-2","-3","-4","_law_sign"] _ [false,true,false,false,false] 1 _ _ _ _ _ _ _ _ _ (by exact(w8_ rfl rfl)) (by exact rfl) (@a7B _ _ _ _ _ (@z4_ _ _ _ _ _ (pv 3))) (fun s H fp=>(@x1_ _ _ _ _ 5 _ (by exact(show 5≤5 by decide)) (by exact b9h) (by exact rfl) (by first|exact Or.inl rfl|exact Or.inr rfl) (by first|exact .inl rfl|exact .inr rfl|assumption))) (fun s H fp=>(@u3_ _ _)) (fun s H fp=>(@b7Z _ _ _ _ _ _ _ _ _ _ (@z4_ _ _ _ _ _ (pv 1)) (@z8_ _ _ _ _ _ _ (@z4_ _ _ _ _ _ (pv 5)) (@z8_ _ _ _ _ _ _ (@q6_ _ _ _ _ _) (@q5_ _ _) (by exact z1_ rfl)) (by exact z1_ rfl)) (by rfl) (by rfl) (by rfl) (by exact z1_ rfl) (by exact q2_ rfl))) (by intro _;rfl))) (@q5_ _ _) (by exact z1_ rfl)) (by decide) (by decide) (by exact z1_ rfl) (by exact q2_ rfl)) (by rfl) (by first|exact .inl rfl|exact .inr rfl|assumption)) (@v0_ _ _ _ _ _ _ (@x2_ _ _ _ _ _ _ _ _ _ (@w5_ _ _ _ _ _ _ _ _ _ _ (by exact b4E) (by exact b0h) (@q6_ _ _ _ _ _) (@z4_ _ _ _ _ _ (pv 4)) (by with_unfolding_all rfl)) (@q8_ _ _ _ _ (@y0_ _ _ _ _ _ (@a3l _ _ _ _))) (@k0_ _ _)) (@q8_ _ _ _ _ (@a6I _ _ _ _ _ _ _ _ _ _ (pv 2) (@z8_ _ _ _ _ _ _ (@z4_ _ _ _ _ _ (pv 4)) (@q5_ _ _) (by exact z1_ rfl)) (by rfl) (by rfl) (by rfl) (by exact z1_ rfl) (by exact q2_ rfl) (by rfl))))) (by intro _;rfl)) (@v0_ _ _ _ _ _ _ (@x2_ _ _ _ _ _ _ _ _ _ (@g4_ _ _ _ _ _ (@g3_ _ _ _ _ (@x0_ _ _ _ _ _ _ _ _ _ _ _ (by exact d__law_is_table) (by exact(hr.mono (show 2≤2 by decide))) (by exact rfl) (@v4_ _ _ _ _ _ _ (@a1A _ _ _ _ _ _ _ _ _ _ _ (by exact a1P) (by exact a1U) (by exact rfl) (by exact T.g_tuple) (by exact a0b) (@z8_ _ _ _ _ _ _ (@z4_ _ _ _ _ _ (pv 2)) (@q5_ _ _) (by exact z1_ rfl)) (by decide) (by decide) (by exact z1_ rfl) (by exact q2_ rfl)) (@y5_ _ _) (by exact z1_ rfl)) (by decide) (by exact z1_ rfl) (by exact q2_ rfl)) (by intro _;rfl))) (@q8_ _ _ _ _ (@y0_ _ _ _ _ _ (@a3l _ _ _ _))) (@k0_ _ _)) (@q8_ _ _ _ _ (@y0_ _ _ _ _ _ (@a1A _ _ _ _ _ _ _ _ _ _ _ (by exact a1P) (by exact a1U) (by exact rfl) (by exact T.g_tuple) (by exact a0b) (@z8_ _ _ _ _ _ _ (@z4_ _ _ _ _ _ (pv 2)) (@q5_ _ _) (by exact z1_ rfl)) (by decide) (by decide) (by exact z1_ rfl) (by exact q2_ rfl))))))))
theorem a1L:FnScope ["_law_state_here","_law_text_here","_law_kind","_law_at","_law_signs","_law_sign","_law_words","_law_one","_law_other"] ["_law_state_here","_law_text_here"] (v7_ a8d):=k8_
def a8p:Mo Fl:=(z9_ (v2_ 2 (mCD 2 x4_ (y8_ 0 (z7_ (mC (.int 9)) q0_)))) (z9_ (v2_ 3 (mCD 2 x4_ (y8_ 0 (z7_ (z3_ y4_ (mCB a3I (z2_ (z0_ 1) z5_)) (mC (.int 1))) q0_)))) (z9_ (v2_ 4 (mC (.str "0+-/0+- 123456789none_.,:abcdfghijklmpqrstuvwxyz"))) (z9_ (v2_ 4 (z3_ a0s (z0_ 4) (mC (.str "ABCDEFGHIJKLMNOPQRSTUVWXYZ!#$&'()*;<=>?@\x5b]^|~`{}\\\"")))) (z9_ (v2_ 5 (z3_ a5F (z0_ 4) (mCD 2 x4_ (y8_ 0 (z7_ (z3_ dIx (mF (k4_ (z2_ (mC (.int 7)) (z2_ (mCB a3I (z2_ (z0_ 4) z5_)) z5_)))) (mCD 2 x4_ (y8_ 0 (z7_ (mC (.int 2)) q0_)))) q0_))))) (z9_ (v1_ (mT (z3_ dLt (z0_ 2) (mC (.int 4)))) (q7_ (z3_ dIx (mF (k4_ (z2_ (z3_ a0s (a0c (z0_ 1) u9_ (a0a (z0_ 3))) (a0c (z0_ 1) (a0a (z3_ y4_ (z0_ 3) (mC (.int 1)))) u9_)) (z2_ (z3_ a0s (z3_ a0s (a0c (z0_ 1) u9_ (a0a (z0_ 3))) (z0_ 5)) (a0c (z0_ 1) (a0a (z0_ 3)) u9_)) (z2_ (z3_ a0s (z3_ a0s (a0c (z0_ 1) u9_ (a0a (z0_ 3))) (z0_ 5)) (a0c (z0_ 1) (a0a (z3_ y4_ (z0_ 3) (mC (.int 1)))) u9_)) (z2_ (z0_ 1) z5_)))))) (z0_ 2))) mNx) (z9_ (u7_ 6 (a1H (z0_ 1) (mC (.str "/")))) (z9_ (v2_ 7 (mCD 2 x4_ (y8_ 0 (z7_ (a2T 6) q0_)))) (z9_ (v2_ 8 (mCD 2 x4_ (y8_ 0 (z7_ (a2T 6) q0_)))) (z9_ (v1_ (mT (z3_ (dEq false) (z0_ 2) (mC (.int 4)))) (a2P (a4u 6 (z0_ 7))) (v1_ (mT (z3_ (dEq false) (z0_ 2) (mC (.int 5)))) (a4z 6 (z0_ 8) (y7_ 6 (z0_ 7))) (v1_ (mT (z3_ (dEq false) (z0_ 2) (mC (.int 6)))) (u2_ (x7_ (z2_ (y7_ 6 (z0_ 8)) (z2_ (y7_ 6 (z0_ 7)) z5_))) (gT 2 (gCn (gS 6 (z0_ 7)) (gCn (gS 6 (z0_ 8)) gNl)))) (v1_ (mT (z3_ (dEq false) (z0_ 2) (mC (.int 7)))) (u2_ (a2V (y7_ 6 (z0_ 7))) (gS 6 (z0_ 7))) (q7_ (z3_ dIx (mF (k4_ (z2_ (mC (.str "")) (z2_ (mC (.str "none")) (z2_ (mC (.str "/")) (z2_ (mC (.str " +")) (z2_ (mC (.str "+ ")) (z2_ (mC (.str "0")) (z2_ (mC (.str "-")) (z2_ (mC (.str "++/++")) z5_)))))))))) (mCD 2 x4_ (y8_ 0 (z7_ (mC (.int 8)) q0_))))))))) (q7_ (z3_ a0L (mC (.str "/")) (z0_ 6)))))))))))))
def a1t:Fn:=fnM 9 a8p
theorem b9j{f:Addr}{fd:FuncData}(F:Fun K "_law_bent" "_law_bent" a8d f fd)(T:Txt K mg)(d__law_take:Def P w K mg base "_law_take" 1 2 x4_):FnOk P w K mg base CX0 2 f fd ["_law_state_here","_law_text_here"] (SpF K 2 a1t):=
 w2_ F a1L fun cdv A outer s H E hr=>(@v0_ _ _ _ _ _ _ (@x9_ _ _ _ _ _ 2 _ _ (by exact a1L.nd) (by exact rfl) (by first|exact Or.inl rfl|exact Or.inr rfl) (@x0_ _ _ _ _ _ _ _ _ _ _ _ (by exact d__law_take) (by exact(hr.mono (show 1≤1 by decide))) (by exact rfl) (@a0G _ _ _ _ _ _ _ (pv 0) (@v4_ _ _ _ _ _ _ (@q6_ _ _ _ _ _) (@y5_ _ _) (by exact z1_ rfl)) (by exact z1_ rfl)) (by decide) (by exact z1_ rfl) (by exact q2_ rfl)) (by rfl) (by first|exact .inl rfl|exact .inr rfl|assumption)) (@v0_ _ _ _ _ _ _ (@x9_ _ _ _ _ _ 3 _ _ (by exact a1L.nd) (by exact rfl) (by first|exact Or.inl rfl|exact Or.inr rfl) (@x0_ _ _ _ _ _ _ _ _ _ _ _ (by exact d__law_take) (by exact(hr.mono (show 1≤1 by decide))) (by exact rfl) (@a0G _ _ _ _ _ _ _ (pv 0) (@v4_ _ _ _ _ _ _ (@y1_ _ _ _ _ _ _ _ _ _ _ (by exact u4_) (by exact u5_) (@x8_ _ _ _ _ _ _ _ _ _ _ _ (by exact a9t) (by exact b1n) (by exact rfl) (by exact T.g_len) (by exact Zw) (@z8_ _ _ _ _ _ _ (@z4_ _ _ _ _ _ (pv 1)) (@q5_ _ _) (by exact z1_ rfl)) (by decide) (by decide) (by exact z1_ rfl) (by exact q2_ rfl)) (@q6_ _ _ _ _ _)) (@y5_ _ _) (by exact z1_ rfl)) (by exact z1_ rfl)) (by decide) (by exact z1_ rfl) (by exact q2_ rfl)) (by rfl) (by first|exact .inl rfl|exact .inr rfl|assumption)) (@v0_ _ _ _ _ _ _ (@x9_ _ _ _ _ _ 4 _ _ (by exact a1L.nd) (by exact rfl) (by first|exact Or.inl rfl|exact Or.inr rfl) (@j7_ _ _ _ _ _ (by decide)) (by rfl) (by first|exact .inl rfl|exact .inr rfl|assumption)) (@v0_ _ _ _ _ _ _ (@x9_ _ _ _ _ _ 4 _ _ (by exact a1L.nd) (by exact rfl) (by first|exact Or.inl rfl|exact Or.inr rfl) (@y1_ _ _ _ _ _ _ _ _ _ _ (by exact a3G) (by exact a3H) (@z4_ _ _ _ _ _ (pv 4)) (@j7_ _ _ _ _ _ (by decide))) (by rfl) (by first|exact .inl rfl|exact .inr rfl|assumption)) (@v0_ _ _ _ _ _ _ (@x9_ _ _ _ _ _ 5 _ _ (by exact a1L.nd) (by exact rfl) (by first|exact Or.inl rfl|exact Or.inr rfl) (@b7T _ _ _ _ _ _ _ (@z4_ _ _ _ _ _ (pv 4)) (@x0_ _ _ _ _ _ _ _ _ _ _ _ (by exact d__law_take) (by exact(hr.mono (show 1≤1 by decide))) (by exact rfl) (@a0G _ _ _ _ _ _ _ (pv 0) (@v4_ _ _ _ _ _ _ (@a1z _ _ _ _ _ _ _ (@x6_ _ _ _ _ (@a0o _ _ _ _ _ (@z8_ _ _ _ _ _ _ (@q6_ _ _ _ _ _) (@z8_ _ _ _ _ _ _ (@x8_ _ _ _ _ _ _ _ _ _ _ _ (by exact a9t) (by exact b1n) (by exact rfl) (by exact T.g_len) (by exact Zw) (@z8_ _ _ _ _ _ _ (@z4_ _ _ _ _ _ (pv 4)) (@q5_ _ _) (by exact z1_ rfl)) (by decide) (by decide) (by exact z1_ rfl) (by exact q2_ rfl)) (@q5_ _ _) (by exact z1_ rfl)) (by exact z1_ rfl)))) (@x0_ _ _ _ _ _ _ _ _ _ _ _ (by exact d__law_take) (by exact(hr.mono (show 1≤1 by decide))) (by exact rfl) (@a0G _ _ _ _ _ _ _ (pv 0) (@v4_ _ _ _ _ _ _ (@q6_ _ _ _ _ _) (@y5_ _ _) (by exact z1_ rfl)) (by exact z1_ rfl)) (by decide) (by exact z1_ rfl) (by exact q2_ rfl)) (fun _ _=>rfl)) (@y5_ _ _) (by exact z1_ rfl)) (by exact z1_ rfl)) (by decide) (by exact z1_ rfl) (by exact q2_ rfl)) (fun _ _=>rfl)) (by rfl) (by first|exact .inl rfl|exact .inr rfl|assumption)) (@v0_ _ _ _ _ _ _ (@x2_ _ _ _ _ _ _ _ _ _ (@w5_ _ _ _ _ _ _ _ _ _ _ (by exact a9a) (by exact a9K) (@z4_ _ _ _ _ _ (pv 2)) (@q6_ _ _ _ _ _) (by exact(nomark _))) (@q8_ _ _ _ _ (@y0_ _ _ _ _ _ (@a1z _ _ _ _ _ _ _ (@x6_ _ _ _ _ (@a0o _ _ _ _ _ (@z8_ _ _ _ _ _ _ (@y1_ _ _ _ _ _ _ _ _ _ _ (by exact a3G) (by exact a3H) (@a3J _ _ _ _ _ _ _ _ _ _ (@z4_ _ _ _ _ _ (pv 1)) (@a3w _ _) (@a3x _ _ _ _ (@z4_ _ _ _ _ _ (pv 3)))) (@a3J _ _ _ _ _ _ _ _ _ _ (@z4_ _ _ _ _ _ (pv 1)) (@a3x _ _ _ _ (@y1_ _ _ _ _ _ _ _ _ _ _ (by exact u4_) (by exact u5_) (@z4_ _ _ _ _ _ (pv 3)) (@q6_ _ _ _ _ _))) (@a3w _ _))) (@z8_ _ _ _ _ _ _ (@y1_ _ _ _ _ _ _ _ _ _ _ (by exact a3G) (by exact a3H) (@y1_ _ _ _ _ _ _ _ _ _ _ (by exact a3G) (by exact a3H) (@a3J _ _ _ _ _ _ _ _ _ _ (@z4_ _ _ _ _ _ (pv 1)) (@a3w _ _) (@a3x _ _ _ _ (@z4_ _ _ _ _ _ (pv 3)))) (@z4_ _ _ _ _ _ (pv 5))) (@a3J _ _ _ _ _ _ _ _ _ _ (@z4_ _ _ _ _ _ (pv 1)) (@a3x _ _ _ _ (@z4_ _ _ _ _ _ (pv 3))) (@a3w _ _))) (@z8_ _ _ _ _ _ _ (@y1_ _ _ _ _ _ _ _ _ _ _ (by exact a3G) (by exact a3H) (@y1_ _ _ _ _ _ _ _ _ _ _ (by exact a3G) (by exact a3H) (@a3J _ _ _ _ _ _ _ _ _ _ (@z4_ _ _ _ _ _ (pv 1)) (@a3w _ _) (@a3x _ _ _ _ (@z4_ _ _ _ _ _ (pv 3)))) (@z4_ _ _ _ _ _ (pv 5))) (@a3J _ _ _ _ _ _ _ _ _ _ (@z4_ _ _ _ _ _ (pv 1)) (@a3x _ _ _ _ (@y1_ _ _ _ _ _ _ _ _ _ _ (by exact u4_) (by exact u5_) (@z4_ _ _ _ _ _ (pv 3)) (@q6_ _ _ _ _ _))) (@a3w _ _))) (@z8_ _ _ _ _ _ _ (@z4_ _ _ _ _ _ (pv 1)) (@q5_ _ _) (by exact z1_ rfl)) (by exact z1_ rfl)) (by exact z1_ rfl)) (by exact z1_ rfl)))) (@z4_ _ _ _ _ _ (pv 2)) (fun _ _=>rfl)))) (@k0_ _ _)) (@v0_ _ _ _ _ _ _ (@a1V _ _ _ _ _ 6 _ _ (by exact a1L.nd) (by exact rfl) (by first|exact Or.inl rfl|exact Or.inr rfl) (@a7A _ _ _ _ _ _ _ _ (@z4_ _ _ _ _ _ (pv 1)) (@j7_ _ _ _ _ _ (by decide)) (by rfl) (by rfl) (by rfl) (by exact z1_ rfl) (by exact q2_ rfl)) (by rfl) (by first|exact .inl rfl|exact .inr rfl|assumption)) (@v0_ _ _ _ _ _ _ (@x9_ _ _ _ _ _ 7 _ _ (by exact a1L.nd) (by exact rfl) (by first|exact Or.inl rfl|exact Or.inr rfl) (@x0_ _ _ _ _ _ _ _ _ _ _ _ (by exact d__law_take) (by exact(hr.mono (show 1≤1 by decide))) (by exact rfl) (@a0G _ _ _ _ _ _ _ (pv 0) (@v4_ _ _ _ _ _ _ (@b1d _ _ _ _ _ _ _ (pv 6) (by exact rfl) (by exact T.g_len) (by exact z1_ rfl)) (@y5_ _ _) (by exact z1_ rfl)) (by exact z1_ rfl)) (by decide) (by exact z1_ rfl) (by exact q2_ rfl)) (by rfl) (by first|exact .inl rfl|exact .inr rfl|assumption)) (@v0_ _ _ _ _ _ _ (@x9_ _ _ _ _ _ 8 _ _ (by exact a1L.nd) (by exact rfl) (by first|exact Or.inl rfl|exact Or.inr rfl) (@x0_ _ _ _ _ _ _ _ _ _ _ _ (by exact d__law_take) (by exact(hr.mono (show 1≤1 by decide))) (by exact rfl) (@a0G _ _ _ _ _ _ _ (pv 0) (@v4_ _ _ _ _ _ _ (@b1d _ _ _ _ _ _ _ (pv 6) (by exact rfl) (by exact T.g_len) (by exact z1_ rfl)) (@y5_ _ _) (by exact z1_ rfl)) (by exact z1_ rfl)) (by decide) (by exact z1_ rfl) (by exact q2_ rfl)) (by rfl) (by first|exact .inl rfl|exact .inr rfl|assumption)) (@v0_ _ _ _ _ _ _ (@x2_ _ _ _ _ _ _ _ _ _ (@w5_ _ _ _ _ _ _ _ _ _ _ (by exact(op_eqD hr.units)) (by exact opd_eq) (@z4_ _ _ _ _ _ (pv 2)) (@q6_ _ _ _ _ _) (by exact(nomark _))) (@q8_ _ _ _ _ (@b6p _ _ _ _ _ (@b6A _ _ _ _ _ _ _ _ _ (pv 6) (@z8_ _ _ _ _ _ _ (@z4_ _ _ _ _ _ (pv 7)) (@q5_ _ _) (by exact z1_ rfl)) (by rfl) (by rfl) (by rfl) (by exact z1_ rfl) (by exact q2_ rfl)) (by rfl))) (@q8_ _ _ _ _ (@x2_ _ _ _ _ _ _ _ _ _ (@w5_ _ _ _ _ _ _ _ _ _ _ (by exact(op_eqD hr.units)) (by exact opd_eq) (@z4_ _ _ _ _ _ (pv 2)) (@q6_ _ _ _ _ _) (by exact(nomark _))) (@q8_ _ _ _ _ (@b8b _ _ _ _ _ _ _ _ _ _ _ _ (pv 6) (@z8_ _ _ _ _ _ _ (@z4_ _ _ _ _ _ (pv 8)) (@z8_ _ _ _ _ _ _ (@a0T _ _ _ _ _ _ _ _ (pv 6) (@z4_ _ _ _ _ _ (pv 7)) (fun _ _=>rfl) (by exact(a5v (by decide)))) (@q5_ _ _) (by exact z1_ rfl)) (by exact z1_ rfl)) (by rfl) (by rfl) (by rfl) (by exact z1_ rfl) (by exact q2_ rfl) (by rfl))) (@q8_ _ _ _ _ (@x2_ _ _ _ _ _ _ _ _ _ (@w5_ _ _ _ _ _ _ _ _ _ _ (by exact(op_eqD hr.units)) (by exact opd_eq) (@z4_ _ _ _ _ _ (pv 2)) (@q6_ _ _ _ _ _) (by exact(nomark _))) (@q8_ _ _ _ _ (@a5j _ _ _ _ _ _ _ (@a0z _ _ _ _ _ _ (@z8_ _ _ _ _ _ _ (@a0T _ _ _ _ _ _ _ _ (pv 6) (@z4_ _ _ _ _ _ (pv 8)) (fun _ _=>rfl) (by exact(a5v (by decide)))) (@z8_ _ _ _ _ _ _ (@a0T _ _ _ _ _ _ _ _ (pv 6) (@z4_ _ _ _ _ _ (pv 7)) (fun _ _=>rfl) (by exact(a5v (by decide)))) (@q5_ _ _) (by exact z1_ rfl)) (by exact z1_ rfl))) (@a4k _ _ _ _ _ _ _ _ (by exact rfl) (@a1j _ _ _ _ _ _ _ (@a4l _ _ _ _ _ _ _ _ _ (pv 6) (@z4_ _ _ _ _ _ (pv 7)) (by intro _;rfl)) (@a1j _ _ _ _ _ _ _ (@a4l _ _ _ _ _ _ _ _ _ (pv 6) (@z4_ _ _ _ _ _ (pv 8)) (by intro _;rfl)) (@a4j _ _ _) (by rfl)) (by rfl)) (by rfl) (by rfl)) (by rfl) (by rfl) (by rfl))) (@q8_ _ _ _ _ (@x2_ _ _ _ _ _ _ _ _ _ (@w5_ _ _ _ _ _ _ _ _ _ _ (by exact(op_eqD hr.units)) (by exact opd_eq) (@z4_ _ _ _ _ _ (pv 2)) (@q6_ _ _ _ _ _) (by exact(nomark _))) (@q8_ _ _ _ _ (@a5j _ _ _ _ _ _ _ (@b7X _ _ _ _ _ _ _ (@a0T _ _ _ _ _ _ _ _ (pv 6) (@z4_ _ _ _ _ _ (pv 7)) (fun _ _=>rfl) (by exact(a5v (by decide)))) (by exact a7d)) (@a4l _ _ _ _ _ _ _ _ _ (pv 6) (@z4_ _ _ _ _ _ (pv 7)) (by intro _;rfl)) (by rfl) (by rfl) (by rfl))) (@q8_ _ _ _ _ (@y0_ _ _ _ _ _ (@a1z _ _ _ _ _ _ _ (@x6_ _ _ _ _ (@a0o _ _ _ _ _ (@z8_ _ _ _ _ _ _ (@j7_ _ _ _ _ _ (by decide)) (@z8_ _ _ _ _ _ _ (@j7_ _ _ _ _ _ (by decide)) (@z8_ _ _ _ _ _ _ (@j7_ _ _ _ _ _ (by decide)) (@z8_ _ _ _ _ _ _ (@j7_ _ _ _ _ _ (by decide)) (@z8_ _ _ _ _ _ _ (@j7_ _ _ _ _ _ (by decide)) (@z8_ _ _ _ _ _ _ (@j7_ _ _ _ _ _ (by decide)) (@z8_ _ _ _ _ _ _ (@j7_ _ _ _ _ _ (by decide)) (@z8_ _ _ _ _ _ _ (@j7_ _ _ _ _ _ (by decide)) (@q5_ _ _) (by exact z1_ rfl)) (by exact z1_ rfl)) (by exact z1_ rfl)) (by exact z1_ rfl)) (by exact z1_ rfl)) (by exact z1_ rfl)) (by exact z1_ rfl)) (by exact z1_ rfl)))) (@x0_ _ _ _ _ _ _ _ _ _ _ _ (by exact d__law_take) (by exact(hr.mono (show 1≤1 by decide))) (by exact rfl) (@a0G _ _ _ _ _ _ _ (pv 0) (@v4_ _ _ _ _ _ _ (@q6_ _ _ _ _ _) (@y5_ _ _) (by exact z1_ rfl)) (by exact z1_ rfl)) (by decide) (by exact z1_ rfl) (by exact q2_ rfl)) (fun _ _=>rfl))))))))))) (@q8_ _ _ _ _ (@y0_ _ _ _ _ _ (@a7z _ _ _ _ _ _ _ _ (@j7_ _ _ _ _ _ (by decide)) (@z4_ _ _ _ _ _ (pv 6)) (by rfl) (by rfl) (by rfl) (by exact z1_ rfl) (by exact q2_ rfl))))))))))))))
theorem a2s:FnScope ["_law_script","_law_k","_law_state_here","_law_text_here","_law_turn","_law_odd","_law_due_here"] ["_law_script"] (v7_ a3L):=k8_
theorem nd20:(["-0","-1","-2","-3","-4","_law_odd","-6"]:List Str).Nodup:=by decide+kernel
theorem nd21:(["-0","-1","-2","_law_text_here","-4","-5","-6"]:List Str).Nodup:=by decide+kernel
def b1G:Mo Fl:=(z9_ (j3_ (j2_ (z2_ (mCB a3u (z2_ (mC (.int 1)) (z2_ (mCB a3v (z2_ (mCB v5_ (z2_ (z0_ 0) z5_)) (z2_ (mC (.int 10)) z5_))) z5_))) z5_)) (gN 1) (z9_ (u7_ 2 (a1C 2 a3O (z7_ (z0_ 0) (z7_ (z0_ 1) q0_)))) (z9_ (v2_ 3 (mCD 1 a3R (z7_ (mCD 3 a2X (y8_ 2 (z7_ (mC (.int 1)) (z7_ (mC (.int 6)) q0_)))) q0_))) (z9_ (j3_ (j2_ (z2_ (mC (.int 4)) z5_)) (gN 4) (z9_ (v2_ 6 (mCD 1 a2r (z7_ (z0_ 3) q0_))) (z9_ (v1_ (mT (z3_ a2S (z0_ 6) (mC .non))) (v1_ (mT (z3_ (dEq true) (a2j xN [false,false,false,true,false,false,false] (mCD 1 a0M (z7_ (z0_ 3) q0_)) (a2g 1 a1r (z7_ (z0_ 3) q0_)) a2o) (mC (.int 12)))) (q7_ (mC (.bl false))) mNx) (v1_ (y2_ (mT (mCD 2 (a0l 6) (z7_ (mCD 1 a0M (z7_ (z0_ 3) q0_)) (z7_ (z0_ 6) q0_))))) (q7_ (mC (.bl false))) mNx)) (v2_ 3 (mCD 2 a1t (y8_ 2 (z7_ (z0_ 3) q0_))))))) (z9_ (v2_ 5 (z3_ dIx (mF (k4_ (z2_ (mC .non) (z2_ (mC (.int 7)) (z2_ (x7_ (z2_ (x7_ (z2_ (mC (.int 1)) z5_)) z5_)) (z2_ (mF (k4_ (z2_ (mC (.str "+")) z5_))) (z2_ (mC (.bl true)) (z2_ (mC .emp) (z2_ (x7_ z5_) z5_))))))))) (mCD 2 x4_ (y8_ 2 (z7_ (mC (.int 7)) q0_))))) (v1_ (mT (z3_ (dEq true) (a2j xN [false,false,false,false,false,true,false] (mCD 1 a0M (z7_ (z0_ 5) q0_)) (a2g 1 a1r (z7_ (z0_ 5) q0_)) a2o) (mC (.int 12)))) (q7_ (mC (.bl false))) mNx)))))) (q7_ (mC (.bl true))))
def a5M:Fn:=fnM 7 b1G
theorem b9k{f Pt:Addr}{fd:FuncData}{cd:Value}(F:Fun K "law" "law" a3L f fd)(hcd:fd.code=cd)(T:Txt K mg)(tb:TabF K mg base cd "law" Pt)(d__law_state:Def P w K mg base "_law_state" 2 2 a3O)(d__law_text:Def P w K mg base "_law_text" 1 1 a3R)(d__law_table:Def P w K mg base "_law_table" 2 3 a2X)(d__law_due:Def P w K mg base "_law_due" 3 1 a2r)(d__law_bent:Def P w K mg base "_law_bent" 2 2 a1t)(d__law_take:Def P w K mg base "_law_take" 1 2 x4_)(d__law_refused:RefDef P w K mg base "_law_refused" 9 8 a2o)(d__law_same:Def P w K mg base "_law_same" 7 2 (a0l 6))(d_table_read:Def P w K mg base "table_read" 7 1 a0M)(dx_table_read:DefX P w K mg base "table_read" 7 1 a1r):FnOk P w K mg base CX0 10 f fd ["_law_script"] (SpT K [Pt] 1 a5M):=
 b7w (N:=["_law_script","_law_k","_law_state_here","_law_text_here","_law_turn","_law_odd","_law_due_here"]) (mb:=b1G) F hcd a2s fun A outer s H E tbi hr=>by
  obtain⟨ps0,hP⟩:=tbi Pt (by simp)
  exact(@v0_ _ _ _ _ _ _ (@a1k _ _ _ _ _ _ _ _ _ (by exact Yg) (by exact rfl) (@a3p _ _ _ _ _ _ _ (by exact rfl) (by exact T.g_range) (@z8_ _ _ _ _ _ _ (@x8_ _ _ _ _ _ _ _ _ _ _ _ (by exact(b4h rfl)) (by exact b5v) (by exact rfl) (by exact T.g_max) (by exact b6k) (@z8_ _ _ _ _ _ _ (@q6_ _ _ _ _ _) (@z8_ _ _ _ _ _ _ (@x8_ _ _ _ _ _ _ _ _ _ _ _ (by exact(b4i rfl)) (by exact b5w) (by exact rfl) (by exact T.g_min) (by exact b6l) (@z8_ _ _ _ _ _ _ (@x8_ _ _ _ _ _ _ _ _ _ _ _ (by exact g2_) (by exact u1_) (by exact rfl) (by exact T.g_len) (by exact Zw) (@z8_ _ _ _ _ _ _ (@z4_ _ _ _ _ _ (pv 0)) (@q5_ _ _) (by exact z1_ rfl)) (by decide) (by decide) (by exact z1_ rfl) (by exact q2_ rfl)) (@z8_ _ _ _ _ _ _ (@q6_ _ _ _ _ _) (@q5_ _ _) (by exact z1_ rfl)) (by exact z1_ rfl)) (by decide) (by decide) (by exact z1_ rfl) (by exact q2_ rfl)) (@q5_ _ _) (by exact z1_ rfl)) (by exact z1_ rfl)) (by decide) (by decide) (by exact z1_ rfl) (by exact q2_ rfl)) (@q5_ _ _) (by exact z1_ rfl)) (by exact se1 rfl)) (@x1_ _ _ _ _ 1 _ (by exact(show 0≤1 by decide)) (by exact a2s.nd) (by exact rfl) (by first|exact Or.inl rfl|exact Or.inr rfl) (by first|exact .inl rfl|exact .inr rfl|assumption)) (@v0_ _ _ _ _ _ _ (@a1V _ _ _ _ _ 2 _ _ (by exact a2s.nd) (by exact rfl) (by first|exact Or.inl rfl|exact Or.inr rfl) (@b0A _ _ _ _ _ _ _ _ _ _ _ (by exact d__law_state) (by exact(hr.mono (show 2≤9 by decide))) (by exact rfl) (@v4_ _ _ _ _ _ _ (@z4_ _ _ _ _ _ (pv 0)) (@v4_ _ _ _ _ _ _ (@z4_ _ _ _ _ _ (pv 1)) (@y5_ _ _) (by exact z1_ rfl)) (by exact z1_ rfl)) (by decide) (by exact z1_ rfl) (by exact q2_ rfl)) (by rfl) (by first|exact .inl rfl|exact .inr rfl|assumption)) (@v0_ _ _ _ _ _ _ (@x9_ _ _ _ _ _ 3 _ _ (by exact a2s.nd) (by exact rfl) (by first|exact Or.inl rfl|exact Or.inr rfl) (@x0_ _ _ _ _ _ _ _ _ _ _ _ (by exact d__law_text) (by exact(hr.mono (show 1≤9 by decide))) (by exact rfl) (@v4_ _ _ _ _ _ _ (@x0_ _ _ _ _ _ _ _ _ _ _ _ (by exact d__law_table) (by exact(hr.mono (show 2≤9 by decide))) (by exact rfl) (@a0G _ _ _ _ _ _ _ (pv 2) (@v4_ _ _ _ _ _ _ (@q6_ _ _ _ _ _) (@v4_ _ _ _ _ _ _ (@q6_ _ _ _ _ _) (@y5_ _ _) (by exact z1_ rfl)) (by exact z1_ rfl)) (by exact z1_ rfl)) (by decide) (by exact z1_ rfl) (by exact q2_ rfl)) (@y5_ _ _) (by exact z1_ rfl)) (by decide) (by exact z1_ rfl) (by exact q2_ rfl)) (by rfl) (by first|exact .inl rfl|exact .inr rfl|assumption)) (@v0_ _ _ _ _ _ _ (@a1k _ _ _ _ _ _ _ _ _ (by exact Yg) (by exact rfl) (@a3p _ _ _ _ _ _ _ (by exact rfl) (by exact T.g_range) (@z8_ _ _ _ _ _ _ (@q6_ _ _ _ _ _) (@q5_ _ _) (by exact z1_ rfl)) (by exact se1 rfl)) (@x1_ _ _ _ _ 4 _ (by exact(show 0≤4 by decide)) (by exact a2s.nd) (by exact rfl) (by first|exact Or.inl rfl|exact Or.inr rfl) (by first|exact .inl rfl|exact .inr rfl|assumption)) (@v0_ _ _ _ _ _ _ (@x9_ _ _ _ _ _ 6 _ _ (by exact a2s.nd) (by exact rfl) (by first|exact Or.inl rfl|exact Or.inr rfl) (@x0_ _ _ _ _ _ _ _ _ _ _ _ (by exact d__law_due) (by exact(hr.mono (show 3≤9 by decide))) (by exact rfl) (@v4_ _ _ _ _ _ _ (@z4_ _ _ _ _ _ (pv 3)) (@y5_ _ _) (by exact z1_ rfl)) (by decide) (by exact z1_ rfl) (by exact q2_ rfl)) (by rfl) (by first|exact .inl rfl|exact .inr rfl|assumption)) (@v0_ _ _ _ _ _ _ (@x2_ _ _ _ _ _ _ _ _ _ (@w5_ _ _ _ _ _ _ _ _ _ _ (by exact a9b) (by exact b0V) (@z4_ _ _ _ _ _ (pv 6)) (@a3l _ _ _ _) (by exact(nomark _))) (@q8_ _ _ _ _ (@x2_ _ _ _ _ _ _ _ _ _ (@w5_ _ _ _ _ _ _ _ _ _ _ (by exact(op_neD hr.units)) (by exact opd_eq) (@b0Z _ _ _ _ _ _ _ 7 _ _ ["-0","-1","-2","_law_text_here","-4","-5","-6"] _ [false,false,false,true,false,false,false] _ _ _ _ _ _ _ _ (by exact d__law_refused) (by exact(hr.mono (show 9≤9 by decide))) (by exact rfl) (by exact tb) (by exact rfl) (by exact hP) (fun _=>rfl) (by exact T.ex) (by exact(w8_ rfl rfl)) (by exact rfl) (by exact rfl) (by decide+kernel) (by exact rfl) (fun _ _ _ _=>rfl) (fun fl c' cl H₁ A outer s E hr=>(@x0_ _ _ _ _ _ _ _ _ _ _ _ (by exact d_table_read) (by exact(hr.mono (show 7≤7 by decide))) (by exact rfl) (@v4_ _ _ _ _ _ _ (@z4_ _ _ _ _ _ (pv 3)) (@y5_ _ _) (by exact z1_ rfl)) (by decide) (by exact z1_ rfl) (by exact q2_ rfl))) (fun fl c' cl H₁ A outer s E hr=>(@b0S _ _ _ _ _ _ _ _ _ _ _ _ (by exact b0X) (by exact dx_table_read) (by exact(hr.mono (show 7≤7 by decide))) (by exact rfl) (by exact(PA.nox (@v4_ _ _ _ _ _ _ (@z4_ _ _ _ _ _ (pv 3)) (@y5_ _ _) (by exact z1_ rfl)))) (by decide) (by exact z1_ rfl) (by exact q2_ rfl))) (by decide) (by exact z1_ rfl) (by exact q2_ rfl)) (@q6_ _ _ _ _ _) (by exact(nomark _))) (@q8_ _ _ _ _ (@y0_ _ _ _ _ _ (@w9_ _ _ _ _ _))) (@k0_ _ _))) (@q8_ _ _ _ _ (@x2_ _ _ _ _ _ _ _ _ _ (@g4_ _ _ _ _ _ (@g3_ _ _ _ _ (@x0_ _ _ _ _ _ _ _ _ _ _ _ (by exact d__law_same) (by exact(hr.mono (show 7≤9 by decide))) (by exact rfl) (@v4_ _ _ _ _ _ _ (@x0_ _ _ _ _ _ _ _ _ _ _ _ (by exact d_table_read) (by exact(hr.mono (show 7≤9 by decide))) (by exact rfl) (@v4_ _ _ _ _ _ _ (@z4_ _ _ _ _ _ (pv 3)) (@y5_ _ _) (by exact z1_ rfl)) (by decide) (by exact z1_ rfl) (by exact q2_ rfl)) (@v4_ _ _ _ _ _ _ (@z4_ _ _ _ _ _ (pv 6)) (@y5_ _ _) (by exact z1_ rfl)) (by exact z1_ rfl)) (by decide) (by exact z1_ rfl) (by exact q2_ rfl)) (by intro _;rfl))) (@q8_ _ _ _ _ (@y0_ _ _ _ _ _ (@w9_ _ _ _ _ _))) (@k0_ _ _)))) (@q8_ _ _ _ _ (@x9_ _ _ _ _ _ 3 _ _ (by exact a2s.nd) (by exact rfl) (by first|exact Or.inl rfl|exact Or.inr rfl) (@x0_ _ _ _ _ _ _ _ _ _ _ _ (by exact d__law_bent) (by exact(hr.mono (show 2≤9 by decide))) (by exact rfl) (@a0G _ _ _ _ _ _ _ (pv 2) (@v4_ _ _ _ _ _ _ (@z4_ _ _ _ _ _ (pv 3)) (@y5_ _ _) (by exact z1_ rfl)) (by exact z1_ rfl)) (by decide) (by exact z1_ rfl) (by exact q2_ rfl)) (by rfl) (by first|exact .inl rfl|exact .inr rfl|assumption))))) (by intro _;rfl)) (@v0_ _ _ _ _ _ _ (@x9_ _ _ _ _ _ 5 _ _ (by exact a2s.nd) (by exact rfl) (by first|exact Or.inl rfl|exact Or.inr rfl) (@a1z _ _ _ _ _ _ _ (@x6_ _ _ _ _ (@a0o _ _ _ _ _ (@z8_ _ _ _ _ _ _ (@a3l _ _ _ _) (@z8_ _ _ _ _ _ _ (@q6_ _ _ _ _ _) (@z8_ _ _ _ _ _ _ (@a0z _ _ _ _ _ _ (@z8_ _ _ _ _ _ _ (@a0z _ _ _ _ _ _ (@z8_ _ _ _ _ _ _ (@q6_ _ _ _ _ _) (@q5_ _ _) (by exact z1_ rfl))) (@q5_ _ _) (by exact z1_ rfl))) (@z8_ _ _ _ _ _ _ (@x6_ _ _ _ _ (@a0o _ _ _ _ _ (@z8_ _ _ _ _ _ _ (@j7_ _ _ _ _ _ (by decide)) (@q5_ _ _) (by exact z1_ rfl)))) (@z8_ _ _ _ _ _ _ (@w9_ _ _ _ _ _) (@z8_ _ _ _ _ _ _ (@b6h _ _ _) (@z8_ _ _ _ _ _ _ (@a0z _ _ _ _ _ _ (@q5_ _ _)) (@q5_ _ _) (by exact z1_ rfl)) (by exact z1_ rfl)) (by exact z1_ rfl)) (by exact z1_ rfl)) (by exact z1_ rfl)) (by exact z1_ rfl)) (by exact z1_ rfl)))) (@x0_ _ _ _ _ _ _ _ _ _ _ _ (by exact d__law_take) (by exact(hr.mono (show 1≤9 by decide))) (by exact rfl) (@a0G _ _ _ _ _ _ _ (pv 2) (@v4_ _ _ _ _ _ _ (@q6_ _ _ _ _ _) (@y5_ _ _) (by exact z1_ rfl)) (by exact z1_ rfl)) (by decide) (by exact z1_ rfl) (by exact q2_ rfl)) (fun _ _=>rfl)) (by rfl) (by first|exact .inl rfl|exact .inr rfl|assumption)) (@q8_ _ _ _ _ (@x2_ _ _ _ _ _ _ _ _ _ (@w5_ _ _ _ _ _ _ _ _ _ _ (by exact(op_neD hr.units)) (by exact opd_eq) (@b0Z _ _ _ _ _ _ _ 7 _ _ ["-0","-1","-2","-3","-4","_law_odd","-6"] _ [false,false,false,false,false,true,false] _ _ _ _ _ _ _ _ (by exact d__law_refused) (by exact(hr.mono (show 9≤9 by decide))) (by exact rfl) (by exact tb) (by exact rfl) (by exact hP) (fun _=>rfl) (by exact T.ex) (by exact(w8_ rfl rfl)) (by exact rfl) (by exact rfl) (by decide+kernel) (by exact rfl) (fun _ _ _ _=>rfl) (fun fl c' cl H₁ A outer s E hr=>(@x0_ _ _ _ _ _ _ _ _ _ _ _ (by exact d_table_read) (by exact(hr.mono (show 7≤7 by decide))) (by exact rfl) (@v4_ _ _ _ _ _ _ (@z4_ _ _ _ _ _ (pv 5)) (@y5_ _ _) (by exact z1_ rfl)) (by decide) (by exact z1_ rfl) (by exact q2_ rfl))) (fun fl c' cl H₁ A outer s E hr=>(@b0S _ _ _ _ _ _ _ _ _ _ _ _ (by exact b0X) (by exact dx_table_read) (by exact(hr.mono (show 7≤7 by decide))) (by exact rfl) (by exact(PA.nox (@v4_ _ _ _ _ _ _ (@z4_ _ _ _ _ _ (pv 5)) (@y5_ _ _) (by exact z1_ rfl)))) (by decide) (by exact z1_ rfl) (by exact q2_ rfl))) (by decide) (by exact z1_ rfl) (by exact q2_ rfl)) (@q6_ _ _ _ _ _) (by exact(nomark _))) (@q8_ _ _ _ _ (@y0_ _ _ _ _ _ (@w9_ _ _ _ _ _))) (@k0_ _ _))))))) (by intro _;rfl)) (@q8_ _ _ _ _ (@y0_ _ _ _ _ _ (@w9_ _ _ _ _ _))))
end
def isW:D->Bool
 |.int _=>true
 |_=>false
theorem b9l(d:D):a1I [.dat d]=some (.d (.bl (isW d)),[.dat d]):=by cases d<;>rfl
def isR(d:D)(n:Int):Bool:=match d with
 |.tup es=>(es.length:Int)==n&&es.all isW
 |_=>false
theorem b9m(d:D)(n:Int)(hn:n≤1000):a1q [.dat d,.dat (.int n)]=some (.d (.bl (isR d n)),[.dat d,.dat (.int n)]):=by
 cases d with
 |tup es=>
  by_cases h:(es.length:Int)=n
  ·have t:(j1_ (y2_ (mT (mIs "tuple" (z0_ 0)))) (mT (z3_ (dEq true) (mCB v5_ (z2_ (z0_ 0) z5_)) (z0_ 1)))) [.dat (.tup es),.dat (.int n)]=some (false,[.dat (.tup es),.dat (.int n)]):=by
    show some (!((es.length:Int)==n),_)=_;rw[h];simp
   obtain⟨e',h1,w,rfl⟩:=a7j (g:=gN 2) (m:=mCD 1 a1I (z7_ (z0_ 2) q0_)) (P:=fun e=>∃w,e=[.nil,.nil,w]) (f:=fun d=>.bl (isW d)) (ds:=es) (env:=[.nil,.nil,.nil])
    (fun d _ e ⟨w,he⟩=>by
     subst he;refine⟨[.nil,.nil,.dat d],[.nil,.nil,.dat d],rfl,?_,_,rfl⟩;show((a1I [.dat d]).map fun q=>(q.1,_)).bind asD=_
     rw[b9l];rfl) ⟨.nil,rfl⟩
   have hl:es.length≤100000:=by omega
   have c:(v6_ (y6_ (z0_ 0)) [false,false] 1 (gN 2) v9_ (mCD 1 a1I (z7_ (z0_ 2) q0_))) [.dat (.tup es),.dat (.int n)]=some (es.map fun d=>.bl (isW d),[.dat (.tup es),.dat (.int n)]):=by
    show(if es.length≤100000 then(k9_ _ _ _ es [.nil,.nil,.nil]).bind _ else none)=_
    rw[Qn hl,h1];rfl
   unfold a1q fnM a8e;show(match z9_ _ _ [.dat (.tup es),.dat (.int n)]with|some (.ret d,env)=>_|some (.retL ds,env)=>_|some (.nx,env)=>_|_=>none)=_
   rw[x3_ (by rw[a0C t];rfl)]
   have r:(q7_ (mCB a1m (z2_ (mF (v6_ (y6_ (z0_ 0)) [false,false] 1 (gN 2) v9_ (mCD 1 a1I (z7_ (z0_ 2) q0_)))) z5_))) [.dat (.tup es),.dat (.int n)]=some (.ret (.bl (es.all isW)),[.dat (.tup es),.dat (.int n)]):=by
    unfold q7_ mCB z2_ mF;rw[c];show(((a0p (es.map fun d=>.bl (isW d))).map fun k=>D.bl k).map _).map _=_
    rw[a2O];rfl
   rw[r];show some (Rr.d (.bl (es.all isW)),_)=_
   simp[isR,h];rfl
  ·have t:(j1_ (y2_ (mT (mIs "tuple" (z0_ 0)))) (mT (z3_ (dEq true) (mCB v5_ (z2_ (z0_ 0) z5_)) (z0_ 1)))) [.dat (.tup es),.dat (.int n)]=some (true,[.dat (.tup es),.dat (.int n)]):=by
    show some (!((es.length:Int)==n),_)=_
    simp[h]
   unfold a1q fnM a8e;show(match z9_ _ _ [.dat (.tup es),.dat (.int n)]with|some (.ret d,env)=>_|some (.retL ds,env)=>_|some (.nx,env)=>_|_=>none)=_
   rw[j9_ (d:=.bl false) (by rw[a0I t];rfl)]
   simp[isR,h];rfl
 |_=>rfl
def isG(d:D)(m n:Int):Bool:=match d with
 |.tup es=>(es.length:Int)==m&&es.all fun r=>isR r n
 |_=>false
theorem b9n(d:D)(k n:Int)(hk:k≤1000)(hn:n≤1000):a3M [.dat d,.dat (.int k),.dat (.int n)]=some (.d (.bl (isG d k n)),[.dat d,.dat (.int k),.dat (.int n)]):=by
 cases d with
 |tup es=>
  by_cases h:(es.length:Int)=k
  ·have t:(j1_ (y2_ (mT (mIs "tuple" (z0_ 0)))) (mT (z3_ (dEq true) (mCB v5_ (z2_ (z0_ 0) z5_)) (z0_ 1)))) [.dat (.tup es),.dat (.int k),.dat (.int n)]=some (false,[.dat (.tup es),.dat (.int k),.dat (.int n)]):=by
    show some (!((es.length:Int)==k),_)=_;rw[h];simp
   obtain⟨e',h1,w,rfl⟩:=a7j (g:=gN 3) (m:=mCD 2 a1q (z7_ (z0_ 3) (z7_ (z0_ 2) q0_))) (P:=fun e=>∃w,e=[.nil,.nil,.dat (.int n),w]) (f:=fun d=>.bl (isR d n)) (ds:=es) (env:=[.nil,.nil,.dat (.int n),.nil])
    (fun d _ e ⟨w,he⟩=>by
     subst he;refine⟨[.nil,.nil,.dat (.int n),.dat d],[.nil,.nil,.dat (.int n),.dat d],rfl,?_,_,rfl⟩;show((a1q [.dat d,.dat (.int n)]).map fun q=>(q.1,_)).bind asD=_
     rw[b9m d n hn];rfl) ⟨.nil,rfl⟩
   have hl:es.length≤100000:=by omega
   have c:(v6_ (y6_ (z0_ 0)) [false,false,true] 1 (gN 3) v9_ (mCD 2 a1q (z7_ (z0_ 3) (z7_ (z0_ 2) q0_)))) [.dat (.tup es),.dat (.int k),.dat (.int n)]=some (es.map fun d=>.bl (isR d n),[.dat (.tup es),.dat (.int k),.dat (.int n)]):=by
    show(if es.length≤100000 then(k9_ _ _ _ es [.nil,.nil,.dat (.int n),.nil]).bind _ else none)=_
    rw[Qn hl,h1];rfl
   refine(w3_ (d:=.bl (isG (.tup es) k n)) (env:=[.dat (.tup es),.dat (.int k),.dat (.int n)]) ?_).trans rfl;show a4B [.dat (.tup es),.dat (.int k),.dat (.int n)]=_;unfold a4B;rw[x3_ (by rw[a0C t];rfl)]
   unfold q7_ mCB z2_ mF;rw[c];show(((a0p (es.map fun d=>.bl (isR d n))).map fun k=>D.bl k).map _).map _=_
   rw[a2O]
   simp[isG,h]
  ·have t:(j1_ (y2_ (mT (mIs "tuple" (z0_ 0)))) (mT (z3_ (dEq true) (mCB v5_ (z2_ (z0_ 0) z5_)) (z0_ 1)))) [.dat (.tup es),.dat (.int k),.dat (.int n)]=some (true,[.dat (.tup es),.dat (.int k),.dat (.int n)]):=by
    show some (!((es.length:Int)==k),_)=_
    simp[h]
   refine(w3_ (d:=.bl (isG (.tup es) k n)) (env:=[.dat (.tup es),.dat (.int k),.dat (.int n)]) ?_).trans rfl;show a4B [.dat (.tup es),.dat (.int k),.dat (.int n)]=_;unfold a4B;rw[j9_ (d:=.bl false) (by rw[a0I t];rfl)]
   simp[isG,h]
 |_=>rfl
def isS(d:D)(a b:Int):Bool:=match d with
 |.tup es=>(decide (a≤(es.length:Int))&&decide ((es.length:Int)≤b))&&es.all fun r=>isR r es.length
 |_=>false
theorem b9o(d:D)(a b:Int)(hb:b≤1000):a2W [.dat d,.dat (.int a),.dat (.int b)]=some (.d (.bl (isS d a b)),[.dat d,.dat (.int a),.dat (.int b)]):=by
 cases d with
 |tup es=>
  have t:(j1_ (y2_ (mT (mIs "tuple" (z0_ 0)))) (y2_ (mT (a0y dLe dLe (z0_ 1) (mCB v5_ (z2_ (z0_ 0) z5_)) (z0_ 2))))) [.dat (.tup es),.dat (.int a),.dat (.int b)]=some (!(decide (a≤(es.length:Int))&&decide ((es.length:Int)≤b)),[.dat (.tup es),.dat (.int a),.dat (.int b)]):=by
   by_cases h1:a≤(es.length:Int)
   ·have e1:dLe (.int a) (.int es.length)=some (.bl true):=by show some (D.bl (decide _))=_;simp[h1]
    show(((match dLe (.int a) (.int es.length)with|some (.bl true)=>_|some (.bl false)=>_|_=>none:Option (D×Env')).bind asB).map _)=_
    rw[e1,Yj h1];rfl
   ·have e1:dLe (.int a) (.int es.length)=some (.bl false):=by show some (D.bl (decide _))=_;simp[h1]
    show(((match dLe (.int a) (.int es.length)with|some (.bl true)=>_|some (.bl false)=>_|_=>none:Option (D×Env')).bind asB).map _)=_
    rw[e1,Zk h1];rfl
  by_cases h:(decide (a≤(es.length:Int))&&decide ((es.length:Int)≤b))=true
  ·rw[h]at t
   refine(w3_ (d:=.bl (isS (.tup es) a b)) (env:=[.dat (.tup es),.dat (.int a),.dat (.int b)]) ?_).trans rfl;show a4C [.dat (.tup es),.dat (.int a),.dat (.int b)]=_;unfold a4C;rw[x3_ (by rw[a0C t];rfl)]
   have hl:(es.length:Int)≤1000:=by
    rw[Qy,Zf,Zf]at h
    omega
   show(((a3M [.dat (.tup es),.dat (.int es.length),.dat (.int es.length)]).map fun q=>(q.1,_)).bind asD).map _=_
   rw[b9n _ _ _ hl hl]
   simp[isS,isG,h,asD]
  ·have h':(decide (a≤(es.length:Int))&&decide ((es.length:Int)≤b))=false:=by simpa using h
   rw[h']at t;refine(w3_ (d:=.bl (isS (.tup es) a b)) (env:=[.dat (.tup es),.dat (.int a),.dat (.int b)]) ?_).trans rfl;show a4C [.dat (.tup es),.dat (.int a),.dat (.int b)]=_;unfold a4C;rw[j9_ (d:=.bl false) (by rw[a0I t];rfl)]
   simp[isS,h']
 |_=>rfl
def dR(l:List Int):D:=.tup (l.map .int)
def dT(R:OI):D:=.tup (R.map dR)
def unI:D->Int
 |.int i=>i
 |_=>0
def unR:D->List Int
 |.tup es=>es.map unI
 |.lst es=>es.map unI
 |_=>[]
def unT:D->OI
 |.tup es=>es.map unR
 |_=>[]
theorem b9p{d:D}(h:isW d=true):d=.int (unI d):=by cases d<;>first|rfl|cases h
theorem b1H{es:List D}(h:es.all isW=true):es=(es.map unI).map .int:=by
 induction es with
 |nil=>rfl
 |cons d es ih=>
  rw[Za,Qy]at h;rw[Qg,Qg,←b9p h.1,←ih h.2]
theorem a5N{d:D}{n:Int}(h:isR d n=true):d=dR (unR d)/\((unR d).length:Int)=n:=by
 cases d<;>first|cases h|skip
 rename_i es;simp only[isR,Qy,Jj]at h;refine⟨?_,by simp[unR,h.1]⟩
 show D.tup es=.tup ((es.map unI).map .int);rw[←b1H h.2]
theorem b1I{d:D}{a b:Int}(h:isS d a b=true):d=dT (unT d)/\a≤((unT d).length:Int)/\((unT d).length:Int)≤b/\∀r∈unT d,r.length=(unT d).length:=by
 cases d<;>first|cases h|skip
 rename_i es;simp only[isS,Qy,Zf,Qv]at h;refine⟨?_,by simpa [unT]using h.1.1,by simpa [unT]using h.1.2,fun r hr=>?_⟩
 ·show D.tup es=.tup ((es.map unR).map dR)
  congr 1
  rw[Zc]
  conv=>lhs;rw[←Va es]
  exact Yp fun x hx=>(a5N (h.2 x hx)).1
 ·obtain⟨x,hx,rfl⟩:=Qo.mp hr
  have:=(a5N (h.2 x hx)).2;simp only[unT,Qk]
  omega
theorem b9q(l:List Int):(l.map D.int).map unI=l:=by rw[Zc];exact Va l
theorem b1J(l:List Int):unR (dR l)=l:=b9q l
theorem a5O(R:OI):unT (dT R)=R:=by
 show(R.map dR).map unR=R;rw[Zc]
 conv=>rhs;rw[←Va R]
 exact Yp fun r _=>b1J r
theorem b9r(l:List Int):isR (dR l) l.length=true:=by
 simp[isR,dR,isW]
theorem b1K{R:OI}{a b:Int}(h1:a≤R.length)(h2:(R.length:Int)≤b)(h:∀r∈R,r.length=R.length):isS (dT R) a b=true:=by
 simp only[isS,dT,Qk,Qy,Zf,Qv];refine⟨⟨h1,h2⟩,fun x hx=>?_⟩
 obtain⟨r,hr,rfl⟩:=Qo.mp hx;have:=b9r r;rw[h r hr]at this;exact this
theorem a1y{α:Type}{xs:List α}{j:Nat}{x:α}(h:xs[j]? =some x):atI xs (j:Int)=some x:=by
 have hj:j<xs.length:=(Qb.mp h).1
 unfold atI ixN;rw[Qn (by omega),Qn (by omega)]
 simpa using h
theorem a2t(n:Nat):a0d 0 n=(List.range n).map fun(i:Nat)=>D.int i:=by
 unfold a0d;exact Yp fun i _=>by simp
theorem a2Z{α:Type}{g:OZ}{m:Mo D}{P:Env'->Prop}{q:α->D}{f:α->D}{l:List α}{env:Env'}(h:∀a∈l,∀e,P e->∃e1 e2,g (q a) e=some e1/\m e1=some (f a,e2)/\P e2)(p:P env):
  ∃env',k9_ g v9_ m (l.map q) env=some (l.map f,env')/\P env':=by
 induction l generalizing env with
 |nil=>exact⟨env,rfl,p⟩
 |cons a l ih=>
  obtain⟨e1,e2,h1,h2,h3⟩:=h a (by simp) env p
  obtain⟨e3,h4,h5⟩:=ih (fun x hx=>h x (by simp[hx])) h3
  refine⟨e3,?_,h5⟩;rw[Qg,Qg];unfold k9_;rw[h1];simp only[Qx,v9_,Zs];rw[h2];simp only[Qx];rw[h4];rfl
def flip(n:Nat)(R:OI):OI:=(List.range n).map fun j=>R.map fun r=>r.getD j 0
theorem b9s{R:OI}{n:Nat}(h:∀r∈R,r.length=n){j:Nat}(hj:j<n){r:List Int}(hr:r∈R):dIx (dR r) (.int (j:Int))=some (.int (r.getD j 0)):=by
 show atI (r.map D.int) (j:Int)=_
 apply a1y
 have:=h r hr
 simp[Zx (show j<r.length by omega)]
theorem b9t{R:OI}{n:Nat}(hR:R≠[])(h:∀r∈R,r.length=n)(hn:n≤1000)(hl:R.length≤1000):a1J [.dat (dT R)]=some (.d (dT (flip n R)),[.dat (dT R)]):=by
 obtain⟨r0,R',rfl⟩:∃r0 R',R=r0::R':=by
  cases R with
  |nil=>exact absurd rfl hR
  |cons a b=>exact⟨a,b,rfl⟩
 have h0:r0.length=n:=h r0 (by simp)
 have inner:∀j,j<n->(mCB u6_ (z2_ (mF (v6_ (y6_ (z0_ 0)) [false,true] 1 (gN 2) v9_ (z3_ dIx (z0_ 2) (z0_ 1)))) z5_)) [.dat (dT (r0::R')),.dat (.int (j:Int))]=some (dR ((r0::R').map fun r=>r.getD j 0),[.dat (dT (r0::R')),.dat (.int (j:Int))]):=fun j hj=>by
  obtain⟨e',h1,w',rfl⟩:=a2Z (g:=gN 2) (m:=z3_ dIx (z0_ 2) (z0_ 1)) (P:=fun e=>∃w,e=[.nil,.dat (.int (j:Int)),w]) (q:=dR) (f:=fun r=>.int (r.getD j 0)) (l:=r0::R') (env:=[.nil,.dat (.int (j:Int)),.nil])
   (fun r hr e ⟨w,he⟩=>by
    subst he;refine⟨[.nil,.dat (.int (j:Int)),.dat (dR r)],[.nil,.dat (.int (j:Int)),.dat (dR r)],rfl,?_,_,rfl⟩;show(dIx (dR r) (.int (j:Int))).map _=_;rw[b9s h hj hr];rfl) ⟨.nil,rfl⟩
  have hl':((r0::R').map dR).length≤100000:=by rw[Qk];omega
  have c:(v6_ (y6_ (z0_ 0)) [false,true] 1 (gN 2) v9_ (z3_ dIx (z0_ 2) (z0_ 1))) [.dat (dT (r0::R')),.dat (.int (j:Int))]=some ((r0::R').map fun r=>.int (r.getD j 0),[.dat (dT (r0::R')),.dat (.int (j:Int))]):=by
   show(if((r0::R').map dR).length≤100000 then(k9_ _ _ _ ((r0::R').map dR) [.nil,.dat (.int (j:Int)),.nil]).bind _ else none)=_
   rw[Qn hl',h1];rfl
  unfold mCB z2_ mF;rw[c];show some (D.tup _,_)=_;unfold dR;rw[Zc];rfl
 obtain⟨e',h1,w,rfl⟩:=a2Z (g:=gN 1) (m:=mCB u6_ (z2_ (mF (v6_ (y6_ (z0_ 0)) [false,true] 1 (gN 2) v9_ (z3_ dIx (z0_ 2) (z0_ 1)))) z5_)) (P:=fun e=>∃w,e=[.dat (dT (r0::R')),w]) (q:=fun(j:Nat)=>D.int j) (f:=fun j=>dR ((r0::R').map fun r=>r.getD j 0)) (l:=List.range n) (env:=[.dat (dT (r0::R')),.nil])
  (fun j hj e ⟨w,he⟩=>by
   subst he;exact⟨_,_,rfl,inner j (Yy.mp hj),_,rfl⟩) ⟨.nil,rfl⟩
 refine(w3_ (d:=dT (flip n (r0::R'))) (env:=[.dat (dT (r0::R'))]) ?_).trans rfl;show a8f [.dat (dT (r0::R'))]=_;unfold a8f;have hrg:(j2_ (z2_ (mCB v5_ (z2_ (z3_ dIx (z0_ 0) (mC (.int 0))) z5_)) z5_)) [.dat (dT (r0::R'))]=some (a0d 0 n,[.dat (dT (r0::R'))]):=by
  have e:(z2_ (mCB v5_ (z2_ (z3_ dIx (z0_ 0) (mC (.int 0))) z5_)) z5_) [.dat (dT (r0::R'))]=some ([.int (n:Int)],[.dat (dT (r0::R'))]):=by
   refine k2_ (a0q (k2_ (v3_ rfl rfl (show dIx (dT (r0::R')) (.int 0)=some (dR r0)from a1y (xs:=(r0::R').map dR) (j:=0) rfl)) rfl) ?_) rfl
   show some (D.int ((r0.map D.int).length:Nat))=_;rw[Qk,h0]
  have:=a4t e (by omega) (by omega)
  rwa [Yc]at this
 have c:(v6_ (j2_ (z2_ (mCB v5_ (z2_ (z3_ dIx (z0_ 0) (mC (.int 0))) z5_)) z5_)) [true] 1 (gN 1) v9_ (mCB u6_ (z2_ (mF (v6_ (y6_ (z0_ 0)) [false,true] 1 (gN 2) v9_ (z3_ dIx (z0_ 2) (z0_ 1)))) z5_))) [.dat (dT (r0::R'))]=some ((List.range n).map fun j=>dR ((r0::R').map fun r=>r.getD j 0),[.dat (dT (r0::R'))]):=by
  refine a2d (e2:=[.dat (dT (r0::R')),w]) hrg (by rw[a2t];simp;omega) ?_ rfl
  rw[a2t];exact h1
 refine a0h (a0q (k2_ (g0_ c) rfl) ?_);show some (D.tup _)=_;unfold dT flip;rw[Zc];rfl
def tt:Int->List Int->Bool
 |s,[]=>s==1
 |s,x::l=>(s+x==0||s+x==1)&&tt (s+x) l
abbrev a0N:Mo Fl:=(z9_ (a5i 1 a5d (z0_ 2)) (v1_ (mT (z3_ (dIn true) (z0_ 1) (x7_ (z2_ (mC (.int 0)) (z2_ (mC (.int 1)) z5_))))) (q7_ (mC (.bl false))) mNx))
theorem b9u(L:D)(s x:Int):a0N [.dat L,.dat (.int s),.dat (.int x)]=some (stop (s+x==0||s+x==1) (.bl false),[.dat L,.dat (.int (s+x)),.dat (.int x)]):=by
 have t:(mT (z3_ (dIn true) (z0_ 1) (x7_ (z2_ (mC (.int 0)) (z2_ (mC (.int 1)) z5_))))) [.dat L,.dat (.int (s+x)),.dat (.int x)]=some (!(s+x==0||s+x==1),[.dat L,.dat (.int (s+x)),.dat (.int x)]):=by
  show some (!(List.contains [(0:Int),1] (s+x)),_)=_;rw[Ut,Ut,List.contains_nil,Bool.or_false]
 unfold a0N;rw[x3_ (e1:=[.dat L,.dat (.int (s+x)),.dat (.int x)]) rfl];cases hb:(s+x==0||s+x==1)with
 |true=>rw[hb]at t;rw[a0C t];rfl
 |false=>rw[hb]at t;rw[a0I t];rfl
theorem b1L(L:D):∀(l:List Int) (s:Int) (w:W),(∃s' w',loop (gN 2) a0N (l.map .int) [.dat L,.dat (.int s),w]=some (.nx,[.dat L,.dat (.int s'),w'])/\tt s l=(s'==1))∨(tt s l=false/\∃e,loop (gN 2) a0N (l.map .int) [.dat L,.dat (.int s),w]=some (.ret (.bl false),e)/\e.length=3/\e[0]? =some (.dat L))
 |[],s,w=>.inl ⟨s,w,rfl,rfl⟩
 |x::l,s,w=>by
  have h:=b9u L s x
  cases hb:(s+x==0||s+x==1)with
  |true=>
   rw[hb]at h;have e:∀r,loop (gN 2) a0N ((x::l).map .int) [.dat L,.dat (.int s),w]=r↔loop (gN 2) a0N (l.map .int) [.dat L,.dat (.int (s+x)),.dat (.int x)]=r:=fun r=>by
    rw[Qg];have:loop (gN 2) a0N (D.int x::l.map .int) [.dat L,.dat (.int s),w]=loop (gN 2) a0N (l.map .int) [.dat L,.dat (.int (s+x)),.dat (.int x)]:=by
     show(a0N [.dat L,.dat (.int s),.dat (.int x)]).bind _=_;rw[h];rfl
    rw[this]
   have et:tt s (x::l)=tt (s+x) l:=by simp[tt,hb]
   rw[et]
   rcases b1L L l (s+x) (.dat (.int x))with⟨s',w',h1,h2⟩|⟨h1,e',h2,h3⟩
   ·exact .inl ⟨s',w',(e _).mpr h1,h2⟩
   ·exact .inr ⟨h1,e',(e _).mpr h2,h3⟩
  |false=>
   rw[hb]at h;refine .inr ⟨by simp[tt,hb],[.dat L,.dat (.int (s+x)),.dat (.int x)],?_,rfl,rfl⟩
   rw[Qg];show(a0N [.dat L,.dat (.int s),.dat (.int x)]).bind _=_;rw[h];rfl
theorem b9v(l:List Int):a2m [.dat (dR l)]=some (.d (.bl (tt 0 l)),[.dat (dR l)]):=by
 have hi:(j3_ (y6_ (z0_ 0)) (gN 2) a0N) [.dat (dR l),.dat (.int 0),.nil]=loop (gN 2) a0N (l.map .int) [.dat (dR l),.dat (.int 0),.nil]:=rfl
 rcases b1L (dR l) l 0 .nil with⟨s',w',h1,h2⟩|⟨h1,e',h2,h3,h4⟩
 ·refine(w3_ (d:=.bl (tt 0 l)) (env:=[.dat (dR l),.dat (.int s'),w']) ?_).trans rfl
  show a4D [.dat (dR l),.nil,.nil]=_;unfold a4D;rw[x3_ (e1:=[.dat (dR l),.dat (.int 0),.nil]) rfl,x3_ (hi.trans h1)];show some (Fl.ret (.bl (s'==1)),_)=_;rw[h2]
 ·refine(w3_ (d:=.bl (tt 0 l)) (env:=e') ?_).trans ?_
  ·show a4D [.dat (dR l),.nil,.nil]=_
   unfold a4D;rw[x3_ (e1:=[.dat (dR l),.dat (.int 0),.nil]) rfl,j9_ (hi.trans h2),h1]
  ·match e',h3,h4 with
   |[a,b,c],_,h4=>cases h4;rfl
def isT(d:D):Bool:=isS d 1 6&&(unT d++flip (unT d).length (unT d)).all (tt 0)
theorem b1M{n:Nat}{R:OI}:(flip n R).length=n:=by simp[flip]
theorem b9w(d:D):a4E [.dat d]=some (.d (.bl (isT d)),[.dat d]):=by
 have t:(y2_ (mT (mCD 3 a2W (z7_ (z0_ 0) (z7_ (mC (.int 1)) (z7_ (mC (.int 6)) q0_)))))) [.dat d]=some (!isS d 1 6,[.dat d]):=by
  show((((a2W [.dat d,.dat (.int 1),.dat (.int 6)]).map fun q=>(q.1,_)).bind asD).bind asB).map _=_
  rw[b9o d 1 6 (by decide)];rfl
 refine(w3_ (d:=.bl (isT d)) (env:=[.dat d]) ?_).trans rfl;show a8g [.dat d]=_;unfold a8g;cases hs:isS d 1 6 with
 |false=>
  rw[hs]at t;rw[j9_ (d:=.bl false) (by rw[a0I t];rfl)]
  simp[isT,hs]
 |true=>
  rw[hs]at t;rw[x3_ (by rw[a0C t];rfl)]
  obtain⟨h1,h2,h3,h4⟩:=b1I hs;generalize unT d=R at h1 h2 h3 h4;subst h1;have fl:a1J [.dat (dT R)]=some (.d (dT (flip R.length R)),[.dat (dT R)]):=b9t (by intro z;subst z;simp at h2) h4 (by omega) (by omega)
  have it:(y6_ (z3_ y4_ (z0_ 0) (mCD 1 a1J (z7_ (z0_ 0) q0_)))) [.dat (dT R)]=some ((R++flip R.length R).map dR,[.dat (dT R)]):=by
   show(((((a1J [.dat (dT R)]).map fun q=>(q.1,_)).bind asD).bind fun q=>(y4_ (dT R) q.1).map fun d=>(d,q.2)).bind _)=_
   rw[fl];show((y4_ (dT R) (dT (flip R.length R))).map fun d=>(d,([.dat (dT R)]:Env'))).bind _=_
   have:y4_ (dT R) (dT (flip R.length R))=some (.tup ((R++flip R.length R).map dR)):=by
    show(if(R.map dR).length+((flip R.length R).map dR).length≤10000 then _ else none)=_
    rw[Qn (by rw[Qk,Qk,b1M];omega),Uj]
   rw[this];rfl
  obtain⟨e',h5,w,rfl⟩:=a2Z (g:=gN 1) (m:=mCD 1 a2m (z7_ (z0_ 1) q0_)) (P:=fun e=>∃w,e=[.nil,w]) (q:=dR) (f:=fun r=>.bl (tt 0 r)) (l:=R++flip R.length R) (env:=[.nil,.nil])
   (fun r _ e ⟨w,he⟩=>by
    subst he;refine⟨[.nil,.dat (dR r)],[.nil,.dat (dR r)],rfl,?_,_,rfl⟩;show((a2m [.dat (dR r)]).map fun q=>(q.1,_)).bind asD=_
    rw[b9v];rfl) ⟨.nil,rfl⟩
  have c:(v6_ (y6_ (z3_ y4_ (z0_ 0) (mCD 1 a1J (z7_ (z0_ 0) q0_)))) [false] 1 (gN 1) v9_ (mCD 1 a2m (z7_ (z0_ 1) q0_))) [.dat (dT R)]=some ((R++flip R.length R).map fun r=>.bl (tt 0 r),[.dat (dT R)]):=by
   unfold v6_;rw[it];show(if((R++flip R.length R).map dR).length≤100000 then(k9_ _ _ _ ((R++flip R.length R).map dR) [.nil,.nil]).bind _ else none)=_
   rw[Qn (by rw[Qk,Qs,b1M];omega),h5];rfl
  unfold q7_ mCB z2_ mF;rw[c];show(((a0p ((R++flip R.length R).map fun r=>.bl (tt 0 r))).map fun k=>D.bl k).map _).map _=_
  rw[a2O];simp only[isT,hs,a5O,Ze];rfl
theorem a3S{i j:Int}(h:a2B i j=true):j5_ (.int i) (.int j)=some (.int (i * j)):=by
 unfold j5_ fOr a6z fI;simp only[h,Zs]
theorem a4M{i j:Int}(h1: -18446744073709551616<i)(h2:i<18446744073709551616):a2B i j=true:=by
 unfold a2B;rw[show((2:Int)^64)=18446744073709551616 from rfl]
 simp[h1,h2]
theorem b9x{i j:Int}(h1: -18446744073709551616<j)(h2:j<18446744073709551616):a2B i j=true:=by
 unfold a2B;rw[show((2:Int)^64)=18446744073709551616 from rfl]
 simp[h1,h2]
theorem a5P:∀l:List Int,a0g (l.map D.int)=l.map PyData.int
 |[]=>rfl
 |x::l=>by show PyData.int x::a0g (l.map D.int)=_;rw[a5P l];rfl
theorem a5B:∀l:List Int,PyData.canLayAll0 (l.map PyData.int)=true
 |[]=>rfl
 |x::l=>by show(true&&PyData.canLayAll0 (l.map PyData.int))=true;rw[a5B l];rfl
theorem b1N:∀l:List Int,PyData.depthAll (l.map PyData.int)=0
 |[]=>rfl
 |x::l=>by show max 0 (PyData.depthAll (l.map PyData.int))=0;rw[b1N l];rfl
theorem b1O:∀l k:List Int,PyData.eqvAll (l.map PyData.int) (k.map PyData.int)=decide (l=k)
 |[],[]=>rfl
 |[],_::_=>rfl
 |_::_,[]=>rfl
 |x::l,y::k=>by
  show((x==y)&&PyData.eqvAll (l.map PyData.int) (k.map PyData.int))=_;rw[b1O l k]
  by_cases h:x=y
  ·subst h;simp
  ·simp[h]
theorem b1P(l:List Int):shp (.lst (l.map D.int))=true:=by
 unfold shp SeqAt.shaped;show(PyData.canLayAll0 (a0g (l.map D.int))&&decide (PyData.depthAll (a0g (l.map D.int))+1≤64))=true;rw[a5P,a5B,b1N];rfl
theorem b9y(l k:List Int):dEq false (.lst (l.map D.int)) (.lst (k.map D.int))=some (.bl (decide (l=k))):=by
 unfold dEq;rw[b1P,b1P];show some (D.bl (PyData.eqvAll (a0g (l.map D.int)) (a0g (k.map D.int))))=_;rw[a5P,a5P,b1O]
theorem a8q{α:Type}{g:OZ}{t:Mo Bool}{m:Mo D}{P:Env'->Prop}{q:α->D}{f:α->D}{p:α->Bool}:∀{l:List α}{env:Env'},(∀a∈l,∀e,P e->∃e1 e2,g (q a) e=some e1/\t e1=some (p a,e2)/\(p a=true->∃e3,m e2=some (f a,e3)/\P e3)/\(p a=false->P e2))->P env->
  ∃env',k9_ g t m (l.map q) env=some ((l.filter p).map f,env')/\P env'
 |[],env,_,h=>⟨env,rfl,h⟩
 |a::l,env,h,hp=>by
  obtain⟨e1,e2,h1,h2,h3,h4⟩:=h a (by simp) env hp
  cases hb:p a with
  |true=>
   obtain⟨e3,h5,h6⟩:=h3 hb;obtain⟨e4,h7,h8⟩:=a8q (l:=l) (fun x hx=>h x (by simp[hx])) h6
   refine⟨e4,?_,h8⟩;rw[Qg,Ja hb,Qg];unfold k9_;rw[h1];simp only[Qx];rw[h2,hb];simp only[Qx,Zs];rw[h5];simp only[Qx];rw[h7];rfl
  |false=>
   obtain⟨e4,h7,h8⟩:=a8q (l:=l) (fun x hx=>h x (by simp[hx])) (h4 hb)
   refine⟨e4,?_,h8⟩;rw[Qg,Jt (by simp[hb])]
   unfold k9_;rw[h1];simp only[Qx];rw[h2,hb];simp only[Qx,Zn,Jv];exact h7
def inB(d:D)(a b:Int):Bool:=match d with
 |.int i=>decide (a≤i)&&decide (i≤b)
 |_=>false
theorem b1Q{a i b:Int}{e:Env'}{ma mb mc:Mo D}(h1:ma e=some (.int a,e))(h2:mb e=some (.int i,e))(h3:mc e=some (.int b,e)):a0y dLe dLe ma mb mc e=some (.bl (decide (a≤i)&&decide (i≤b)),e):=by
 unfold a0y;rw[h1];show(mb e).bind _=_;rw[h2]
 by_cases h:a≤i
 ·have e1:dLe (.int a) (.int i)=some (.bl true):=by show some (D.bl (decide _))=_;simp[h]
  simp only[Qx,e1];rw[h3];show some (D.bl (decide (i≤b)),e)=_
  simp[h]
 ·have e1:dLe (.int a) (.int i)=some (.bl false):=by show some (D.bl (decide _))=_;simp[h]
  simp only[Qx,e1]
  simp[h]
theorem b9z(d:D)(a b:Int):a1s [.dat d,.dat (.int a),.dat (.int b)]=some (.d (.bl (inB d a b)),[.dat d,.dat (.int a),.dat (.int b)]):=by
 cases d with
 |int i=>
  refine(w3_ (d:=.bl (inB (.int i) a b)) (env:=[.dat (.int i),.dat (.int a),.dat (.int b)]) ?_).trans rfl;show a8l [.dat (.int i),.dat (.int a),.dat (.int b)]=_;unfold a8l;have c:=b1Q (e:=[.dat (.int i),.dat (.int a),.dat (.int b)]) (ma:=z0_ 1) (mb:=z0_ 0) (mc:=z0_ 2) rfl rfl rfl;exact a0h c
 |_=>rfl
def tt2(l:List Int):Bool:=decide (l.filter (fun x=>!(x==0))=(List.range (l.filter fun x=>!(x==0)).length).map fun(i:Nat)=>1-2 * ((i:Int)%2))&&(((l.filter fun x=>!(x==0)).length:Int)%2==1)
theorem b1R(d:D)(l:List Int)(hd:d.items=some (l.map .int))(hl:l.length≤1000):a1b [.dat d]=some (.d (.bl (tt2 l)),[.dat d]):=by
 obtain⟨e',h1,w,rfl⟩:=a8q (g:=gN 2) (t:=mT (z3_ (dEq true) (z0_ 2) (mC (.int 0)))) (m:=z0_ 2) (P:=fun e=>∃w,e=[.nil,.nil,w]) (q:=D.int) (f:=D.int) (p:=fun x=>!(x==0)) (l:=l) (env:=[.nil,.nil,.nil])
  (fun x _ e ⟨w,he⟩=>by
   subst he;exact⟨[.nil,.nil,.dat (.int x)],[.nil,.nil,.dat (.int x)],rfl,rfl,fun _=>⟨_,rfl,_,rfl⟩,fun _=>⟨_,rfl⟩⟩) ⟨.nil,rfl⟩
 generalize hs:l.filter (fun x=>!(x==0))=s at h1
 have hsl:s.length≤1000:=by rw[←hs];exact Qt (List.length_filter_le _ _) hl
 have c1:(v6_ (y6_ (z0_ 0)) [false,false] 1 (gN 2) (mT (z3_ (dEq true) (z0_ 2) (mC (.int 0)))) (z0_ 2)) [.dat d,.nil]=some (s.map .int,[.dat d,.nil]):=
  a2d (e2:=[.nil,.nil,w]) (a3A rfl hd) (by rw[Qk];omega) h1 rfl
 obtain⟨e',h2,w2,rfl⟩:=a2Z (g:=gN 2) (m:=z3_ a0S (mC (.int 1)) (z3_ j5_ (mC (.int 2)) (z3_ j0_ (z0_ 2) (mC (.int 2))))) (P:=fun e=>∃w,e=[.nil,.nil,w]) (q:=fun(i:Nat)=>D.int i) (f:=fun i=>.int (1-2 * ((i:Int)%2))) (l:=List.range s.length) (env:=[.nil,.nil,.nil])
  (fun i _ e ⟨w,he⟩=>by
   subst he;refine⟨[.nil,.nil,.dat (.int i)],[.nil,.nil,.dat (.int i)],rfl,?_,_,rfl⟩;refine v3_ (b:=.int (2 * ((i:Int)%2))) rfl (v3_ rfl (v3_ rfl rfl (show j0_ (.int i) (.int 2)=some (.int ((i:Int)%2))from rfl)) ?_) rfl
   exact a3S (a4M (by decide) (by decide))) ⟨.nil,rfl⟩
 have c2:(v6_ (j2_ (z2_ (mCB v5_ (z2_ (z0_ 1) z5_)) z5_)) [false,false] 1 (gN 2) v9_ (z3_ a0S (mC (.int 1)) (z3_ j5_ (mC (.int 2)) (z3_ j0_ (z0_ 2) (mC (.int 2)))))) [.dat d,.dat (.lst (s.map .int))]=some (((List.range s.length).map fun(i:Nat)=>1-2 * ((i:Int)%2)).map D.int,[.dat d,.dat (.lst (s.map .int))]):=by
  have r1:(j2_ (z2_ (mCB v5_ (z2_ (z0_ 1) z5_)) z5_)) [.dat d,.dat (.lst (s.map .int))]=some (a0d 0 s.length,[.dat d,.dat (.lst (s.map .int))]):=by
   have e:(z2_ (mCB v5_ (z2_ (z0_ 1) z5_)) z5_) [.dat d,.dat (.lst (s.map .int))]=some ([.int (s.length:Int)],[.dat d,.dat (.lst (s.map .int))]):=by
    refine k2_ (a0q (k2_ rfl rfl) ?_) rfl;show some (D.int ((s.map D.int).length:Nat))=_;rw[Qk]
   have:=a4t e (by omega) (by omega)
   rwa [Yc]at this
  refine a2d (e2:=[.nil,.nil,w2]) r1 (by rw[a2t];simp;omega) ?_ rfl
  rw[a2t,Zc];exact h2
 refine(w3_ (d:=.bl (tt2 l)) (env:=[.dat d,.dat (.lst (s.map .int))]) ?_).trans rfl;show a8m [.dat d,.nil]=_;unfold a8m;rw[x3_ (b0D c1)];show q7_ _ [.dat d,.own (s.map .int)]=_;refine a0h ?_
 have a1:(z3_ (dEq false) (z0_ 1) (mF (v6_ (j2_ (z2_ (mCB v5_ (z2_ (z0_ 1) z5_)) z5_)) [false,false] 1 (gN 2) v9_ (z3_ a0S (mC (.int 1)) (z3_ j5_ (mC (.int 2)) (z3_ j0_ (z0_ 2) (mC (.int 2)))))))) [.dat d,.own (s.map .int)]=some (.bl (decide (s=(List.range s.length).map fun(i:Nat)=>1-2 * ((i:Int)%2))),[.dat d,.dat (.lst (s.map .int))]):=
  v3_ (e1:=[.dat d,.dat (.lst (s.map .int))]) rfl (g0_ c2) (b9y _ _)
 have a2:(z3_ (dEq false) (z3_ j0_ (mCB v5_ (z2_ (z0_ 1) z5_)) (mC (.int 2))) (mC (.int 1))) [.dat d,.dat (.lst (s.map .int))]=some (.bl ((s.length:Int)%2==1),[.dat d,.dat (.lst (s.map .int))]):=by
  refine v3_ (v3_ (a0q (k2_ rfl rfl) (show v5_ [.lst (s.map .int)]=some (.int (s.length:Int))from ?_)) rfl rfl) rfl rfl
  show some (D.int ((s.map D.int).length:Nat))=_;rw[Qk]
 unfold a0x;rw[a1];simp only[Qx];unfold tt2;rw[hs];cases hb:decide (s=(List.range s.length).map fun(i:Nat)=>1-2 * ((i:Int)%2))with
 |true=>simp only[Ze];exact a2
 |false=>simp only[Jk]
def alt:Int->Nat->List Int
 |_,0=>[]
 |s,k+1=>(1-2 * s)::alt (1-s) k
theorem b1S:∀(k j:Nat),(List.range' j k).map (fun(i:Nat)=>1-2 * ((i:Int)%2))=alt ((j:Int)%2) k
 |0,_=>rfl
 |k+1,j=>by
  rw[List.range'_succ,Qg,b1S k (j+1)];show _=(1-2 * ((j:Int)%2))::alt (1-(j:Int)%2) k
  congr 2
  omega
theorem b9A(k:Nat):(List.range k).map (fun(i:Nat)=>1-2 * ((i:Int)%2))=alt 0 k:=by
 rw[List.range_eq_range'];exact b1S k 0
def small(x:Int):Bool:=decide (-1≤x)&&decide (x≤1)
theorem b9B(l:List Int):∀s:Int,(s=0∨s=1)->tt s l=tt s (l.filter fun x=>!(x==0)):=by
 induction l with
 |nil=>intro s _;rfl
 |cons x l ih=>
  intro s hs
  by_cases hx:x=0
  ·subst hx
   rw[Jt (by simp),←ih s hs]
   rcases hs with rfl|rfl<;>simp[tt]
  ·rw[Ja (by simp[hx])]
   simp only[tt]
   by_cases h:(s+x==0||s+x==1)=true
   ·rw[h,Ze,Ze]
    exact ih (s+x) (by simpa using h)
   ·have h':(s+x==0||s+x==1)=false:=by simpa using h
    rw[h',Jk,Jk]
theorem b9C(l:List Int):∀s:Int,(s=0∨s=1)->(∀x∈l,x=1∨x= -1)->tt s l=(decide (l=alt s l.length)&&((l.length:Int)+s)%2==1):=by
 induction l with
 |nil=>intro s hs _;rcases hs with rfl|rfl<;>rfl
 |cons x l ih=>
  intro s hs hx;have hx1:=hx x (by simp)
  have ih':=fun s hs=>ih s hs fun y hy=>hx y (by simp[hy])
  simp only[tt,Zq,alt]
  rcases hs with rfl|rfl
  ·rcases hx1 with rfl|rfl
   ·have:=ih' 1 (.inr rfl)
    show(true&&tt 1 l)=(decide (1::l=(1:Int)::alt 1 l.length)&&((((l.length+1:Nat):Int)+0)%2==1));have e1:decide (1::l=(1:Int)::alt 1 l.length)=decide (l=alt 1 l.length):=by simp
    have e2:((l.length:Int)+1)=(((l.length+1:Nat):Int)+0):=by omega
    rw[Ze,this,e1,e2]
   ·simp[show((0:Int)+ -1==0||(0:Int)+ -1==1)=false from rfl]
  ·rcases hx1 with rfl|rfl
   ·simp[show((1:Int)+1==0||(1:Int)+1==1)=false from rfl]
   ·have:=ih' 0 (.inl rfl)
    show(true&&tt 0 l)=(decide (-1::l=(-1:Int)::alt 0 l.length)&&((((l.length+1:Nat):Int)+1)%2==1));have e1:decide (-1::l=(-1:Int)::alt 0 l.length)=decide (l=alt 0 l.length):=by simp
    have e2:((l.length:Int)+0)%2=(((l.length+1:Nat):Int)+1)%2:=by omega
    rw[Ze,this,e1,e2]
theorem b1T(l:List Int)(h:∀x∈l,small x=true):tt 0 l=tt2 l:=by
 rw[b9B l 0 (.inl rfl),b9C _ 0 (.inl rfl) (fun x hx=>?_)]
 ·unfold tt2
  rw[b9A,Int.add_zero]
 ·obtain⟨h1,h2⟩:=List.mem_filter.mp hx
  have:=h x h1
  simp[small]at this h2
  omega
theorem b1U(l:List Int):∀s:Int,(s=0∨s=1)->tt s l=true->∀x∈l,small x=true:=by
 induction l with
 |nil=>intro s _ _ x hx;cases hx
 |cons y l ih=>
  intro s hs h x hx;simp only[tt,Qy]at h;have h1:s+y=0∨s+y=1:=by simpa using h.1
  rcases Qm.mp hx with rfl|hx
  ·simp[small];omega
  ·exact ih (s+y) h1 h.2 x hx
theorem b9D(l:List Int):tt 0 l=(l.all small&&tt2 l):=by
 by_cases h:l.all small=true
 ·rw[h,Ze];exact b1T l (Qv.mp h)
 ·have h':l.all small=false:=by simpa using h
  rw[h',Jk];cases ht:tt 0 l with
  |false=>rfl
  |true=>exact absurd (Qv.mpr (b1U l 0 (.inl rfl) ht)) h
def Pl(w:W):Prop:=w=.nil∨ ∃d,w=.dat d
def a0v(n:Nat)(d:D):Bool:=match d with
 |.tup xs=>(xs.length==n)&&(xs.all (fun x=>inB x (-1) 1)&&tt2 (unR d))
 |_=>false
theorem a8r{x:D}(h:inB x (-1) 1=true):isW x=true/\small (unI x)=true:=by
 cases x<;>first|cases h|skip
 exact⟨rfl,h⟩
theorem a4N(n:Nat)(d:D):a0v n d=(isR d n&&tt 0 (unR d)):=by
 cases d with
 |tup xs=>
  simp only[a0v,isR]
  by_cases hl:xs.length=n
  ·subst hl
   rw[b9D];simp only[Uh,Ze,←Bool.and_assoc]
   congr 1
   by_cases h:xs.all (fun x=>inB x (-1) 1)=true
   ·rw[h]
    have h1:=Qv.mp h
    have a1:xs.all isW=true:=Qv.mpr fun x hx=>(a8r (h1 x hx)).1
    have a2:(unR (.tup xs)).all small=true:=Qv.mpr fun y hy=>by
     obtain⟨x,hx,rfl⟩:=Qo.mp hy;exact(a8r (h1 x hx)).2
    rw[a1,a2];rfl
   ·have h':xs.all (fun x=>inB x (-1) 1)=false:=by simpa using h
    rw[h'];cases hw:(xs.all isW&&(unR (.tup xs)).all small)with
    |false=>rfl
    |true=>
     rw[Qy]at hw
     exfalso
     apply h
     refine Qv.mpr fun x hx=>?_
     have b1:=Qv.mp hw.1 x hx
     have b2:=Qv.mp hw.2 (unI x) (Qo.mpr ⟨x,hx,rfl⟩)
     cases x<;>first|exact b2|cases b1
  ·have h1:(xs.length==n)=false:=by simpa using hl
   have h2:((xs.length:Int)==(n:Int))=false:=by
    rw[Qa];omega
   rw[h1,h2];rfl
 |_=>rfl
abbrev a4O:Mo Fl:=(z9_ (v1_ (j1_ (y2_ (mT (mIs "tuple" (z0_ 1)))) (mT (z3_ (dEq true) (mCB v5_ (z2_ (z0_ 1) z5_)) (mCB v5_ (z2_ (z0_ 0) z5_))))) (q7_ (mC (.bl false))) mNx) (z9_ (j3_ (y6_ (z0_ 1)) (gN 2) (v1_ (y2_ (mT (mCD 3 a1s (z7_ (z0_ 2) (z7_ (a1i (mC (.int 1))) (z7_ (mC (.int 1)) q0_)))))) (q7_ (mC (.bl false))) mNx)) (v1_ (y2_ (mT (mCD 1 a1b (z7_ (z0_ 1) q0_)))) (q7_ (mC (.bl false))) mNx)))
theorem b9E{es:List D}(hn:es.length≤6)(d:D)(w2:W):∃w2',a4O [.dat (.tup es),.dat d,w2]=some (stop (a0v es.length d) (.bl false),[.dat (.tup es),.dat d,w2']):=by
 cases d with
 |tup xs=>
  by_cases hl:xs.length=es.length
  ·have t:(j1_ (y2_ (mT (mIs "tuple" (z0_ 1)))) (mT (z3_ (dEq true) (mCB v5_ (z2_ (z0_ 1) z5_)) (mCB v5_ (z2_ (z0_ 0) z5_))))) [.dat (.tup es),.dat (.tup xs),w2]=some (false,[.dat (.tup es),.dat (.tup xs),w2]):=by
    show some (!((xs.length:Int)==(es.length:Int)),_)=_;rw[hl];simp
   have lp:∃w2',loop (gN 2) (v1_ (y2_ (mT (mCD 3 a1s (z7_ (z0_ 2) (z7_ (a1i (mC (.int 1))) (z7_ (mC (.int 1)) q0_)))))) (q7_ (mC (.bl false))) mNx) xs [.dat (.tup es),.dat (.tup xs),w2]=some (stop (xs.all fun x=>inB x (-1) 1) (.bl false),[.dat (.tup es),.dat (.tup xs),w2']):=by
    obtain⟨e',h1,w',rfl⟩:=a7k (g:=gN 2) (b:=v1_ (y2_ (mT (mCD 3 a1s (z7_ (z0_ 2) (z7_ (a1i (mC (.int 1))) (z7_ (mC (.int 1)) q0_)))))) (q7_ (mC (.bl false))) mNx) (P:=fun e=>∃w,e=[.dat (.tup es),.dat (.tup xs),w]) (ok:=fun x=>inB x (-1) 1) (r:=.bl false) (ds:=xs) (env:=[.dat (.tup es),.dat (.tup xs),w2])
     (fun x _ e ⟨w,he⟩=>by
      subst he;refine⟨[.dat (.tup es),.dat (.tup xs),.dat x],[.dat (.tup es),.dat (.tup xs),.dat x],rfl,?_,_,rfl⟩;have c:(y2_ (mT (mCD 3 a1s (z7_ (z0_ 2) (z7_ (a1i (mC (.int 1))) (z7_ (mC (.int 1)) q0_)))))) [.dat (.tup es),.dat (.tup xs),.dat x]=some (!inB x (-1) 1,[.dat (.tup es),.dat (.tup xs),.dat x]):=
       a0W (g1_ (a0J (a2e (av:=[.d x,.d (.int (-1)),.d (.int 1)]) rfl rfl rfl (b9z x (-1) 1))))
      cases hb:inB x (-1) 1 with
      |true=>rw[hb]at c;rw[a0C c];rfl
      |false=>rw[hb]at c;rw[a0I c];rfl) ⟨_,rfl⟩
    exact⟨w',h1⟩
   obtain⟨w2',h1⟩:=lp;have fr:(j3_ (y6_ (z0_ 1)) (gN 2) (v1_ (y2_ (mT (mCD 3 a1s (z7_ (z0_ 2) (z7_ (a1i (mC (.int 1))) (z7_ (mC (.int 1)) q0_)))))) (q7_ (mC (.bl false))) mNx)) [.dat (.tup es),.dat (.tup xs),w2]=some (stop (xs.all fun x=>inB x (-1) 1) (.bl false),[.dat (.tup es),.dat (.tup xs),w2']):=(a3B (a3A rfl rfl)).trans h1
   refine⟨w2',?_⟩;unfold a4O;rw[x3_ (by rw[a0C t];rfl)]
   cases ha:xs.all (fun x=>inB x (-1) 1)with
   |false=>
    rw[ha]at fr;rw[j9_ (d:=.bl false) fr]
    simp[a0v,hl,ha,stop]
   |true=>
    rw[ha]at fr;rw[x3_ fr];have h2:xs=(xs.map unI).map .int:=b1H (Qv.mpr fun x hx=>(a8r (Qv.mp ha x hx)).1)
    have c:(y2_ (mT (mCD 1 a1b (z7_ (z0_ 1) q0_)))) [.dat (.tup es),.dat (.tup xs),w2']=some (!tt2 (unR (.tup xs)),[.dat (.tup es),.dat (.tup xs),w2']):=
     a0W (g1_ (a0J (a2e (av:=[.d (.tup xs)]) rfl rfl rfl (b1R (.tup xs) (xs.map unI) (by show some xs=_;rw[←h2]) (by rw[Qk];omega)))))
    cases hb:tt2 (unR (.tup xs))with
    |true=>rw[hb]at c;rw[a0C c];simp[a0v,hl,ha,hb,stop,mNx]
    |false=>rw[hb]at c;rw[a0I c];simp[a0v,hl,ha,hb,stop,q7_,mC]
  ·have t:(j1_ (y2_ (mT (mIs "tuple" (z0_ 1)))) (mT (z3_ (dEq true) (mCB v5_ (z2_ (z0_ 1) z5_)) (mCB v5_ (z2_ (z0_ 0) z5_))))) [.dat (.tup es),.dat (.tup xs),w2]=some (true,[.dat (.tup es),.dat (.tup xs),w2]):=by
    show some (!((xs.length:Int)==(es.length:Int)),_)=_;have:((xs.length:Int)==(es.length:Int))=false:=by rw[Qa];omega
    rw[this];rfl
   refine⟨w2,?_⟩;unfold a4O;rw[j9_ (d:=.bl false) (by rw[a0I t];rfl)]
   have:(xs.length==es.length)=false:=by simpa using hl
   simp[a0v,this,stop]
 |_=>exact⟨w2,rfl⟩
theorem b9F{es:List D}(hok:es.all (a0v es.length)=true):(flip es.length (es.map unR)).all (tt 0)=(List.range es.length).all fun j=>tt2 ((es.map unR).map fun r=>r.getD j 0):=by
 unfold flip;rw[List.all_map];have e:∀j∈List.range es.length,((tt 0)∘fun j=>(es.map unR).map fun r=>r.getD j 0) j=tt2 ((es.map unR).map fun r=>r.getD j 0):=fun j hj=>by
  apply b1T
  intro x hx;obtain⟨r,hr,rfl⟩:=Qo.mp hx;obtain⟨d,hd,rfl⟩:=Qo.mp hr;have h1:=Qv.mp hok d hd;rw[a4N,Qy]at h1;have h2:=b1U _ 0 (.inl rfl) h1.2
  by_cases hj':j<(unR d).length
  ·have:(unR d).getD j 0=(unR d)[j]:=by simp[hj']
   rw[this];exact h2 _ (Zg hj')
  ·have:(unR d).getD j 0=0:=by simp[Nat.le_of_not_lt hj']
   rw[this];rfl
 rw[Bool.eq_iff_iff,Qv,Qv];exact⟨fun h j hj=>(e j hj) ▸ h j hj,fun h j hj=>(e j hj).symm ▸ h j hj⟩
theorem b9G(es:List D):isT (.tup es)=((decide (1≤(es.length:Int))&&decide ((es.length:Int)≤6))&&(es.all (a0v es.length)&&(List.range es.length).all fun j=>tt2 ((es.map unR).map fun r=>r.getD j 0))):=by
 unfold isT isS;simp only[Bool.and_assoc]
 congr 1
 congr 1
 have hu:unT (.tup es)=es.map unR:=rfl
 rw[hu,Xm,Qk];cases hk:es.all (a0v es.length)with
 |true=>
  have h1:es.all (fun r=>isR r es.length)=true:=Qv.mpr fun d hd=>by
   have:=Qv.mp hk d hd;rw[a4N,Qy]at this;exact this.1
  have h2:(es.map unR).all (tt 0)=true:=Qv.mpr fun r hr=>by
   obtain⟨d,hd,rfl⟩:=Qo.mp hr;have:=Qv.mp hk d hd;rw[a4N,Qy]at this;exact this.2
  rw[h1,h2,b9F hk];rfl
 |false=>
  rw[Jk];cases h1:es.all (fun r=>isR r es.length)with
  |false=>rfl
  |true=>
   have h2:(es.map unR).all (tt 0)=false:=by
    cases h3:(es.map unR).all (tt 0)with
    |false=>rfl
    |true=>
     have:es.all (a0v es.length)=true:=Qv.mpr fun d hd=>by
      rw[a4N,Qy];exact⟨Qv.mp h1 d hd,Qv.mp h3 (unR d) (Qo.mpr ⟨d,hd,rfl⟩)⟩
     rw[hk]at this;cases this
   rw[h2];rfl
theorem b9H(d:D):a3Q [.dat d]=some (.d (.bl (isT d)),[.dat d]):=by
 cases d with
 |tup es=>
  have t:(j1_ (y2_ (mT (mIs "tuple" (z0_ 0)))) (y2_ (mT (a0y dLe dLe (mC (.int 1)) (mCB v5_ (z2_ (z0_ 0) z5_)) (mC (.int 6)))))) [.dat (.tup es),.nil,.nil]=some (!(decide (1≤(es.length:Int))&&decide ((es.length:Int)≤6)),[.dat (.tup es),.nil,.nil]):=by
   have c:=b1Q (e:=[.dat (.tup es),.nil,.nil]) (ma:=mC (.int 1)) (mb:=mCB v5_ (z2_ (z0_ 0) z5_)) (mc:=mC (.int 6)) (a:=1) (i:=es.length) (b:=6) rfl rfl rfl
   have u:=a0W (g1_ c)
   unfold j1_;show(some (false,([.dat (.tup es),.nil,.nil]:Env'))).bind _=_;exact u
  rw[b9G];cases hb:(decide (1≤(es.length:Int))&&decide ((es.length:Int)≤6))with
  |false=>
   rw[hb]at t;refine(w3_ (d:=.bl false) (env:=[.dat (.tup es),.nil,.nil]) ?_).trans rfl;show a2Y [.dat (.tup es),.nil,.nil]=_;unfold a2Y;rw[j9_ (d:=.bl false) (by rw[a0I t];rfl)]
  |true=>
   rw[hb]at t;have hn:1≤es.length/\es.length≤6:=by
    rw[Qy,Zf,Zf]at hb
    omega
   obtain⟨e',h1,w1,w2,hw,rfl⟩:=a7k (g:=gN 1) (b:=a4O) (P:=fun e=>∃w1 w2,Pl w1/\e=[.dat (.tup es),w1,w2]) (ok:=a0v es.length) (r:=.bl false) (ds:=es) (env:=[.dat (.tup es),.nil,.nil])
    (fun x _ e ⟨w1,w2,_,he⟩=>by
     subst he;obtain⟨w2',h⟩:=b9E hn.2 x w2;exact⟨_,_,rfl,h,_,_,.inr ⟨_,rfl⟩,rfl⟩) ⟨_,_,.inl rfl,rfl⟩
   have fr:(j3_ (y6_ (z0_ 0)) (gN 1) a4O) [.dat (.tup es),.nil,.nil]=some (stop (es.all (a0v es.length)) (.bl false),[.dat (.tup es),w1,w2]):=(a3B (a3A rfl rfl)).trans h1
   cases hk:es.all (a0v es.length)with
   |false=>
    rw[hk]at fr;refine(w3_ (d:=.bl false) (env:=[.dat (.tup es),w1,w2]) ?_).trans rfl;show a2Y [.dat (.tup es),.nil,.nil]=_;unfold a2Y;rw[x3_ (by rw[a0C t];rfl),j9_ (d:=.bl false) fr]
   |true=>
    rw[hk]at fr;have hlen:∀d∈es,∃xs,d=.tup ((unR d).map .int)/\(unR d).length=es.length/\xs=unR d:=fun d hd=>by
     have:=Qv.mp hk d hd;rw[a4N,Qy]at this;obtain⟨a1,a2⟩:=a5N this.1;exact⟨_,a1,by omega,rfl⟩
    have inner:∀j,j<es.length->(mCD 1 a1b (z7_ (mF (v6_ (y6_ (z0_ 0)) [false,false,false,true] 1 (gN 4) v9_ (z3_ dIx (z0_ 4) (z0_ 3)))) q0_)) [.dat (.tup es),w1,.nil,.dat (.int (j:Int))]=some (.bl (tt2 ((es.map unR).map fun r=>r.getD j 0)),[.dat (.tup es),w1,.nil,.dat (.int (j:Int))]):=fun j hj=>by
     obtain⟨e',g1,w',rfl⟩:=a2Z (g:=gN 4) (m:=z3_ dIx (z0_ 4) (z0_ 3)) (P:=fun e=>∃w,e=[.nil,.nil,.nil,.dat (.int (j:Int)),w]) (q:=id) (f:=fun d=>.int ((unR d).getD j 0)) (l:=es) (env:=[.nil,.nil,.nil,.dat (.int (j:Int)),.nil])
      (fun d hd e ⟨w,he⟩=>by
       subst he;obtain⟨_,a1,a2,_⟩:=hlen d hd;refine⟨[.nil,.nil,.nil,.dat (.int (j:Int)),.dat d],[.nil,.nil,.nil,.dat (.int (j:Int)),.dat d],rfl,v3_ rfl rfl ?_,_,rfl⟩;rw[a1,b1J (unR d)|>fun h=>(show unR (.tup ((unR d).map .int))=unR d from h)]
       exact a1y (by simp[Zx (show j<(unR d).length by omega)])) ⟨.nil,rfl⟩
     rw[Va]at g1;have c:(v6_ (y6_ (z0_ 0)) [false,false,false,true] 1 (gN 4) v9_ (z3_ dIx (z0_ 4) (z0_ 3))) [.dat (.tup es),w1,.nil,.dat (.int (j:Int))]=some (((es.map unR).map fun r=>r.getD j 0).map .int,[.dat (.tup es),w1,.nil,.dat (.int (j:Int))]):=by
      rw[Zc,Zc];exact a2d (e2:=[.nil,.nil,.nil,.dat (.int (j:Int)),w']) (a3A rfl rfl) (by omega) g1 rfl
     exact a0J (a2e (av:=[.d (.lst (((es.map unR).map fun r=>r.getD j 0).map .int))]) (a1E (g0_ c) rfl) rfl rfl (b1R _ _ rfl (by simp;omega)))
    obtain⟨e',g1,w',rfl⟩:=a2Z (g:=gN 3) (m:=(mCD 1 a1b (z7_ (mF (v6_ (y6_ (z0_ 0)) [false,false,false,true] 1 (gN 4) v9_ (z3_ dIx (z0_ 4) (z0_ 3)))) q0_))) (P:=fun e=>∃w,e=[.dat (.tup es),w1,.nil,w]) (q:=fun(j:Nat)=>D.int j) (f:=fun j=>.bl (tt2 ((es.map unR).map fun r=>r.getD j 0))) (l:=List.range es.length) (env:=[.dat (.tup es),w1,.nil,.nil])
     (fun j hj e ⟨w,he⟩=>by
      subst he;exact⟨_,_,rfl,inner j (Yy.mp hj),_,rfl⟩) ⟨.nil,rfl⟩
    have r1:(j2_ (z2_ (mCB v5_ (z2_ (z0_ 0) z5_)) z5_)) [.dat (.tup es),w1,w2]=some (a0d 0 es.length,[.dat (.tup es),w1,w2]):=by
     have:=a4t (ms:=z2_ (mCB v5_ (z2_ (z0_ 0) z5_)) z5_) (env:=[.dat (.tup es),w1,w2]) (e1:=[.dat (.tup es),w1,w2]) (j:=es.length) rfl (by omega) (by omega)
     rwa [Yc]at this
    have c:(v6_ (j2_ (z2_ (mCB v5_ (z2_ (z0_ 0) z5_)) z5_)) [true,true,false] 1 (gN 3) v9_ (mCD 1 a1b (z7_ (mF (v6_ (y6_ (z0_ 0)) [false,false,false,true] 1 (gN 4) v9_ (z3_ dIx (z0_ 4) (z0_ 3)))) q0_))) [.dat (.tup es),w1,w2]=some ((List.range es.length).map fun j=>.bl (tt2 ((es.map unR).map fun r=>r.getD j 0)),[.dat (.tup es),w1,w2]):=by
     refine a2d (e2:=[.dat (.tup es),w1,.nil,w']) r1 (by rw[a2t];simp;omega) ?_ ?_
     ·rw[a2t];exact g1
     ·rcases hw with rfl|⟨dd,rfl⟩<;>rfl
    refine(w3_ (d:=.bl ((List.range es.length).all fun j=>tt2 ((es.map unR).map fun r=>r.getD j 0))) (env:=[.dat (.tup es),w1,w2]) ?_).trans (by simp;rfl)
    show a2Y [.dat (.tup es),.nil,.nil]=_;unfold a2Y;rw[x3_ (by rw[a0C t];rfl),x3_ fr]
    refine a0h (a0q (k2_ (g0_ c) rfl) ?_);show(a0p _).map _=_;rw[a2O];rfl
 |_=>rfl
theorem b9I{i j k:Int}(h:a5c i j=true)(e:i^j.toNat=k):a1Q (.int i) (.int j)=some (.int k):=by
 show(if a5c i j=true then some (D.int (i^j.toNat))else none)=_
 rw[Qn h,e]
theorem b1V:a1Q (.int 10) (.int 18)=some (.int 1000000000000000000):=b9I (by decide+kernel) (by decide+kernel)
theorem a5Q{a m:Int}{b:Bool}(ha:0≤a)(h1:1≤m)(h2:m<1073741824):∃v a',x4_ [.par [.int a,.bl b],.dat (.int m)]=some (.d (.int v),[.par [.int a',.bl b],.dat (.int m)])/\0≤v/\v<m/\0≤a':=by
 have dm:∀x:Int,j0_ (.int x) (.int m)=some (.int (x%m)):=fun x=>by
  show(if decide (0<m)=true then _ else none)=_
  rw[Qn (by simp;omega)]
 have dd:∀x:Int,a4i (.int x) (.int m)=some (.int (x/m)):=fun x=>by
  show(if a5b x m=true then _ else none)=_
  rw[Qn (by unfold a5b;simp;omega)]
 cases b with
 |true=>
  refine⟨a%m,a/m,?_,Ux _ (by omega),Ue _ (by omega),Int.ediv_nonneg ha (by omega)⟩
  refine(w3_ (d:=.int (a%m)) (env:=[.par [.int (a/m),.bl true],.dat (.int m),.nil,.dat (.int (a%m))]) ?_).trans rfl;show a4I [.par [.int a,.bl true],.dat (.int m),.nil,.nil]=_;unfold a4I;have t:(mT (y7_ 0 (mC (.int 1)))) [.par [.int a,.bl true],.dat (.int m),.nil,.nil]=some (true,[.par [.int a,.bl true],.dat (.int m),.nil,.nil]):=rfl;have s1:(v2_ 3 (z3_ j0_ (y7_ 0 (mC (.int 0))) (z0_ 1))) [.par [.int a,.bl true],.dat (.int m),.nil,.nil]=some (.nx,[.par [.int a,.bl true],.dat (.int m),.nil,.dat (.int (a%m))]):=a0V (e1:=[.par [.int a,.bl true],.dat (.int m),.nil,.nil]) (v3_ rfl rfl (dm a));have s2:(u2_ (z3_ a4i (y7_ 0 (mC (.int 0))) (z0_ 1)) (gS 0 (mC (.int 0)))) [.par [.int a,.bl true],.dat (.int m),.nil,.dat (.int (a%m))]=some (.nx,[.par [.int (a/m),.bl true],.dat (.int m),.nil,.dat (.int (a%m))]):=by
   unfold u2_;rw[v3_ (c:=.int (a/m)) rfl rfl (dd a)];rfl
  rw[j9_ (d:=.int (a%m)) (by rw[a0I t,x3_ s1,x3_ s2];rfl)]
 |false=>
  have e1:∀x:Int,j5_ (.int x) (.int 48271)=some (.int (x * 48271)):=fun x=>a3S (b9x (by decide) (by decide))
  have md:∀(x k:Int),0<k->j0_ (.int x) (.int k)=some (.int (x%k)):=fun x k hk=>by
   show(if decide (0<k)=true then _ else none)=_
   rw[Qn (by simp;omega)]
  let p:Int:=(a * 48271+29)%2147483647
  have hp:0≤p/\p<2147483647:=⟨Ux _ (by decide),Ue _ (by decide)⟩
  let q:Int:=(p * p+39373 * p+7)%2147483629
  have hq:0≤q/\q<2147483629:=⟨Ux _ (by decide),Ue _ (by decide)⟩
  let r:Int:=(q * q+16807 * q)%2147483587
  have hr:0≤r:=Ux _ (by decide)
  refine⟨r/8%m,p,?_,Ux _ (by omega),Ue _ (by omega),hp.1⟩
  refine(w3_ (d:=.int (r/8%m)) (env:=[.par [.int p,.bl false],.dat (.int m),.dat (.int r),.nil]) ?_).trans rfl;show a4I [.par [.int a,.bl false],.dat (.int m),.nil,.nil]=_;unfold a4I;have t:(mT (y7_ 0 (mC (.int 1)))) [.par [.int a,.bl false],.dat (.int m),.nil,.nil]=some (false,[.par [.int a,.bl false],.dat (.int m),.nil,.nil]):=rfl;have s1:(u2_ (z3_ j0_ (z3_ y4_ (z3_ j5_ (y7_ 0 (mC (.int 0))) (mC (.int 48271))) (mC (.int 29))) (mC (.int 2147483647))) (gS 0 (mC (.int 0)))) [.par [.int a,.bl false],.dat (.int m),.nil,.nil]=some (.nx,[.par [.int p,.bl false],.dat (.int m),.nil,.nil]):=by
   unfold u2_;rw[v3_ (c:=.int p) (v3_ (c:=.int (a * 48271+29)) (v3_ rfl rfl (e1 a)) rfl rfl) rfl (md _ _ (by decide))];rfl
  have s2:(v2_ 2 (z3_ j0_ (z3_ y4_ (z3_ y4_ (z3_ j5_ (y7_ 0 (mC (.int 0))) (y7_ 0 (mC (.int 0)))) (z3_ j5_ (mC (.int 39373)) (y7_ 0 (mC (.int 0))))) (mC (.int 7))) (mC (.int 2147483629)))) [.par [.int p,.bl false],.dat (.int m),.nil,.nil]=some (.nx,[.par [.int p,.bl false],.dat (.int m),.dat (.int q),.nil]):=
   a0V (e1:=[.par [.int p,.bl false],.dat (.int m),.nil,.nil]) (v3_ (c:=.int q) (v3_ (c:=.int (p * p+39373 * p+7)) (v3_ (c:=.int (p * p+39373 * p)) (v3_ rfl rfl (a3S (i:=p) (j:=p) (a4M (by omega) (by omega)))) (v3_ rfl rfl (a3S (i:=39373) (j:=p) (a4M (by decide) (by decide)))) rfl) rfl rfl) rfl (md _ _ (by decide)))
  have s3:(v2_ 2 (z3_ j0_ (z3_ y4_ (z3_ j5_ (z0_ 2) (z0_ 2)) (z3_ j5_ (mC (.int 16807)) (z0_ 2))) (mC (.int 2147483587)))) [.par [.int p,.bl false],.dat (.int m),.dat (.int q),.nil]=some (.nx,[.par [.int p,.bl false],.dat (.int m),.dat (.int r),.nil]):=
   a0V (e1:=[.par [.int p,.bl false],.dat (.int m),.dat (.int q),.nil]) (v3_ (c:=.int r) (v3_ (c:=.int (q * q+16807 * q)) (v3_ rfl rfl (a3S (i:=q) (j:=q) (a4M (by omega) (by omega)))) (v3_ rfl rfl (a3S (i:=16807) (j:=q) (a4M (by decide) (by decide)))) rfl) rfl (md _ _ (by decide)))
  rw[x3_ (by rw[a0C t];rfl),x3_ s1,x3_ s2,x3_ s3]
  exact a0h (v3_ (c:=.int (r/8%m)) (v3_ (c:=.int (r/8)) rfl rfl rfl) rfl (dm _))
theorem b9J(ns:List Int)(k:Nat)(hk:k<1000):∃c,a3N [.dat (.lst (ns.map .int)),.dat (.int k)]=some (.d (.int c),[.dat (.lst (ns.map .int)),.dat (.int k)]):=by
 have t:(mT (z3_ dLt (z0_ 1) (mCB v5_ (z2_ (z0_ 0) z5_)))) [.dat (.lst (ns.map .int)),.dat (.int k)]=some (decide ((k:Int)<(ns.length:Int)),[.dat (.lst (ns.map .int)),.dat (.int k)]):=by
  show some (decide ((k:Int)<((ns.map D.int).length:Nat)),_)=_;rw[Qk]
 by_cases h:k<ns.length
 ·have hd:decide ((k:Int)<(ns.length:Int))=true:=by simp;omega
  rw[hd]at t;refine⟨ns[k],(w3_ (d:=.int ns[k]) (env:=[.dat (.lst (ns.map .int)),.dat (.int k)]) ?_).trans rfl⟩;show a4G [.dat (.lst (ns.map .int)),.dat (.int k)]=_;unfold a4G;rw[j9_ (d:=.int ns[k]) (by
   rw[a0I t];exact a0h (v3_ rfl rfl (show atI (ns.map D.int) (k:Int)=_ from a1y (by simp[h]))))]
 ·have hd:decide ((k:Int)<(ns.length:Int))=false:=by simp;omega
  rw[hd]at t;refine⟨0,(w3_ (d:=.int 0) (env:=[.dat (.lst (ns.map .int)),.dat (.int k)]) ?_).trans rfl⟩;show a4G [.dat (.lst (ns.map .int)),.dat (.int k)]=_;unfold a4G;rw[x3_ (by rw[a0C t];rfl)];rfl
theorem b9K(ns:List Int)(k:Nat)(hk:k<1000):∃a b,0≤a/\a3O [.dat (.lst (ns.map .int)),.dat (.int k)]=some (.l [.int a,.bl b],[.dat (.lst (ns.map .int)),.dat (.int k)]):=by
 obtain⟨c,hc⟩:=b9J ns k hk;have s1:(v2_ 2 (mCD 2 a3N (z7_ (z0_ 0) (z7_ (z0_ 1) q0_)))) [.dat (.lst (ns.map .int)),.dat (.int k),.nil]=some (.nx,[.dat (.lst (ns.map .int)),.dat (.int k),.dat (.int c)]):=
  a0V (e1:=[.dat (.lst (ns.map .int)),.dat (.int k),.nil]) (a0J (a2e (av:=[.d (.lst (ns.map .int)),.d (.int k)]) rfl rfl rfl hc))
 have t:(mT (z3_ dGe (z0_ 2) (z3_ a1Q (mC (.int 10)) (mC (.int 18))))) [.dat (.lst (ns.map .int)),.dat (.int k),.dat (.int c)]=some (decide (1000000000000000000≤c),[.dat (.lst (ns.map .int)),.dat (.int k),.dat (.int c)]):=by
  refine g1_ (v3_ (b:=.int 1000000000000000000) rfl ?_ rfl);exact v3_ rfl rfl b1V
 by_cases h:1000000000000000000≤c
 ·rw[Yj h]at t
  refine⟨c-1000000000000000000,true,by omega,(b0C (d:=[.int (c-1000000000000000000),.bl true]) (env:=[.dat (.lst (ns.map .int)),.dat (.int k),.dat (.int c)]) ?_).trans rfl⟩
  show a4H [.dat (.lst (ns.map .int)),.dat (.int k),.nil]=_;unfold a4H;rw[x3_ s1];have r:(a2E (k4_ (z2_ (z3_ a0S (z0_ 2) (z3_ a1Q (mC (.int 10)) (mC (.int 18)))) (z2_ (mC (.bl true)) z5_)))) [.dat (.lst (ns.map .int)),.dat (.int k),.dat (.int c)]=some (.retL [.int (c-1000000000000000000),.bl true],[.dat (.lst (ns.map .int)),.dat (.int k),.dat (.int c)]):=by
   have b:=v3_ (f:=a0S) (ma:=z0_ 2) (mb:=z3_ a1Q (mC (.int 10)) (mC (.int 18))) (env:=[.dat (.lst (ns.map .int)),.dat (.int k),.dat (.int c)]) (b:=.int 1000000000000000000) (c:=.int (c-1000000000000000000)) rfl (v3_ rfl rfl b1V) rfl
   refine b6o ?_
   unfold k4_;rw[k2_ b (k2_ rfl rfl)];rfl
  unfold z9_;rw[a0I t,r];rfl
 ·rw[Zk h]at t
  refine⟨c%2147483647,false,Ux _ (by decide),(b0C (d:=[.int (c%2147483647),.bl false]) (env:=[.dat (.lst (ns.map .int)),.dat (.int k),.dat (.int c)]) ?_).trans rfl⟩
  show a4H [.dat (.lst (ns.map .int)),.dat (.int k),.nil]=_;unfold a4H;rw[x3_ s1,x3_ (by rw[a0C t];rfl)];rfl
def bits:Nat->OI
 |0=>[[]]
 |n+1=>(bits n).map (fun l=>0::l)++(bits n).map (fun l=>1::l)
def j6_(h r:List Int):List Int:=List.zipWith (· + ·) h r
def b1W(h:List Int)(d:D):Bool:=isR d h.length&&(tt 0 (unR d)&&(j6_ h (unR d)).all fun x=>x==0||x==1)
def chk(h:List Int):Bool:=match a2q [.dat (dR h)]with
 |some (.l ds,_)=>ds.all (b1W h)&&((h.all fun x=>x==1)||(decide (1≤ds.length)&&decide (ds.length≤1000)))
 |_=>false
theorem b9L:(bits 1).all chk=true:=by decide+kernel
theorem b9M:(bits 2).all chk=true:=by decide+kernel
theorem b9N:(bits 3).all chk=true:=by decide+kernel
theorem b9O:(bits 4).all chk=true:=by decide+kernel
theorem b9P:(bits 5).all chk=true:=by decide+kernel
theorem b9Q:(bits 6).all chk=true:=by decide+kernel
structure HB(h:List Int)(n:Nat):Prop where
 len:h.length=n
 bit:∀x∈h,x=0∨x=1
theorem HB.mem:∀{n:Nat}{h:List Int},HB h n->h∈bits n
 |0,h,H=>by
  have:=H.len;cases h with
  |nil=>simp[bits]
  |cons _ _=>simp at this
 |n+1,h,H=>by
  cases h with
  |nil=>have:=H.len;simp at this
  |cons x l=>
   have hl:HB l n:=⟨by have:=H.len;simpa using this,fun y hy=>H.bit y (by simp[hy])⟩
   have:=hl.mem;unfold bits;rw[Yx,Qo,Qo]
   rcases H.bit x (by simp)with rfl|rfl
   ·exact .inl ⟨l,this,rfl⟩
   ·exact .inr ⟨l,this,rfl⟩
theorem b9R{n:Nat}{h:List Int}(h1:1≤n)(h6:n≤6)(H:HB h n):chk h=true:=by
 have hm:=H.mem
 match n,h1,h6 with
 |1,_,_=>exact Qv.mp b9L h hm
 |2,_,_=>exact Qv.mp b9M h hm
 |3,_,_=>exact Qv.mp b9N h hm
 |4,_,_=>exact Qv.mp b9O h hm
 |5,_,_=>exact Qv.mp b9P h hm
 |6,_,_=>exact Qv.mp b9Q h hm
structure LineOk(h r:List Int):Prop where
 len:r.length=h.length
 tt:tt 0 r=true
 bit:∀x∈j6_ h r,x=0∨x=1
theorem b9S{n:Nat}{h:List Int}(h1:1≤n)(h6:n≤6)(H:HB h n)(hs:∃x∈h,x≠1):∃(rows:OI) (ws':List W),a2q [.dat (dR h)]=some (.l (rows.map dR),ws')/\1≤rows.length/\rows.length≤1000/\∀r∈rows,LineOk h r:=by
 have hc:=b9R h1 h6 H
 unfold chk at hc;split at hc
 ·rename_i ds ws' e
  rw[Qy]at hc;have hl:1≤ds.length/\ds.length≤1000:=by
   have h2:=hc.2
   rw[Xh]at h2
   rcases h2 with h2|h2
   ·obtain⟨x,hx,hne⟩:=hs
    have:=Qv.mp h2 x hx
    simp at this
    exact absurd this hne
   ·rw[Qy,Zf,Zf]at h2
    exact h2
  have ok:∀d∈ds,d=dR (unR d)/\LineOk h (unR d):=fun d hd=>by
   have:=Qv.mp hc.1 d hd;unfold b1W at this;rw[Qy,Qy]at this;obtain⟨a1,a2⟩:=a5N this.1;exact⟨a1,by omega,this.2.1,fun x hx=>by simpa using Qv.mp this.2.2 x hx⟩
  refine⟨ds.map unR,ws',?_,by rw[Qk];exact hl.1,by rw[Qk];exact hl.2,fun r hr=>?_⟩
  ·rw[e,Zc]
   have:ds.map (dR∘unR)=ds:=by
    conv=>rhs;rw[←Va ds]
    exact Yp fun d hd=>(ok d hd).1.symm
   rw[this]
  ·obtain⟨d,hd,rfl⟩:=Qo.mp hr
   exact(ok d hd).2
 ·cases hc
theorem b9T(l:List Int):∀s,tt s l=true->s+l.sum=1:=by
 induction l with
 |nil=>intro s h;simpa [tt]using h
 |cons x l ih=>
  intro s h;simp only[tt,Qy]at h;have:=ih (s+x) h.2;simp only[Ym]
  omega
theorem b1X{h r:List Int}(e:r.length=h.length):(j6_ h r).length=h.length:=by simp[j6_,e]
theorem b1Y:∀{h r:List Int},r.length=h.length->(j6_ h r).sum=h.sum+r.sum
 |[],[],_=>rfl
 |x::h,y::r,e=>by
  have:=b1Y (h:=h) (r:=r) (by simpa using e)
  simp only[j6_,List.zipWith_cons_cons,Ym]at this ⊢
  omega
 |[],_::_,e=>by simp at e
 |_::_,[],e=>by simp at e
def run:Int->List Int->Option Int
 |s,[]=>some s
 |s,x::l=>if s+x=0∨s+x=1 then run (s+x) l else none
theorem b9U(l:List Int):∀s,tt s l=(run s l==some 1):=by
 induction l with
 |nil=>intro s;rfl
 |cons x l ih=>
  intro s;simp only[tt,run]
  by_cases h:s+x=0∨s+x=1
  ·rw[Qn h,←ih]
   have:(s+x==0||s+x==1)=true:=by simpa using h
   rw[this,Ze]
  ·rw[Qr h]
   have:(s+x==0||s+x==1)=false:=by simpa using h
   rw[this];rfl
theorem b9V(l:List Int)(x:Int):∀s t,run s l=some t->(t+x=0∨t+x=1)->run s (l++[x])=some (t+x):=by
 induction l with
 |nil=>intro s t h hx;cases h;simp[run,hx]
 |cons y l ih=>
  intro s t h hx;simp only[run,Xp]at h ⊢;split at h
  ·rename_i hy
   rw[Qn hy];exact ih (s+y) t h hx
  ·cases h
theorem b1Z:∀{h:List Int},(∀x∈h,x=0∨x=1)->h.sum≤h.length/\(h.sum=h.length->∀x∈h,x=1)
 |[],_=>⟨by simp,fun _ x hx=>by cases hx⟩
 |y::h,H=>by
  obtain⟨h1,h2⟩:=b1Z (h:=h) fun x hx=>H x (by simp[hx])
  have hy:=H y (by simp)
  simp only[Ym,Zq];refine⟨by omega,fun e x hx=>?_⟩
  rcases Qm.mp hx with rfl|hx
  ·omega
  ·exact h2 (by omega) x hx
theorem b2a{g:OZ}{b:Mo Fl}:∀{ds:List D}{P:Nat->Env'->Prop}{env:Env'},(∀i d e,ds[i]? =some d->P i e->∃e1 e2,g d e=some e1/\b e1=some (.nx,e2)/\P (i+1) e2)->P 0 env->∃env',loop g b ds env=some (.nx,env')/\P ds.length env'
 |[],P,env,_,p=>⟨env,rfl,p⟩
 |d::ds,P,env,h,p=>by
  obtain⟨e1,e2,h1,h2,h3⟩:=h 0 d env rfl p;obtain⟨e3,h4,h5⟩:=b2a (ds:=ds) (P:=fun i e=>P (i+1) e) (fun i x e hi q=>h (i+1) x e (by simpa using hi) q) h3
  refine⟨e3,?_,h5⟩;unfold loop;rw[h1];simp only[Qx];rw[h2];exact h4
abbrev a8s:Mo Fl:=(z9_ (v2_ 7 (mF (a1C 1 a2q (z7_ (z0_ 4) q0_)))) (z9_ (v2_ 8 (z3_ dIx (z0_ 7) (mCD 2 x4_ (y8_ 0 (z7_ (mCB v5_ (z2_ (z0_ 7) z5_)) q0_))))) (z9_ (v2_ 4 (mCB u6_ (z2_ (mF (v6_ (a1o (z2_ (z0_ 4) (z2_ (z0_ 8) z5_))) [false,false,false,false,false,false,false,false,false] 2 (gT 2 (gCn (gN 9) (gCn (gN 10) gNl))) v9_ (z3_ y4_ (z0_ 9) (z0_ 10)))) z5_))) (v2_ 5 (z3_ y4_ (z0_ 5) (x7_ (z2_ (z0_ 8) z5_)))))))
structure TbI(b:Bool)(l m:Int)(n i:Nat)(e:Env')(a:Int)(h:List Int)(rows:OI)(w6 w7 w8:W):Prop where
 eq:e=[.par [.int a,.bl b],.dat (.int l),.dat (.int m),.dat (.int n),.dat (dR h),.dat (dT rows),w6,w7,w8]
 a0:0≤a
 hb:HB h n
 len:rows.length=i
 row:∀r∈rows,r.length=n/\tt 0 r=true
 sum:h.sum=i
 col:∀j,j<n->run 0 (rows.map fun r=>r.getD j 0)=some (h.getD j 0)
theorem b2b{h r:List Int}{j:Nat}(e:r.length=h.length)(hj:j<h.length):(j6_ h r).getD j 0=h.getD j 0+r.getD j 0:=by
 have hj2:j<r.length:=by omega
 simp[j6_,Yi,Zx hj,Zx hj2]
theorem b9W{h r:List Int}:a1n (h.map D.int) (r.map D.int)=(h.zip r).map fun p=>.tup [.int p.1,.int p.2]:=by
 unfold a1n;rw[List.zip_map,Zc];rfl
theorem b9X{b:Bool}{l m:Int}{n i:Nat}{e:Env'}{a:Int}{h:List Int}{rows:OI}{w6 w7 w8:W}(h1:1≤n)(h6:n≤6)(hi:i<n)(I:TbI b l m n i e a h rows w6 w7 w8):
  ∃e2 a' h' rows' x6 x7 x8,a8s e=some (.nx,e2)/\TbI b l m n (i+1) e2 a' h' rows' x6 x7 x8:=by
 obtain⟨rfl,a0,hb,hlen,hrow,hsum,hcol⟩:=I;have hs:∃x∈h,x≠1:=by
  refine Jc fun hn=>?_
  have hall:∀x∈h,x=1:=fun x hx=>Jc fun z=>hn ⟨x,hx,z⟩
  have:h.sum=h.length:=by
   clear hcol hsum hn hb
   induction h with
   |nil=>rfl
   |cons y h ih=>
    have h1:=hall y (by simp)
    have:=ih fun x hx=>hall x (by simp[hx])
    simp only[Ym,Zq]
    omega
  have:=hb.len
  omega
 obtain⟨lines,ws',el,l1,l2,lok⟩:=b9S h1 h6 hb hs;obtain⟨v,a',et,v0,v1,a0'⟩:=a5Q (a:=a) (m:=(lines.length:Int)) (b:=b) a0 (by omega) (by omega)
 have hv:v.toNat<lines.length:=by omega
 have hvv:((v.toNat:Nat):Int)=v:=by omega
 generalize hr:lines[v.toNat]=r;have rok:LineOk h r:=lok r (by rw[←hr];exact Zg hv)
 have rl:r.length=n:=by rw[rok.len,hb.len]
 have hnl:h.length=n:=hb.len
 refine⟨[.par [.int a',.bl b],.dat (.int l),.dat (.int m),.dat (.int n),.dat (dR (j6_ h r)),.dat (dT (rows++[r])),w6,.dat (.lst (lines.map dR)),.dat (dR r)],a',j6_ h r,rows++[r],w6,.dat (.lst (lines.map dR)),.dat (dR r),?_,rfl,a0',⟨by rw[b1X rok.len];exact hnl,rok.bit⟩,by simp[hlen],?_,?_,?_⟩
 ·have s1:(v2_ 7 (mF (a1C 1 a2q (z7_ (z0_ 4) q0_)))) [.par [.int a,.bl b],.dat (.int l),.dat (.int m),.dat (.int n),.dat (dR h),.dat (dT rows),w6,w7,w8]=some (.nx,[.par [.int a,.bl b],.dat (.int l),.dat (.int m),.dat (.int n),.dat (dR h),.dat (dT rows),w6,.dat (.lst (lines.map dR)),w8]):=
   a0V (e1:=[.par [.int a,.bl b],.dat (.int l),.dat (.int m),.dat (.int n),.dat (dR h),.dat (dT rows),w6,w7,w8]) (g0_ (b0E (a2e (av:=[.d (dR h)]) rfl rfl rfl el)))
  have tk:(mCD 2 x4_ (y8_ 0 (z7_ (mCB v5_ (z2_ (z0_ 7) z5_)) q0_))) [.par [.int a,.bl b],.dat (.int l),.dat (.int m),.dat (.int n),.dat (dR h),.dat (dT rows),w6,.dat (.lst (lines.map dR)),w8]=some (.int v,[.par [.int a',.bl b],.dat (.int l),.dat (.int m),.dat (.int n),.dat (dR h),.dat (dT rows),w6,.dat (.lst (lines.map dR)),w8]):=by
   refine a0J ((a3C (e1:=[.par [.int a,.bl b],.dat (.int l),.dat (.int m),.dat (.int n),.dat (dR h),.dat (dT rows),w6,.dat (.lst (lines.map dR)),w8]) (w:=.par [.int a,.bl b]) (av:=[.sl 0,.d (.int (lines.length:Int))]) (i:=0) (c:=[.int a,.bl b]) (c':=[.int a',.bl b]) ?_ rfl rfl rfl rfl et rfl).trans rfl);show some ([Ar.sl 0,Ar.d (.int ((lines.map dR).length:Nat))],_)=_;rw[Qk]
  have s2:(v2_ 8 (z3_ dIx (z0_ 7) (mCD 2 x4_ (y8_ 0 (z7_ (mCB v5_ (z2_ (z0_ 7) z5_)) q0_))))) [.par [.int a,.bl b],.dat (.int l),.dat (.int m),.dat (.int n),.dat (dR h),.dat (dT rows),w6,.dat (.lst (lines.map dR)),w8]=some (.nx,[.par [.int a',.bl b],.dat (.int l),.dat (.int m),.dat (.int n),.dat (dR h),.dat (dT rows),w6,.dat (.lst (lines.map dR)),.dat (dR r)]):=by
   refine a0V (e1:=[.par [.int a',.bl b],.dat (.int l),.dat (.int m),.dat (.int n),.dat (dR h),.dat (dT rows),w6,.dat (.lst (lines.map dR)),w8]) (v3_ rfl tk ?_);rw[←hvv];exact a1y (xs:=lines.map dR) (by rw[Zi,Zx hv,hr];rfl)
  obtain⟨e',g1,wx,wy,rfl⟩:=a2Z (g:=gT 2 (gCn (gN 9) (gCn (gN 10) gNl))) (m:=z3_ y4_ (z0_ 9) (z0_ 10)) (P:=fun e=>∃x y,e=[.nil,.nil,.nil,.nil,.nil,.nil,.nil,.nil,.nil,x,y]) (q:=fun(p:Int×Int)=>D.tup [.int p.1,.int p.2]) (f:=fun p=>.int (p.1+p.2)) (l:=h.zip r) (env:=[.nil,.nil,.nil,.nil,.nil,.nil,.nil,.nil,.nil,.nil,.nil])
   (fun p _ e ⟨x,y,he⟩=>by
    subst he;exact⟨[.nil,.nil,.nil,.nil,.nil,.nil,.nil,.nil,.nil,.dat (.int p.1),.dat (.int p.2)],[.nil,.nil,.nil,.nil,.nil,.nil,.nil,.nil,.nil,.dat (.int p.1),.dat (.int p.2)],rfl,rfl,_,_,rfl⟩) ⟨_,_,rfl⟩
  have zs:(a1o (z2_ (z0_ 4) (z2_ (z0_ 8) z5_))) [.par [.int a',.bl b],.dat (.int l),.dat (.int m),.dat (.int n),.dat (dR h),.dat (dT rows),w6,.dat (.lst (lines.map dR)),.dat (dR r)]=some ((h.zip r).map fun p=>.tup [.int p.1,.int p.2],[.par [.int a',.bl b],.dat (.int l),.dat (.int m),.dat (.int n),.dat (dR h),.dat (dT rows),w6,.dat (.lst (lines.map dR)),.dat (dR r)]):=by
   show some (a1n (h.map D.int) (r.map D.int),_)=_;rw[b9W]
  have ez:(h.zip r).map (fun p=>D.int (p.1+p.2))=(j6_ h r).map D.int:=by
   unfold j6_;rw[List.map_zipWith,List.zip_eq_zipWith,List.map_zipWith]
  have c:(v6_ (a1o (z2_ (z0_ 4) (z2_ (z0_ 8) z5_))) [false,false,false,false,false,false,false,false,false] 2 (gT 2 (gCn (gN 9) (gCn (gN 10) gNl))) v9_ (z3_ y4_ (z0_ 9) (z0_ 10))) [.par [.int a',.bl b],.dat (.int l),.dat (.int m),.dat (.int n),.dat (dR h),.dat (dT rows),w6,.dat (.lst (lines.map dR)),.dat (dR r)]=some ((j6_ h r).map .int,[.par [.int a',.bl b],.dat (.int l),.dat (.int m),.dat (.int n),.dat (dR h),.dat (dT rows),w6,.dat (.lst (lines.map dR)),.dat (dR r)]):=by
   rw[←ez];refine a2d (e2:=[.nil,.nil,.nil,.nil,.nil,.nil,.nil,.nil,.nil,wx,wy]) zs ?_ g1 rfl;rw[Qk,List.length_zip];omega
  have s3:(v2_ 4 (mCB u6_ (z2_ (mF (v6_ (a1o (z2_ (z0_ 4) (z2_ (z0_ 8) z5_))) [false,false,false,false,false,false,false,false,false] 2 (gT 2 (gCn (gN 9) (gCn (gN 10) gNl))) v9_ (z3_ y4_ (z0_ 9) (z0_ 10)))) z5_))) [.par [.int a',.bl b],.dat (.int l),.dat (.int m),.dat (.int n),.dat (dR h),.dat (dT rows),w6,.dat (.lst (lines.map dR)),.dat (dR r)]=some (.nx,[.par [.int a',.bl b],.dat (.int l),.dat (.int m),.dat (.int n),.dat (dR (j6_ h r)),.dat (dT rows),w6,.dat (.lst (lines.map dR)),.dat (dR r)]):=
   a0V (e1:=[.par [.int a',.bl b],.dat (.int l),.dat (.int m),.dat (.int n),.dat (dR h),.dat (dT rows),w6,.dat (.lst (lines.map dR)),.dat (dR r)]) (a0q (k2_ (g0_ c) rfl) rfl)
  have s4:(v2_ 5 (z3_ y4_ (z0_ 5) (x7_ (z2_ (z0_ 8) z5_)))) [.par [.int a',.bl b],.dat (.int l),.dat (.int m),.dat (.int n),.dat (dR (j6_ h r)),.dat (dT rows),w6,.dat (.lst (lines.map dR)),.dat (dR r)]=some (.nx,[.par [.int a',.bl b],.dat (.int l),.dat (.int m),.dat (.int n),.dat (dR (j6_ h r)),.dat (dT (rows++[r])),w6,.dat (.lst (lines.map dR)),.dat (dR r)]):=by
   refine a0V (e1:=[.par [.int a',.bl b],.dat (.int l),.dat (.int m),.dat (.int n),.dat (dR (j6_ h r)),.dat (dT rows),w6,.dat (.lst (lines.map dR)),.dat (dR r)]) (v3_ rfl rfl ?_);show(if(rows.map dR).length+[dR r].length≤10000 then _ else none)=_
   rw[Qn (by rw[Qk];simp;omega)]
   unfold dT;rw[Uj];rfl
  unfold a8s;rw[x3_ s1,x3_ s2,x3_ s3];exact s4
 ·intro r' hr'
  rcases Yx.mp hr' with z|z
  ·exact hrow r' z
  ·have:r'=r:=by simpa using z
   subst this;exact⟨rl,rok.tt⟩
 ·have:=b9T r 0 rok.tt
  rw[b1Y rok.len]
  omega
 ·intro j hj
  rw[Uj,Qg,List.map_nil,b2b rok.len (by omega)]
  refine b9V _ _ 0 _ (hcol j hj) ?_
  rw[←b2b rok.len (by omega)]
  have hjl:j<(j6_ h r).length:=by rw[b1X rok.len];omega
  have:(j6_ h r).getD j 0=(j6_ h r)[j]:=by simp[hjl]
  rw[this];exact rok.bit _ (Zg hjl)
structure Tab(T:OI):Prop where
 lo:1≤T.length
 hi:T.length≤6
 len:∀r∈T,r.length=T.length
 ok:isT (dT T)=true
theorem b9Y{a l m:Int}{b:Bool}(ha:0≤a)(hl:1≤l)(hm:l≤m)(h6:m≤6):∃T a',a2X [.par [.int a,.bl b],.dat (.int l),.dat (.int m)]=some (.d (dT T),[.par [.int a',.bl b],.dat (.int l),.dat (.int m)])/\0≤a'/\Tab T/\l≤T.length/\(T.length:Int)≤m:=by
 obtain⟨v,a1,et,v0,v1,a10⟩:=a5Q (a:=a) (m:=m-l+1) (b:=b) ha (by omega) (by omega)
 obtain⟨n,hn⟩:∃n:Nat,(n:Int)=l+v:=⟨(l+v).toNat,by omega⟩
 have n1:1≤n:=by omega
 have n6:n≤6:=by omega
 have s1:(v2_ 3 (z3_ y4_ (z0_ 1) (mCD 2 x4_ (y8_ 0 (z7_ (z3_ y4_ (z3_ a0S (z0_ 2) (z0_ 1)) (mC (.int 1))) q0_))))) [.par [.int a,.bl b],.dat (.int l),.dat (.int m),.nil,.nil,.nil,.nil,.nil,.nil]=some (.nx,[.par [.int a1,.bl b],.dat (.int l),.dat (.int m),.dat (.int n),.nil,.nil,.nil,.nil,.nil]):=by
  have tk:(mCD 2 x4_ (y8_ 0 (z7_ (z3_ y4_ (z3_ a0S (z0_ 2) (z0_ 1)) (mC (.int 1))) q0_))) [.par [.int a,.bl b],.dat (.int l),.dat (.int m),.nil,.nil,.nil,.nil,.nil,.nil]=some (.int v,[.par [.int a1,.bl b],.dat (.int l),.dat (.int m),.nil,.nil,.nil,.nil,.nil,.nil]):=
   a0J ((a3C (e1:=[.par [.int a,.bl b],.dat (.int l),.dat (.int m),.nil,.nil,.nil,.nil,.nil,.nil]) (w:=.par [.int a,.bl b]) (av:=[.sl 0,.d (.int (m-l+1))]) (i:=0) (c:=[.int a,.bl b]) (c':=[.int a1,.bl b]) rfl rfl rfl rfl rfl et rfl).trans rfl)
  refine a0V (e1:=[.par [.int a1,.bl b],.dat (.int l),.dat (.int m),.nil,.nil,.nil,.nil,.nil,.nil]) (v3_ rfl tk ?_);rw[hn];rfl
 have s2:(v2_ 4 (z3_ j5_ (x7_ (z2_ (mC (.int 0)) z5_)) (z0_ 3))) [.par [.int a1,.bl b],.dat (.int l),.dat (.int m),.dat (.int n),.nil,.nil,.nil,.nil,.nil]=some (.nx,[.par [.int a1,.bl b],.dat (.int l),.dat (.int m),.dat (.int n),.dat (dR (List.replicate n 0)),.nil,.nil,.nil,.nil]):=by
  refine a0V (e1:=[.par [.int a1,.bl b],.dat (.int l),.dat (.int m),.dat (.int n),.nil,.nil,.nil,.nil,.nil]) (v3_ rfl rfl ?_);show(if 1≤(n:Int)/\(n:Int)≤1000 then some (D.tup (List.replicate (n:Int).toNat (.int 0)))else none)=_
  rw[Qn (by omega),Yc]
  unfold dR;rw[List.map_replicate]
 have s3:(v2_ 5 (x7_ z5_)) [.par [.int a1,.bl b],.dat (.int l),.dat (.int m),.dat (.int n),.dat (dR (List.replicate n 0)),.nil,.nil,.nil,.nil]=some (.nx,[.par [.int a1,.bl b],.dat (.int l),.dat (.int m),.dat (.int n),.dat (dR (List.replicate n 0)),.dat (dT []),.nil,.nil,.nil]):=rfl
 have start:TbI b l m n 0 [.par [.int a1,.bl b],.dat (.int l),.dat (.int m),.dat (.int n),.dat (dR (List.replicate n 0)),.dat (dT []),.nil,.nil,.nil] a1 (List.replicate n 0) [] .nil .nil .nil:=by
  refine⟨rfl,a10,⟨by simp,fun x hx=>.inl (List.eq_of_mem_replicate hx)⟩,rfl,fun r hr=>(by cases hr),by simp,fun j hj=>?_⟩
  simp[run,Jx,hj]
 obtain⟨e',h1,a',h',rows',x6,x7,x8,I⟩:=b2a (g:=gN 6) (b:=a8s) (ds:=a0d 0 n) (P:=fun i e=>∃a h rows w6 w7 w8,TbI b l m n i e a h rows w6 w7 w8) (env:=[.par [.int a1,.bl b],.dat (.int l),.dat (.int m),.dat (.int n),.dat (dR (List.replicate n 0)),.dat (dT []),.nil,.nil,.nil])
  (fun i d e hi ⟨a,h,rows,w6,w7,w8,I⟩=>by
   have hil:i<n:=by
    have:=(Qb.mp hi).1;rw[a2t]at this
    simpa using this
   obtain⟨rfl,r1,r2,r3,r4,r5,r6⟩:=I;obtain⟨e2,a',h',rows',x6,x7,x8,t1,t2⟩:=b9X (b:=b) (l:=l) (m:=m) (w6:=.dat d) (w7:=w7) (w8:=w8) n1 n6 hil ⟨rfl,r1,r2,r3,r4,r5,r6⟩;exact⟨_,e2,rfl,t1,a',h',rows',x6,x7,x8,t2⟩) ⟨_,_,_,_,_,_,start⟩
 have hlen:(a0d 0 n).length=n:=by rw[a2t];simp
 rw[hlen]at I;obtain⟨rfl,r1,r2,r3,r4,r5,r6⟩:=I;have ones:=(b1Z r2.bit).2 (by rw[r2.len];exact r5)
 have tab:Tab rows':=by
  refine⟨by omega,by omega,fun r hr=>by rw[r3];exact(r4 r hr).1,?_⟩
  unfold isT;rw[b1K (by omega) (by omega) (fun r hr=>by rw[r3];exact(r4 r hr).1),a5O,Ze,Xm,Qy,Qv,Qv]
  refine⟨fun r hr=>(r4 r hr).2,fun c hc=>?_⟩
  unfold flip at hc;obtain⟨j,hj,rfl⟩:=Qo.mp hc;have hj':j<n:=by rw[r3]at hj;exact Yy.mp hj
  rw[b9U,r6 j hj'];have hjl:j<h'.length:=by rw[r2.len];exact hj'
  have:h'.getD j 0=h'[j]:=by simp[hjl]
  rw[this,ones _ (Zg hjl)];rfl
 refine⟨rows',a',(w3_ (d:=dT rows') (env:=[.par [.int a',.bl b],.dat (.int l),.dat (.int m),.dat (.int n),.dat (dR h'),.dat (dT rows'),x6,x7,x8]) ?_).trans rfl,r1,tab,by omega,by omega⟩
 show a8k [.par [.int a,.bl b],.dat (.int l),.dat (.int m),.nil,.nil,.nil,.nil,.nil,.nil]=_;unfold a8k;have rg:=a4t (ms:=z2_ (z0_ 3) z5_) (env:=[.par [.int a1,.bl b],.dat (.int l),.dat (.int m),.dat (.int n),.dat (dR (List.replicate n 0)),.dat (dT []),.nil,.nil,.nil]) (e1:=[.par [.int a1,.bl b],.dat (.int l),.dat (.int m),.dat (.int n),.dat (dR (List.replicate n 0)),.dat (dT []),.nil,.nil,.nil]) (j:=(n:Int)) rfl (by omega) (by omega)
 rw[Yc]at rg;rw[x3_ s1,x3_ s2,x3_ s3,x3_ ((a3B rg).trans h1)];rfl
def S(g:Nat->Int):Nat->Int
 |0=>0
 |k+1=>S g k+g k
def HH(f:OO)(i j:Nat):Int:=S (fun c=>S (fun r=>f r c) i) j
def U(h:OO)(i j:Nat):Int:=(h (i+1) (j+1)-h i (j+1))-(h (i+1) j-h i j)
theorem b2c{g g':Nat->Int}:∀{n:Nat},(∀k<n,g k=g' k)->S g n=S g' n
 |0,_=>rfl
 |n+1,h=>by
  show S g n+g n=S g' n+g' n;rw[b2c (n:=n) fun k hk=>h k (by omega),h n (by omega)]
theorem a8t(g:Nat->Int):∀n,S (fun k=>g (k+1)-g k) n=g n-g 0
 |0=>by show(0:Int)=_;omega
 |n+1=>by
  show S (fun k=>g (k+1)-g k) n+(g (n+1)-g n)=_
  rw[a8t g n];omega
theorem b2d(g g':Nat->Int):∀n,S (fun k=>g k+g' k) n=S g n+S g' n
 |0=>rfl
 |n+1=>by
  show S (fun k=>g k+g' k) n+(g n+g' n)=S g n+g n+(S g' n+g' n)
  rw[b2d g g' n];omega
theorem a5R:∀n,S (fun _=>0) n=0
 |0=>rfl
 |n+1=>by show S (fun _=>0) n+0=0;rw[a5R n];rfl
theorem a4P(g:Nat->Int):∀n,S g (n+1)=g 0+S (fun k=>g (k+1)) n
 |0=>by show(0:Int)+g 0=g 0+0;omega
 |n+1=>by
  show S g (n+1)+g (n+1)=g 0+(S (fun k=>g (k+1)) n+g (n+1))
  rw[a4P g n];omega
theorem b2e(f:OO)(i j:Nat):HH f i (j+1)=HH f i j+S (fun r=>f r j) i:=rfl
theorem a8u(f:OO)(i j:Nat):HH f (i+1) j=HH f i j+S (f i) j:=b2d _ _ j
structure TabF(n:Nat)(f:OO):Prop where
 row:∀i<n,∀k≤n,S (f i) k=0∨S (f i) k=1
 rowN:∀i<n,S (f i) n=1
 col:∀j<n,∀k≤n,S (fun r=>f r j) k=0∨S (fun r=>f r j) k=1
 colN:∀j<n,S (fun r=>f r j) n=1
structure HtF(n:Nat)(h:OO):Prop where
 r0:∀i≤n,h i 0=0
 d0:∀j≤n,h 0 j=0
 rN:∀i≤n,h i n=i
 dN:∀j≤n,h n j=j
 dd:∀i<n,∀j≤n,h (i+1) j=h i j∨h (i+1) j=h i j+1
 rr:∀i≤n,∀j<n,h i (j+1)=h i j∨h i (j+1)=h i j+1
theorem TabF.ht{n:Nat}{f:OO}(T:TabF n f):HtF n (HH f):=by
 refine⟨fun i _=>rfl,fun j _=>?_,fun i hi=>?_,fun j hj=>?_,fun i hi j hj=>?_,fun i hi j hj=>?_⟩
 ·exact a5R j
 ·induction i with
  |zero=>exact a5R n
  |succ i ih=>rw[a8u,ih (by omega),T.rowN i (by omega)];omega
 ·induction j with
  |zero=>rfl
  |succ j ih=>rw[b2e,ih (by omega),T.colN j (by omega)];omega
 ·rw[a8u];have:=T.row i hi j hj;omega
 ·rw[b2e];have:=T.col j hj i hi;omega
theorem a8v(h:OO)(i j:Nat):S (U h i) j=(h (i+1) j-h i j)-(h (i+1) 0-h i 0):=
 a8t (fun j=>h (i+1) j-h i j) j
theorem b2f(h:OO)(i j:Nat):S (fun r=>U h r j) i=(h i (j+1)-h i j)-(h 0 (j+1)-h 0 j):=by
 have:=a8t (fun i=>h i (j+1)-h i j) i
 rw[←this]
 apply b2c
 intro k _;unfold U;omega
theorem HtF.tab{n:Nat}{h:OO}(H:HtF n h):TabF n (U h):=by
 refine⟨fun i hi k hk=>?_,fun i hi=>?_,fun j hj k hk=>?_,fun j hj=>?_⟩
 ·rw[a8v,H.r0 i (by omega),H.r0 (i+1) (by omega)]
  have:=H.dd i hi k hk;omega
 ·rw[a8v,H.r0 i (by omega),H.r0 (i+1) (by omega),H.rN i (by omega),H.rN (i+1) (by omega)];omega
 ·rw[b2f,H.d0 j (by omega),H.d0 (j+1) (by omega)]
  have:=H.rr k hk j hj;omega
 ·rw[b2f,H.d0 j (by omega),H.d0 (j+1) (by omega),H.dN j (by omega),H.dN (j+1) (by omega)];omega
theorem HtF.back{n:Nat}{h:OO}(H:HtF n h){i j:Nat}(hi:i≤n)(hj:j≤n):HH (U h) i j=h i j:=by
 induction i with
 |zero=>rw[H.d0 j hj];exact a5R j
 |succ i ih=>
  rw[a8u,ih (by omega),a8v,H.r0 i (by omega),H.r0 (i+1) (by omega)];omega
def mn(x y:Int):Int:=if x≤y then x else y
def mx(x y:Int):Int:=if x≤y then y else x
theorem HtF.min{n:Nat}{h k:OO}(H:HtF n h)(K:HtF n k):HtF n (fun i j=>mn (h i j) (k i j)):=by
 refine⟨fun i hi=>?_,fun i hi=>?_,fun i hi=>?_,fun i hi=>?_,fun i hi j hj=>?_,fun i hi j hj=>?_⟩
 ·show mn _ _=_;rw[H.r0 i hi,K.r0 i hi];rfl
 ·show mn _ _=_;rw[H.d0 i hi,K.d0 i hi];rfl
 ·show mn _ _=_;rw[H.rN i hi,K.rN i hi];simp[mn]
 ·show mn _ _=_;rw[H.dN i hi,K.dN i hi];simp[mn]
 ·have:=H.dd i hi j hj;have:=K.dd i hi j hj
  show mn _ _=mn _ _∨mn _ _=mn _ _+1;unfold mn;split<;>split<;>omega
 ·have:=H.rr i hi j hj;have:=K.rr i hi j hj
  show mn _ _=mn _ _∨mn _ _=mn _ _+1;unfold mn;split<;>split<;>omega
theorem HtF.max{n:Nat}{h k:OO}(H:HtF n h)(K:HtF n k):HtF n (fun i j=>mx (h i j) (k i j)):=by
 refine⟨fun i hi=>?_,fun i hi=>?_,fun i hi=>?_,fun i hi=>?_,fun i hi j hj=>?_,fun i hi j hj=>?_⟩
 ·show mx _ _=_;rw[H.r0 i hi,K.r0 i hi];rfl
 ·show mx _ _=_;rw[H.d0 i hi,K.d0 i hi];rfl
 ·show mx _ _=_;rw[H.rN i hi,K.rN i hi];simp[mx]
 ·show mx _ _=_;rw[H.dN i hi,K.dN i hi];simp[mx]
 ·have:=H.dd i hi j hj;have:=K.dd i hi j hj
  show mx _ _=mx _ _∨mx _ _=mx _ _+1;unfold mx;split<;>split<;>omega
 ·have:=H.rr i hi j hj;have:=K.rr i hi j hj
  show mx _ _=mx _ _∨mx _ _=mx _ _+1;unfold mx;split<;>split<;>omega
def tr(n:Nat)(h:OO)(i j:Nat):Int:=(i:Int)+j-n+h (n-i) (n-j)
theorem HtF.turned{n:Nat}{h:OO}(H:HtF n h):HtF n (tr n h):=by
 refine⟨fun i hi=>?_,fun i hi=>?_,fun i hi=>?_,fun i hi=>?_,fun i hi j hj=>?_,fun i hi j hj=>?_⟩
 ·unfold tr;rw[Nat.sub_zero,H.rN (n-i) (by omega)];omega
 ·unfold tr;rw[Nat.sub_zero,H.dN (n-i) (by omega)];omega
 ·unfold tr;rw[Nat.sub_self,H.r0 (n-i) (by omega)];omega
 ·unfold tr;rw[Nat.sub_self,H.d0 (n-i) (by omega)];omega
 ·have:=H.dd (n-(i+1)) (by omega) (n-j) (by omega)
  rw[show n-(i+1)+1=n-i by omega]at this
  unfold tr;omega
 ·have:=H.rr (n-i) (by omega) (n-(j+1)) (by omega)
  rw[show n-(j+1)+1=n-j by omega]at this
  unfold tr;omega
theorem a8w:∀(n:Nat) (g:Nat->Int) (s:Int),tt s ((List.range n).map g)=true↔(∀k<n,s+S g (k+1)=0∨s+S g (k+1)=1)/\s+S g n=1
 |0,g,s=>by
  show(s==1)=true↔_;rw[Jj]
  constructor
  ·intro h;exact⟨fun k hk=>by omega,by show s+0=1;omega⟩
  ·rintro⟨_,h⟩;have:S g 0=0:=rfl;omega
 |n+1,g,s=>by
  rw[List.range_succ_eq_map,Qg,Zc];show((s+g 0==0||s+g 0==1)&&tt (s+g 0) ((List.range n).map fun k=>g (k+1)))=true↔_
  rw[Qy,Xh,Jj,Jj,a8w n (fun k=>g (k+1)) (s+g 0),a4P g n]
  constructor
  ·rintro⟨h1,h2,h3⟩
   refine⟨fun k hk=>?_,by omega⟩
   rw[a4P g k];cases k with
   |zero=>show s+(g 0+0)=0∨s+(g 0+0)=1;omega
   |succ k=>have:=h2 k (by omega);omega
  ·rintro⟨h1,h2⟩
   refine⟨?_,fun k hk=>?_,by omega⟩
   ·have:=h1 0 (by omega)
    rw[a4P g 0]at this;have e:S (fun k=>g (k+1)) 0=0:=rfl
    omega
   ·have:=h1 (k+1) (by omega)
    rw[a4P g (k+1)]at this;omega
def gm(n m:Nat)(f:OO):OI:=(List.range n).map fun i=>(List.range m).map (f i)
theorem a3a{n m:Nat}{f:OO}:(gm n m f).length=n:=by simp[gm]
theorem b2g{n m:Nat}{f:OO}:∀r∈gm n m f,r.length=m:=by
 intro r hr;obtain⟨i,_,rfl⟩:=Qo.mp hr
 simp
def at2(R:OI)(i j:Nat):Int:=(R.getD i []).getD j 0
theorem b9Z{R:OI}{n:Nat}(h1:R.length=n)(h2:∀r∈R,r.length=n):R=gm n n (at2 R):=by
 subst h1;unfold gm
 apply Xu
 ·simp
 ·intro i hi hi'
  have hr:=h2 R[i] (Zg hi)
  rw[List.getElem_map,List.getElem_range]
  apply Xu
  ·simp[hr]
  ·intro j hj hj'
   rw[List.getElem_map,List.getElem_range]
   simp[at2,hi,hj]
theorem c0a(n m:Nat)(f:OO):flip m (gm n m f)=gm m n (fun i j=>f j i):=by
 unfold flip gm
 apply Yp
 intro j hj;have hj:=Yy.mp hj;rw[Zc]
 apply Yp
 intro i hi
 simp[hj]
theorem c0b{n:Nat}{f:OO}:isT (dT (gm n n f))=true↔(1≤n/\n≤6)/\TabF n f:=by
 unfold isT;rw[a5O,a3a,c0a,Qy,Xm,Qy,Qv,Qv];have row:∀g:OO,(∀x∈gm n n g,tt 0 x=true)↔ ∀i<n,(∀k≤n,S (g i) k=0∨S (g i) k=1)/\S (g i) n=1:=by
  intro g
  constructor
  ·intro h i hi
   have h1:=(a8w n (g i) 0).mp (h _ (Qo.mpr ⟨i,Yy.mpr hi,rfl⟩))
   refine⟨fun k hk=>?_,by have:=h1.2;omega⟩
   cases k with
   |zero=>exact .inl rfl
   |succ k=>have:=h1.1 k (by omega);omega
  ·intro h x hx
   obtain⟨i,hi,rfl⟩:=Qo.mp hx;have h1:=h i (Yy.mp hi);refine(a8w n (g i) 0).mpr ⟨fun k hk=>?_,by have:=h1.2;omega⟩
   have:=h1.1 (k+1) (by omega);omega
 rw[row,row]
 constructor
 ·rintro⟨h1,h2,h3⟩
  have:=b1I h1;rw[a5O,a3a]at this;exact⟨⟨by omega,by omega⟩,⟨fun i hi=>(h2 i hi).1,fun i hi=>(h2 i hi).2,fun i hi=>(h3 i hi).1,fun i hi=>(h3 i hi).2⟩⟩
 ·rintro⟨⟨h1,h2⟩,T⟩
  refine⟨b1K (by rw[a3a];omega) (by rw[a3a];omega) (by rw[a3a];exact b2g),fun i hi=>⟨T.row i hi,T.rowN i hi⟩,fun i hi=>⟨T.col i hi,T.colN i hi⟩⟩
abbrev rw'(n:Nat)(g:Nat->Int):List Int:=(List.range n).map g
theorem c1{f:Fn}{m:Mo D}{env:Env'}{d r:D}{ws:List W}(h:m env=some (d,env))(hf:f [.dat d]=some (.d r,ws)):mCD 1 f (z7_ m q0_) env=some (r,env):=
 a0J (a2e (av:=[.d d]) (a1E h rfl) rfl rfl hf)
theorem a3b{i:Nat}{e:Env'}{w:W}{a k:Int}{b:Bool}{M:Mo D}(hw:e[i]? =some w)(hm:w.mutL=some [.int a,.bl b])(hM:M e=some (.int k,e))(ha:0≤a)(h1:1≤k)(h2:k<1073741824):
  ∃v a',mCD 2 x4_ (y8_ i (z7_ M q0_)) e=some (.int v,e.set i (w.put [.int a',.bl b]))/\0≤v/\v<k/\0≤a':=by
 obtain⟨v,a',et,v0,v1,a0⟩:=a5Q (a:=a) (m:=k) (b:=b) ha h1 h2;refine⟨v,a',a0J (a3C (av:=[.sl i,.d (.int k)]) (c:=[.int a,.bl b]) ?_ rfl rfl hw hm et rfl),v0,v1,a0⟩;unfold y8_;rw[hw];simp only[Qx];have hm':∃m,w.mut=some m:=by
  cases w<;>first|cases hm;done|exact⟨_,rfl⟩
 obtain⟨m,hm'⟩:=hm';rw[hm'];simp only[Qx];rw[a1E hM rfl];rfl
theorem a5S{ds:List D}{v:Int}(h0:0≤v)(h1:v<ds.length):∃d,d∈ds/\dIx (.lst ds) (.int v)=some d:=by
 have hv:v.toNat<ds.length:=by omega
 refine⟨ds[v.toNat],Zg hv,?_⟩;have:((v.toNat:Nat):Int)=v:=by omega
 have h:=a1y (Zx hv)
 rw[this]at h;exact h
theorem c0c{L:List Int}{v:Int}(h0:0≤v)(h1:v<L.length):∃j,j∈L/\dIx (.lst (L.map .int)) (.int v)=some (.int j):=by
 obtain⟨d,hd,e⟩:=a5S (ds:=L.map .int) h0 (by rw[Qk];exact h1)
 obtain⟨j,hj,rfl⟩:=Qo.mp hd;exact⟨j,hj,e⟩
theorem a5T{n:Nat}{v:Int}(h0:0≤v)(h1:v<n):ixN n v=some v.toNat:=by
 unfold ixN;rw[Qn h0,Qn h1]
theorem a5U{ms:Mo (List D)}{e e1:Env'}{ds:List D}(h:ms e=some (ds,e1))(hl:ds.length≤1000):k4_ ms e=some (ds,e1):=by
 unfold k4_;rw[h];exact Qn hl
theorem b1x{t u:Mo D}{e e1:Env'}{r:Option (D×Env')}(h:t e=some (.bl true,e1))(h2:u e1=r):a0x t u e=r:=by unfold a0x;rw[h];exact h2
theorem a1E{m:Mo D}{as:Mo (List Ar)}{e e1 e2:Env'}{d:D}{q:List Ar}(h:m e=some (d,e1))(h2:as e1=some (q,e2)):z7_ m as e=some (.d d::q,e2):=by
 unfold z7_;rw[h,Qx,h2];rfl
theorem c0d(x y:Int):dEq false (.int x) (.int y)=some (.bl (x==y)):=by
 rw[b6n];congr 2
theorem c0e(k:Nat)(i:Int):a0l (k+1) [.dat (.int i),.dat (.int i)]=some (.d (.bl true),[.dat (.int i),.dat (.int i)]):=by
 refine(w3_ (d:=.bl true) (env:=[.dat (.int i),.dat (.int i)]) ?_).trans rfl;show a4J (a0l k) [.dat (.int i),.dat (.int i)]=_;unfold a4J;refine y9_ (w0_ rfl rfl) (a0h ?_);show some (D.bl (i==i),_)=_;rw[Uh]
def isI(o:Option D)(k:Int):Bool:=match o with
 |some (.int i)=>i==k
 |_=>false
theorem c0f{o:Option D}{k:Int}(h:isI o k=true):o=some (.int k):=by
 unfold isI at h;split at h
 ·rw[eq_of_beq h]
 ·cases h
theorem c0g{i:Nat}{e e1:Env'}{w:W}{c:Mu}{as:Mo (List Ar)}{q:List Ar}(hw:e[i]? =some w)(hm:w.mut=some c)(h:as e=some (q,e1)):y8_ i as e=some (.sl i::q,e1):=by
 unfold y8_;rw[hw,Qx,hm,Qx,h];rfl
theorem c0h{t:Mo Bool}{x y:Mx}{e e1:Env'}(h:t e=some (true,e1)):xIf t x y e=x e1:=by unfold xIf;rw[h];rfl
theorem c0i{x y:Mx}{s:Mo Fl}{e:Env'}{n:Str}(h:x e=some n):a4v x s y e=some n:=by unfold a4v;rw[h]
theorem Tab.fn{T:OI}(hT:Tab T):T=gm T.length T.length (at2 T)/\TabF T.length (at2 T):=by
 have e:=b9Z rfl hT.len
 refine⟨e,?_⟩;have h:=hT.ok;rw[e]at h;exact(c0b.mp h).2
theorem a5V(sep p:Str)(ps:List Str):(Txt.join sep (p::ps)).cps.toList=p.cps.toList++ps.flatMap fun q=>sep.cps.toList++q.cps.toList:=by
 show(List.foldl (fun acc p=>acc++sep.cps++p.cps) p.cps ps).toList=_
 have:∀(ps:List Str) (acc:Array Nat),(List.foldl (fun acc (p:Str)=>acc++sep.cps++p.cps) acc ps).toList=acc.toList++ps.flatMap fun q=>sep.cps.toList++q.cps.toList:=by
  intro ps
  induction ps with
  |nil=>intro acc;simp
  |cons q ps ih=>intro acc;rw[Xf,ih,Ub];simp[Jf]
 exact this ps p.cps
def places(c:Nat):Nat->List Nat->List Nat
 |_,[]=>[]
 |k,x::l=>if x=c then k::places c (k+1) l else places c (k+1) l
theorem b2h(c:Nat):∀(l:List Nat) (k:Nat),(places c k l).length≤l.length
 |[],_=>Qw _
 |x::l,k=>by
  unfold places;have:=b2h c l (k+1);split
  ·simp only[Zq];omega
  ·simp only[Zq];omega
theorem b2i(c x:Nat):∀(l:List Nat) (k:Nat),places c k (l++[x])=places c k l++if x=c then[k+l.length]else[]
 |[],k=>by
  show(if x=c then k::[]else[])=[]++if x=c then[k+0]else[]
  simp
 |y::l,k=>by
  rw[Xp];unfold places;rw[b2i c x l (k+1)];have e:k+1+l.length=k+(y::l).length:=by simp only[Zq];omega
  rw[e];split<;>simp
theorem c0j(x:Str)(c:Nat):Builtin.Str.occurrences x ⟨#[c]⟩ 0 x.length (x.length+1)=places c 0 x.cps.toList:=by
 unfold Builtin.Str.occurrences;have key:∀m,m≤x.length+1->∀st:Array Nat×Nat,st=(List.range m).foldl (fun(st:Array Nat×Nat) (i:Nat)=>if(decide (st.1.size<x.length+1)&&decide (st.2≤i)&&decide (i+(⟨#[c]⟩:Str).length≤x.length)&&Builtin.Str.subAt x ⟨#[c]⟩ i)=true then(st.1.push i,i+(⟨#[c]⟩:Str).length)else st) (#[],0)->st.1.toList=places c 0 (x.cps.toList.take m)/\st.2≤m:=by
  intro m
  induction m with
  |zero=>intro _ st h;subst h;exact⟨rfl,Qw _⟩
  |succ m ih=>
   intro hm st h;rw[List.range_succ,List.foldl_append]at h;obtain⟨h1,h2⟩:=ih (by omega) _ rfl
   generalize (List.range m).foldl _ _=q at h h1 h2;simp only[Xf,List.foldl_nil]at h;have hs:q.1.size≤m:=by
    have e1:q.1.size=q.1.toList.length:=by simp
    rw[e1,h1];have:=b2h c (x.cps.toList.take m) 0;rw[Yw]at this
    omega
   have hl:(⟨#[c]⟩:Str).length=1:=rfl
   rw[hl]at h
   by_cases hn:m<x.length
   ·have hn2:m<x.cps.size:=hn
    have hn':m<x.cps.toList.length:=by rw[Ur];exact hn
    have ht:x.cps.toList.take (m+1)=x.cps.toList.take m++[x.cps.toList[m]]:=by rw[List.take_succ,Zx hn'];rfl
    have hsub:Builtin.Str.subAt x ⟨#[c]⟩ m=decide (x.cps.toList[m]=c):=by
     unfold Builtin.Str.subAt;have e2:x.cps.extract m (m+1)= #[x.cps[m]'(by simpa using hn')]:=by
      apply Array.ext
      ·rw[Array.size_extract];simp;omega
      ·intro i h1 h2
       simp at h2
       subst h2
       simp
     show(x.cps.extract m (m+1)== #[c])=_;rw[e2,Array.getElem_toList]
     by_cases hc:x.cps[m]'(by simpa using hn')=c
     ·rw[hc];simp
     ·simp[hc]
    have hcond:(decide (q.1.size<x.length+1)&&decide (q.2≤m)&&decide (m+1≤x.length)&&Builtin.Str.subAt x ⟨#[c]⟩ m)=decide (x.cps.toList[m]=c):=by
     rw[hsub,Yj (by omega:q.1.size<x.length+1),Yj h2,Yj (by omega:m+1≤x.length)]
     simp
    rw[hcond]at h;rw[ht,b2i,Yw,Nat.min_eq_left (by omega),Nat.zero_add]
    by_cases hc:x.cps.toList[m]=c
    ·rw[Qn (Yj hc)]at h
     subst h;rw[Qn hc];exact⟨by simp[h1],Qw _⟩
    ·rw[Qr (by simpa using hc)]at h
     subst h;rw[Qr hc];exact⟨by simp[h1],by omega⟩
   ·have hcond:(decide (q.1.size<x.length+1)&&decide (q.2≤m)&&decide (m+1≤x.length)&&Builtin.Str.subAt x ⟨#[c]⟩ m)=false:=by
     rw[Zk (by omega:¬ m+1≤x.length)]
     simp
    rw[hcond]at h;rw[Qr (by simp)]at h
    subst h;have hl:x.cps.toList.length=x.length:=by simp[Str.length]
    rw[Yd (by omega),←Yd (i:=m) (l:=x.cps.toList) (by omega)]
    exact⟨h1,by omega⟩
 obtain⟨h1,_⟩:=key (x.length+1) (Qw _) _ rfl;rw[Yd (by simp[Str.length])]at h1
 rw[←h1];have hb:(fun(i:Nat) (st:Array Nat×Nat)=>(if(decide (st.1.size<x.length+1)&&decide (st.2≤i)&&decide (i+(⟨#[c]⟩:Str).length≤x.length)&&Builtin.Str.subAt x ⟨#[c]⟩ i)=true then(pure (ForInStep.yield (st.1.push i,i+(⟨#[c]⟩:Str).length)):Id (ForInStep (Array Nat×Nat)))else pure (ForInStep.yield (st.1,st.2))))=
   fun i st=>pure (ForInStep.yield (if(decide (st.1.size<x.length+1)&&decide (st.2≤i)&&decide (i+(⟨#[c]⟩:Str).length≤x.length)&&Builtin.Str.subAt x ⟨#[c]⟩ i)=true then(st.1.push i,i+(⟨#[c]⟩:Str).length)else st)):=by
  funext i st
  split<;>rfl
 have hf:forIn (m:=Id) [0:x.length+1] ((#[],0):Array Nat×Nat) (fun(i:Nat) (st:Array Nat×Nat)=>(if(decide (st.1.size<x.length+1)&&decide (st.2≤i)&&decide (i+(⟨#[c]⟩:Str).length≤x.length)&&Builtin.Str.subAt x ⟨#[c]⟩ i)=true then(pure (ForInStep.yield (st.1.push i,i+(⟨#[c]⟩:Str).length)):Id (ForInStep (Array Nat×Nat)))else pure (ForInStep.yield (st.1,st.2))))=
   pure ((List.range (x.length+1)).foldl (fun(st:Array Nat×Nat) (i:Nat)=>if(decide (st.1.size<x.length+1)&&decide (st.2≤i)&&decide (i+(⟨#[c]⟩:Str).length≤x.length)&&Builtin.Str.subAt x ⟨#[c]⟩ i)=true then(st.1.push i,i+(⟨#[c]⟩:Str).length)else st) (#[],0)):=by
  rw[hb,Std.Legacy.Range.forIn_eq_forIn_range',List.forIn_pure_yield_eq_foldl,List.range_eq_range']
  simp[Std.Legacy.Range.size]
 exact Jr (fun q:Id (Array Nat×Nat)=>(Id.run q).1.toList) hf
def spl(c:Nat):List Nat->List (List Nat)
 |[]=>[[]]
 |x::l=>if x=c then[]::spl c l else match spl c l with
  |h::t=>(x::h)::t
  |[]=>[[x]]
theorem a2u(c:Nat)(l:List Nat):∃h t,spl c l=h::t:=by
 cases l with
 |nil=>exact⟨_,_,rfl⟩
 |cons x l=>
  unfold spl;split
  ·exact⟨_,_,rfl⟩
  ·split<;>exact⟨_,_,rfl⟩
theorem a8x(c:Nat):∀(l pre:List Nat) (s:Nat),s≤pre.length->∀h t,spl c l=h::t->
  ((s::(places c pre.length l).map (· +1)).zip (places c pre.length l++[(pre++l).length])).map (fun p=>((pre++l).take p.2).drop p.1)=(pre.drop s++h)::t
 |[],pre,s,hs,h,t,e=>by
  cases e;show[(((pre++[]).take (pre++[]).length).drop s)]=_
  simp
 |x::l,pre,s,hs,h,t,e=>by
  have ea:pre++x::l=(pre++[x])++l:=by simp
  have el:(pre++[x]).length=pre.length+1:=by simp
  by_cases hx:x=c
  ·have e1:spl c (x::l)=[]::spl c l:=Qn hx
   have e2:places c pre.length (x::l)=pre.length::places c (pre.length+1) l:=Qn hx
   rw[e1]at e;cases e;obtain⟨h',t',e'⟩:=a2u c l;have ih:=a8x c l (pre++[x]) (pre.length+1) (by rw[el];exact Qw _) h' t' e'
   rw[el]at ih;rw[e2,ea,Qg,Xp,List.zip_cons_cons,Qg,ih,e']
   congr 1
   ·rw[Jf,List.take_left]
    simp
   ·rw[List.drop_of_length_le (by rw[el];exact Qw _)]
    rfl
  ·have e2:places c pre.length (x::l)=places c (pre.length+1) l:=Qr hx
   obtain⟨h',t',e'⟩:=a2u c l;have e1:spl c (x::l)=(x::h')::t':=by
    have:spl c (x::l)=(match spl c l with|h::t=>(x::h)::t|[]=>[[x]]):=Qr hx
    rw[this,e']
   rw[e1]at e;cases e;have ih:=a8x c l (pre++[x]) s (by rw[el];omega) h' t e'
   rw[el]at ih;rw[e2,ea,ih];rw[List.drop_append_of_le_length hs,Jf]
   rfl
theorem c0k(x:Str)(c:Nat)(hc:c<256)(h1:1≤x.length):a0j x ⟨#[c]⟩=(spl c x.cps.toList).map fun l=>⟨l.toArray⟩:=by
 obtain⟨h,t,e⟩:=a2u c x.cps.toList;have hp:=a8x c x.cps.toList [] 0 (Qw _) h t e;simp only[Vd,Jp,List.drop_nil]at hp;have hk:Builtin.Str.strKind ⟨#[c]⟩=1:=by
  unfold Builtin.Str.strKind;rw[Qn (by simp[hc])]
 have hk2:1≤Builtin.Str.strKind x:=by
  unfold Builtin.Str.strKind;split
  ·exact Qw _
  ·split<;>decide
 have hn:¬ (decide (x.length<(⟨#[c]⟩:Str).length)||decide (Builtin.Str.strKind x<Builtin.Str.strKind ⟨#[c]⟩))=true:=by
  rw[hk];have:(⟨#[c]⟩:Str).length=1:=rfl;rw[this]
  simp
  omega
 unfold a0j;rw[Qr hn,c0j];have ex:∀i j,Builtin.Str.strSub x i j=⟨((x.cps.toList.take j).drop i).toArray⟩:=fun i j=>by
  unfold Builtin.Str.strSub
  congr 1
  apply Array.ext'
  rw[Array.toList_extract];rw[List.extract_eq_drop_take,List.drop_take]
 have hparts:Builtin.Str.partsBetween x (places c 0 x.cps.toList) (⟨#[c]⟩:Str).length=(spl c x.cps.toList).map fun l=>(⟨l.toArray⟩:Str):=by
  unfold Builtin.Str.partsBetween;dsimp only;rw[e,←hp,Zc];have hl:x.length=x.cps.toList.length:=by simp[Str.length]
  rw[hl]
  apply Yp
  intro p _;exact ex p.1 p.2
 by_cases hz:(places c 0 x.cps.toList).isEmpty=true
 ·rw[Qn hz]
  rw[←hparts];have:places c 0 x.cps.toList=[]:=by simpa using hz
  rw[this];unfold Builtin.Str.partsBetween;dsimp only;show[x]=[Builtin.Str.strSub x 0 x.length];rw[ex];have hl:x.length=x.cps.toList.length:=by simp[Str.length]
  rw[hl,List.take_length,List.drop_zero]
 ·rw[Qr hz]
  exact hparts
def sg(i:Int):Nat:=if i=1 then 43 else if i= -1 then 45 else 48
def sgS(i:Int):Str:=⟨#[sg i]⟩
def a1u(r:List Int):Str:=Txt.join "" (r.map sgS)
def txt(R:OI):Str:=Txt.join "/" (R.map a1u)
theorem st0:("":Str)=⟨#[]⟩:=by decide+kernel
theorem st1:("/":Str)=⟨#[47]⟩:=by decide+kernel
theorem a8y(r:List Int):(a1u r).cps.toList=r.map sg:=by
 cases r with
 |nil=>rfl
 |cons i r=>
  unfold a1u;rw[Qg,a5V,st0];show[sg i]++(r.map sgS).flatMap (fun q=>[]++q.cps.toList)=_
  rw[Xb];simp only[Vd];show[sg i]++r.flatMap (fun j=>[sg j])=_
  rw[b1w]
  rfl
theorem b2j(r:List Int):(a1u r).length=r.length:=by
 show(a1u r).cps.size=_;rw[←Ur,a8y,Qk]
theorem b2k(r:List Int)(R:OI):(txt (r::R)).cps.toList=r.map sg++(R.map fun q=>q.map sg).flatMap fun q=>[47]++q:=by
 unfold txt;rw[Qg,a5V,a8y,st1,Xb,Xb]
 congr 1
 congr 1
 funext q
 show[47]++(a1u q).cps.toList=_;rw[a8y]
theorem b2l(i:Int):sg i=43∨sg i=45∨sg i=48:=by
 unfold sg;split
 ·exact .inl rfl
 ·split
  ·exact .inr (.inl rfl)
  ·exact .inr (.inr rfl)
structure Small(R:OI):Prop where
 lo:1≤R.length
 hi:R.length≤6
 row:∀r∈R,1≤r.length/\r.length≤6
 it:∀r∈R,∀i∈r,i=1∨i= -1∨i=0
theorem c0l{R:OI}{c:Nat}(h:c∈(txt R).cps.toList)(hR:1≤R.length):c=43∨c=45∨c=48∨c=47:=by
 cases R with
 |nil=>simp at hR
 |cons r R=>
  rw[b2k,Yx]at h
  rcases h with h|h
  ·obtain⟨i,_,rfl⟩:=Qo.mp h
   rcases b2l i with z|z|z<;>omega
  ·obtain⟨q,hq,h⟩:=List.mem_flatMap.mp h
   obtain⟨r',_,rfl⟩:=Qo.mp hq
   rcases Yx.mp h with h|h
   ·have:c=47:=by simpa using h
    omega
   ·obtain⟨i,_,rfl⟩:=Qo.mp h
    rcases b2l i with z|z|z<;>omega
theorem b2m{R:OI}(S:Small R):1≤(txt R).length/\(txt R).length≤100:=by
 have e:(txt R).length=(txt R).cps.toList.length:=by show(txt R).cps.size=_;simp
 rw[e];have hlo:=S.lo;cases R with
 |nil=>simp at hlo
 |cons r R=>
  rw[b2k,Qs,Qk];have h1:=S.row r (Zz ..);have h2:∀(Q:OI),(∀q∈Q,q.length≤6)->((Q.map fun q=>q.map sg).flatMap fun q=>[47]++q).length≤Q.length * 7:=by
   intro Q
   induction Q with
   |nil=>intro _;simp
   |cons q Q ih=>
    intro h;have a:=ih (fun x hx=>h x (Qe _ hx))
    have b:=h q (Zz ..)
    rw[Qg,Ub];simp only[Qs,Qk,Zq,Jp]at a b ⊢
    omega
  have h3:=h2 R (fun q hq=>(S.row q (Qe _ hq)).2)
  have h4:=S.hi
  rw[Zq]at h4
  omega
abbrev a1M:List (Key×Key):=[(.inl 0,.inr "0"),(.inl 1,.inr "+"),(.inl (-1),.inr "-")]
abbrev NUM:List (Key×Key):=[(.inr "+",.inl 1),(.inr "-",.inl (-1)),(.inr "0",.inl 0)]
def a4Q(o:Option D)(x:Str):Bool:=match o with
 |some (.str y)=>decide (y=x)
 |_=>false
theorem a8z{o:Option D}{x:Str}(h:a4Q o x=true):o=some (.str x):=by
 unfold a4Q at h;split at h
 ·rw[Uu h]
 ·cases h
theorem s2a:a4Q ((lkK a1M (.inl 1)).bind a0X) (sgS 1)=true:=by decide+kernel
theorem s2b:a4Q ((lkK a1M (.inl (-1))).bind a0X) (sgS (-1))=true:=by decide+kernel
theorem s2c:a4Q ((lkK a1M (.inl 0)).bind a0X) (sgS 0)=true:=by decide+kernel
theorem c0m{i:Int}(h:i=1∨i= -1∨i=0):(lkK a1M (.inl i)).bind a0X=some (.str (sgS i)):=by
 rcases h with rfl|rfl|rfl
 ·exact a8z s2a
 ·exact a8z s2b
 ·exact a8z s2c
theorem c0n{kvs:List (Key×Key)}{m:Mo D}{e:Env'}{d d':D}{k:Key}(h:m e=some (d,e))(hk:a3F d=some k)(hv:(lkK kvs k).bind a0X=some d'):a5E kvs m e=some (d',e):=by
 unfold a5E;rw[h,Qx];dsimp only;rw[hk,Qx];cases hl:lkK kvs k with
 |none=>rw[hl]at hv;cases hv
 |some v=>
  rw[hl,Qx]at hv;rw[Qx,hv]
  rfl
theorem b2n{α:Type}(g:α->Str):∀l:List α,strs? (l.map fun a=>D.str (g a))=some (l.map g)
 |[]=>rfl
 |a::l=>by
  rw[Qg];unfold strs?;rw[b2n g l]
  rfl
theorem a8A{α:Type}{x:Str}{g:α->Str}{l:List α}(h1:x.length≤4)(h2:∀a∈l,(g a).length≤1000)(h3:l.length≤1000)(h4:(Txt.join x (l.map g)).length≤100000):a0L (.str x) (.lst (l.map fun a=>D.str (g a)))=some (.str (Txt.join x (l.map g))):=by
 unfold a0L;dsimp only;rw[b2n,Qx,Qn];simp only[Qy,Zf,Qv,Qk];refine⟨⟨⟨h1,fun y hy=>?_⟩,h3⟩,h4⟩
 obtain⟨a,ha,rfl⟩:=Qo.mp hy;exact h2 a ha
theorem c0o{r:List Int}(h:r.length≤6):a0L (.str "") (.lst (r.map fun i=>D.str (sgS i)))=some (.str (a1u r)):=
 a8A (by decide+kernel) (fun i _=>by show 1≤1000;decide) (by omega) (by show(a1u r).length≤100000;rw[b2j];omega)
theorem c0p{R:OI}(S:Small R):a0L (.str "/") (.lst (R.map fun r=>D.str (a1u r)))=some (.str (txt R)):=
 a8A (by decide+kernel) (fun r hr=>by rw[b2j];have:=(S.row r hr).2;omega) (by have:=S.hi;omega) (by have:=(b2m S).2;show(txt R).length≤100000;omega)
theorem c1'{f:Fn}{m:Mo D}{env:Env'}{a r:D}{ws:List W}(h:m env=some (a,env))(hf:f [.dat a]=some (.d r,ws)):mCD 1 f (z7_ m q0_) env=some (r,env):=
 a4A (av:=[.d a]) (a1E h rfl) rfl rfl hf
theorem c2'{f:Fn}{m n:Mo D}{env:Env'}{a b r:D}{ws:List W}(h:m env=some (a,env))(h':n env=some (b,env))(hf:f [.dat a,.dat b]=some (.d r,ws)):mCD 2 f (z7_ m (z7_ n q0_)) env=some (r,env):=
 a4A (av:=[.d a,.d b]) (a1E h (a1E h' rfl)) rfl rfl hf
theorem c0q{R:OI}(S:Small R):∃ws,a3R [.dat (dT R)]=some (.d (.str (txt R)),ws):=by
 refine⟨_,a2l (env:=[.dat (dT R),.dat (.obj (.dk a1M))]) ?_ rfl⟩;show a8o [.dat (dT R),.nil]=_;unfold a8o;refine y9_ (a0u (e1:=[.dat (dT R),.nil]) (e2:=[.dat (dT R),.dat (.obj (.dk a1M))]) (d:=.obj (.dk a1M)) rfl rfl) (a0h (v3_ rfl (g0_ (a3K (α:=List Int) (l:=R) (q:=dR) (f:=fun r=>.str (a1u r)) (base:=[.nil,.dat (.obj (.dk a1M))]) rfl (by have:=S.hi;omega) rfl rfl (fun r hr=>?_) (fun _=>rfl))) (c0p S)))
 have h6:=(S.row r hr).2
 exact v3_ rfl (g0_ (a3K (α:=Int) (l:=r) (q:=D.int) (f:=fun i=>.str (sgS i)) (base:=[.nil,.dat (.obj (.dk a1M)),.nil]) rfl (by omega) rfl rfl (fun i hi=>v3_ rfl rfl (c0m (S.it r hr i hi))) (fun _=>rfl))) (c0o h6)
theorem a8B{m:Mo D}{e:Env'}{x:Str}{ds:List D}(h:m e=some (.str x,e))(ha:∀c∈x.cps.toList,c<128)(hs:signs x=ds):a2k m e=some (ds,e):=by
 unfold a2k;rw[h,Qx];dsimp only;rw[Qn,hs];rw[←Array.all_toList,Qv];exact fun c hc=>Yj (ha c hc)
theorem b2o{k:Nat}{es:List D}(hl:es.length≤1000)(h:∀x∈es,∃ws,a0l k [.dat x,.dat x]=some (.d (.bl true),ws)):∃ws,a0l (k+1) [.dat (.tup es),.dat (.tup es)]=some (.d (.bl true),ws):=by
 refine⟨_,(w3_ (d:=.bl true) (env:=[.dat (.tup es),.dat (.tup es)]) ?_)⟩;show a4J (a0l k) [.dat (.tup es),.dat (.tup es)]=_;unfold a4J;refine j9_ (a0Z (e1:=[.dat (.tup es),.dat (.tup es)]) rfl (y9_ (e1:=[.dat (.tup es),.dat (.tup es)]) (w0_ (e1:=[.dat (.tup es),.dat (.tup es)]) rfl rfl) (a0h ?_)));have e1:(z3_ (dEq false) (mCB v5_ (z2_ (z0_ 0) z5_)) (mCB v5_ (z2_ (z0_ 1) z5_))) [.dat (.tup es),.dat (.tup es)]=some (.bl ((es.length:Int)==(es.length:Int)),[.dat (.tup es),.dat (.tup es)]):=rfl;have c:=b8h (mi:=a1o (z2_ (z0_ 0) (z2_ (z0_ 1) z5_))) (keep:=[false,false]) (m:=mCD 2 (a0l k) (z7_ (z0_ 2) (z7_ (z0_ 3) q0_))) (env:=[.dat (.tup es),.dat (.tup es)]) (base:=[.nil,.nil]) (l:=es) (q:=fun p=>p) (q2:=fun p=>p) (f:=fun p=>.bl true) (k:=2) (b8o (a:=.tup es) (b:=.tup es) rfl (by show some es=some (es.map fun p=>p);simp) (by show some es=some (es.map fun p=>p);simp)) (by omega) rfl rfl (fun p hp=>by
   obtain⟨ws,q⟩:=h p hp;exact a4A (av:=[.d p,.d p]) rfl rfl rfl q) (fun w w2=>rfl)
 refine(b1x (e1.trans ?_) (a0q (d:=.bl true) (k2_ (g0_ c) rfl) ?_))
 ·rw[Uh]
 ·show(a0p _).map _=_
  rw[a2O]
  simp
structure TX(n:Nat)(x:Str):Prop where
 len:x.length≤n
 asc:∀c∈x.cps.toList,c<128
def sW(w:List Nat):Str:=⟨w.toArray⟩
theorem c0r(x:Str):a0j x "/"=(spl 47 x.cps.toList).map sW:=by
 rw[st1]
 by_cases h:1≤x.length
 ·exact c0k x 47 (by decide) h
 ·obtain⟨c⟩:=x
  have:c= #[]:=Array.size_eq_zero_iff.mp (by have:¬ 1≤c.size:=h;omega)
  subst this
  decide+kernel
theorem a5W:∀l:List Nat,((spl 47 l).map List.length).sum+(spl 47 l).length=l.length+1
 |[]=>rfl
 |x::l=>by
  have ih:=a5W l
  by_cases hx:x=47
  ·have e:spl 47 (x::l)=[]::spl 47 l:=Qn hx
   rw[e];simp only[Qg,Ym,Zq,Jp]
   omega
  ·obtain⟨h,t,e'⟩:=a2u 47 l
   have e:spl 47 (x::l)=(match spl 47 l with|h::t=>(x::h)::t|[]=>[[x]]):=Qr hx
   rw[e,e'];rw[e']at ih;simp only[Qg,Ym,Zq]at ih ⊢
   omega
theorem a5X:∀(l:List Nat) (w:List Nat),w∈spl 47 l->∀c∈w,c∈l
 |[],w,hw,c,hc=>by
  have:w=[]:=by simpa [spl]using hw
  subst this;cases hc
 |x::l,w,hw,c,hc=>by
  have ih:=a5X l
  by_cases hx:x=47
  ·have e:spl 47 (x::l)=[]::spl 47 l:=Qn hx
   rw[e]at hw
   rcases Qm.mp hw with rfl|hw
   ·cases hc
   ·exact Qe _ (ih w hw c hc)
  ·obtain⟨h,t,e'⟩:=a2u 47 l
   have e:spl 47 (x::l)=(match spl 47 l with|h::t=>(x::h)::t|[]=>[[x]]):=Qr hx
   rw[e,e']at hw;rw[e']at ih
   rcases Qm.mp hw with rfl|hw
   ·rcases Qm.mp hc with rfl|hc
    ·exact Zz ..
    ·exact Qe _ (ih h (Zz ..) c hc)
   ·exact Qe _ (ih w (Qe _ hw) c hc)
theorem a8C{α:Type}(g:α->Nat):∀{l:List α}{x:α},x∈l->g x≤(l.map g).sum
 |y::l,x,h=>by
  rw[Qg,Ym]
  rcases Qm.mp h with rfl|h
  ·omega
  ·have:=a8C g h
   omega
theorem a5Y{l w:List Nat}(h:w∈spl 47 l):w.length≤l.length:=by
 have a:=a5W l
 have b:=a8C List.length h
 have c:1≤(spl 47 l).length:=by
  obtain⟨h,t,e⟩:=a2u 47 l;rw[e]
  simp
 omega
theorem a5Z(l:List Nat):(spl 47 l).length≤l.length+1:=by
 have:=a5W l
 omega
def good(c:Nat):Bool:=c==43||c==45||c==48
def okc(c:Nat):Bool:=c==47||good c
theorem a8D:∀l:List Nat,((spl 47 l).all fun w=>w.all good)=l.all okc
 |[]=>rfl
 |x::l=>by
  have ih:=a8D l
  by_cases hx:x=47
  ·have e:spl 47 (x::l)=[]::spl 47 l:=Qn hx
   rw[e,Za,Za,ih];subst hx
   rfl
  ·obtain⟨h,t,e'⟩:=a2u 47 l
   have e:spl 47 (x::l)=(match spl 47 l with|h::t=>(x::h)::t|[]=>[[x]]):=Qr hx
   rw[e,e',Za,Za,Za,←ih,e',Za];have:okc x=good x:=by
    unfold okc;rw[Qa.mpr hx,Xx]
   rw[this,Bool.and_assoc]
def gd(c:Nat):Int:=if c=48 then 0 else if c=43 then 1 else if c=45 then-1 else 7
theorem gd7(c:Nat):(gd c==7)=!good c:=by
 unfold gd good
 by_cases h1:c=48
 ·subst h1;rfl
 by_cases h2:c=43
 ·subst h2;rfl
 by_cases h3:c=45
 ·subst h3;rfl
 rw[Qr h1,Qr h2,Qr h3,Qa.mpr h1,Qa.mpr h2,Qa.mpr h3]
 rfl
abbrev a6a:List (Key×Key):=[(.inr "0",.inl 0),(.inr "+",.inl 1),(.inr "-",.inl (-1))]
theorem t48:("0":Str)=⟨#[48]⟩:=by decide+kernel
theorem t43:("+":Str)=⟨#[43]⟩:=by decide+kernel
theorem t45:("-":Str)=⟨#[45]⟩:=by decide+kernel
theorem a3T{a c:Nat}(h:¬ c=a):¬ (.inr ⟨#[a]⟩:Key)=.inr ⟨#[c]⟩:=fun z=>h (by
 have z1:=Sum.inr.inj z
 have z2:=Jr (fun s:Str=>s.cps.toList) z1
 have z3:[a]=[c]:=z2
 exact(List.cons.inj z3).1.symm)
theorem a3U{a c:Nat}(h:c=a):(.inr ⟨#[a]⟩:Key)=.inr ⟨#[c]⟩:=by rw[h]
theorem c0s(c:Nat):lkK a6a (.inr ⟨#[c]⟩)=if good c then some (.inl (gd c))else none:=by
 unfold a6a;rw[t48,t43,t45];unfold lkK lkK lkK lkK
 by_cases h1:c=48
 ·rw[Qn (a3U h1)];subst h1;rfl
 rw[Qr (a3T h1)]
 by_cases h2:c=43
 ·rw[Qn (a3U h2)];subst h2;rfl
 rw[Qr (a3T h2)]
 by_cases h3:c=45
 ·rw[Qn (a3U h3)];subst h3;rfl
 rw[Qr (a3T h3)];have:good c=false:=by
  unfold good;rw[Qa.mpr h1,Qa.mpr h2,Qa.mpr h3]
  rfl
 rw[this]
 rfl
theorem b2p(c:Nat):lkK NUM (.inr ⟨#[c]⟩)=if good c then some (.inl (gd c))else none:=by
 unfold NUM;rw[t48,t43,t45];unfold lkK lkK lkK lkK
 by_cases h2:c=43
 ·rw[Qn (a3U h2)];subst h2;rfl
 rw[Qr (a3T h2)]
 by_cases h3:c=45
 ·rw[Qn (a3U h3)];subst h3;rfl
 rw[Qr (a3T h3)]
 by_cases h1:c=48
 ·rw[Qn (a3U h1)];subst h1;rfl
 rw[Qr (a3T h1)];have:good c=false:=by
  unfold good;rw[Qa.mpr h1,Qa.mpr h2,Qa.mpr h3]
  rfl
 rw[this]
 rfl
theorem b2q(w:List Nat):signs (sW w)=w.map fun c=>D.str ⟨#[c]⟩:=rfl
theorem c0t{c:Nat}(h:c<128):dEq false (.str ⟨#[c]⟩) (.str "/")=some (.bl (c==47)):=by
 have ok:∀c,c<128->shp (.str ⟨#[c]⟩)=true:=fun c h=>by
  show SeqAt.shaped (PyData.str ⟨#[c]⟩)=true;unfold SeqAt.shaped;have hx:PyData.strOk ⟨#[c]⟩=true:=by
   unfold PyData.strOk;rw[←Array.all_toList,Qv];intro d hd;have:d=c:=by simpa using hd
   subst this;exact Yj (by omega)
  simp only[PyData.canLay0,PyData.depth,hx,Ze]
  rfl
 rw[st1];unfold dEq;rw[ok c h,ok 47 (by decide)]
 have e:PyData.eqv (toP (.str ⟨#[c]⟩)) (toP (.str ⟨#[47]⟩))=(c==47):=by
  show((⟨#[c]⟩:Str)==⟨#[47]⟩)=_
  by_cases hc:c=47
  ·subst hc;rfl
  ·rw[Qa.mpr hc]
   exact Qa.mpr fun z=>hc (by
    have z2:=Jr (fun s:Str=>s.cps.toList) z
    have z3:[c]=[47]:=z2
    exact(List.cons.inj z3).1)
 rw[e]
 rfl
def rows(x:Str):OI:=(spl 47 x.cps.toList).map fun w=>w.map gd
def ntb(x:Str):Bool:=x.cps.toList.all okc&&isT (dT (rows x))
theorem a1v(x:Str):x.cps.toList.length=x.length:=by show _=x.cps.size;simp
theorem dsplit{n:Nat}{x:Str}(T:TX n x)(hn:n≤900):a2U (.str x) (.str "/")=some ((spl 47 x.cps.toList).map fun w=>D.str (sW w)):=by
 unfold a2U;dsimp only;rw[c0r x,Qn,Zc]
 ·rfl
 ·have a:=T.len
  have l:=a1v x
  have m:=a5Z x.cps.toList
  simp only[Qy,Up,Zf,Qv,Qk];refine⟨⟨by decide+kernel,fun y hy=>?_⟩,by omega⟩
  obtain⟨w,hw,rfl⟩:=Qo.mp hy;have:=a5Y hw;show w.toArray.size≤_;rw[Qp]
  omega
theorem b2r{n:Nat}{x:Str}(T:TX n x)(hn:n≤900)(hok:x.cps.toList.all okc=true):a2n [.dat (.str x)]=some (.d (dT (rows x)),[.dat (.str x)]):=by
 have hsp:a1H (z0_ 0) (mC (.str "/")) [.dat (.str x)]=some (((spl 47 x.cps.toList).map fun w=>D.str (sW w)),[.dat (.str x)]):=by
  show(a2U (.str x) (.str "/")).map _=_;rw[dsplit T hn]
  rfl
 have a:=T.len
 have l:=a1v x
 have m:=a5Z x.cps.toList
 refine a2l (env:=[.dat (.str x)]) ?_ rfl;show a8h [.dat (.str x)]=_;unfold a8h;refine a0h (a0q (k2_ (g0_ (a3K (α:=List Nat) (l:=spl 47 x.cps.toList) (q:=fun w=>.str (sW w)) (f:=fun w=>dR (w.map gd)) (base:=[.nil]) (a3A (g0_ hsp) rfl) (by omega) rfl rfl (fun w hw=>?_) (fun _=>rfl))) rfl) (d:=dT (rows x)) (by show some (D.tup _)=_;unfold rows dT;rw[Zc];rfl))
 have h6:=a5Y hw
 have hg:∀c∈w,good c=true:=by
  rw[←a8D,Qv]at hok;exact fun c hc=>Qv.mp (hok w hw) c hc
 refine a0q (k2_ (g0_ (a3K (α:=Nat) (l:=w) (q:=fun c=>.str ⟨#[c]⟩) (f:=fun c=>D.int (gd c)) (base:=[.nil,.nil]) (a8B (x:=sW w) rfl (fun c hc=>T.asc c (a5X _ w hw c (by simpa [sW]using hc))) (b2q w)) (by omega) rfl rfl (fun c hc=>c0n rfl rfl (by rw[b2p,Qn (hg c hc)];rfl)) (fun _=>rfl))) rfl) (d:=dR (w.map gd)) (by show some (D.tup _)=_;unfold dR;rw[Zc];rfl)
theorem b2s{n:Nat}{x:Str}(T:TX n x)(hn:n≤900):a1a [.dat (.str x)]=some (.d (.bl (ntb x)),[.dat (.str x)]):=by
 have a:=T.len
 have l:=a1v x
 have hall:mCB a1m (z2_ (mF (v6_ (a2k (z0_ 0)) [false] 1 (gN 1) v9_ (a1T (z3_ (dEq false) (z0_ 1) (mC (.str "/"))) (a4x NUM (z0_ 1))))) z5_) [.dat (.str x)]=some (.bl (x.cps.toList.all okc),[.dat (.str x)]):=by
  refine a0q (k2_ (g0_ (a3K (α:=Nat) (l:=x.cps.toList) (q:=fun c=>.str ⟨#[c]⟩) (f:=fun c=>.bl (okc c)) (base:=[.nil]) (a8B rfl T.asc rfl) (by omega) rfl rfl (fun c hc=>?_) (fun _=>rfl))) rfl) (d:=.bl (x.cps.toList.all okc)) ?_
  ·have e:=c0t (T.asc c hc)
   have hin:a4x NUM (z0_ 1) [.nil,.dat (.str ⟨#[c]⟩)]=some (.bl (good c),[.nil,.dat (.str ⟨#[c]⟩)]):=by
    show some (D.bl (lkK NUM (.inr ⟨#[c]⟩)).isSome,_)=_;rw[b2p];cases good c<;>rfl
   unfold okc;cases h:(c==47)with
   |true=>
    rw[h]at e;exact b8p (v3_ rfl rfl e)
   |false=>
    rw[h]at e;exact b8q (v3_ rfl rfl e) hin
  ·show(a0p _).map _=_
   rw[a2O]
   rfl
 refine a2l (env:=[.dat (.str x)]) ?_ rfl;show a4F [.dat (.str x)]=_;unfold a4F;refine y9_ (w0_ (e1:=[.dat (.str x)]) rfl rfl) ?_
 unfold ntb;cases hok:x.cps.toList.all okc with
 |true=>
  rw[hok]at hall;exact y9_ (w0_ (a0W (b:=true) (g1_ hall)) rfl) (a0h (c1' (c1' rfl (b2r T hn hok)) (b9w _)))
 |false=>
  rw[hok]at hall;exact j9_ (a0Z (a0W (b:=false) (g1_ hall)) rfl)
theorem c0u{n:Nat}{x:Str}(T:TX n x)(hn:n≤900)(h:ntb x=true):a0M [.dat (.str x)]=some (.d (dT (rows x)),[.dat (.str x)]):=by
 have e:=b2s T hn
 rw[h]at e;refine a2l (env:=[.dat (.str x)]) ?_ rfl;show a8i [.dat (.str x)]=_;unfold a8i;exact y9_ (w0_ (a0W (b:=true) (g1_ (c1' rfl e))) rfl) (a0h (c1' rfl (b2r T hn (Bool.and_eq_true_iff.mp h).1)))
theorem b2t{d:D}(h:a1a [.dat d]=some (.d (.bl false),[.dat d])):a1r [.dat d]=some ("BadNote":Str):=by
 show a8j [.dat d]=_;unfold a8j;exact c0i ((c0h (e1:=[.dat d]) (a0W (b:=false) (g1_ (c1' rfl h)))).trans rfl)
theorem c0v{n:Nat}{x:Str}(T:TX n x)(hn:n≤900)(h:ntb x=false):a1r [.dat (.str x)]=some ("BadNote":Str):=by
 have e:=b2s T hn
 rw[h]at e;exact b2t e
theorem b2u:a2o (some "BadNote")=some (.int 12):=c0f (by decide+kernel)
abbrev a1c:Mo Fl:=(z9_ (v2_ 4 (mCB u6_ (z2_ (mF (v6_ (a2k (z0_ 3)) [false,true,false,false,false] 1 (gN 5) v9_ (a5H (z0_ 1) (z0_ 5) (mC (.int 7))))) z5_))) (z9_ (v1_ (mT (z3_ (dIn false) (mC (.int 7)) (z0_ 4))) (q7_ (mC .non)) mNx) (a2F 2 (z0_ 4))))
abbrev GD:W:=.dat (.obj (.dk a6a))
theorem c0w(c:Nat):a5H (z0_ 1) (z0_ 5) (mC (.int 7)) [.nil,GD,.nil,.nil,.nil,.dat (.str ⟨#[c]⟩)]=some (.int (gd c),[.nil,GD,.nil,.nil,.nil,.dat (.str ⟨#[c]⟩)]):=by
 show(match lkK a6a (.inr ⟨#[c]⟩)with|none=>some ((D.int 7,_):D×Env')|some v=>(a0X v).map fun d=>(d,_))=_
 rw[c0s];have h7:=gd7 c;cases h:good c with
 |true=>rfl
 |false=>
  rw[h]at h7;have:gd c=7:=by simpa using h7
  rw[this]
  rfl
theorem b2v:∀w:List Nat,(w.map gd).contains 7=!w.all good
 |[]=>rfl
 |c::w=>by
  rw[Qg,Ut,Za,b2v w,Bool.not_and,←gd7]
  congr 1
  exact Bool.beq_comm
theorem c0x{X:W}{w:List Nat}(ha:∀c∈w,c<128)(hl:w.length≤1000){acc:List D}(hc:acc.length≤10000)(w4:W):
  a1c [X,GD,.own acc,.dat (.str (sW w)),w4]=if w.all good then some (.nx,[X,GD,.own (acc++[dR (w.map gd)]),.dat (.str (sW w)),.dat (dR (w.map gd))])else some (.ret .non,[X,GD,.own acc,.dat (.str (sW w)),.dat (dR (w.map gd))]):=by
 have hin:z3_ (dIn false) (mC (.int 7)) (z0_ 4) [X,GD,.own acc,.dat (.str (sW w)),.dat (dR (w.map gd))]=some (.bl (!w.all good),[X,GD,.own acc,.dat (.str (sW w)),.dat (dR (w.map gd))]):=by
  refine v3_ rfl rfl ?_
  show(ints? ((w.map gd).map D.int)).map _=_;rw[b8i,←b2v]
  rfl
 unfold a1c;refine y9_ (a0u (e1:=[X,GD,.own acc,.dat (.str (sW w)),w4]) (e2:=[X,GD,.own acc,.dat (.str (sW w)),.dat (dR (w.map gd))]) (d:=dR (w.map gd)) (a0q (k2_ (g0_ (a3K (α:=Nat) (l:=w) (q:=fun c=>.str ⟨#[c]⟩) (f:=fun c=>D.int (gd c)) (base:=[.nil,GD,.nil,.nil,.nil]) (a8B (x:=sW w) rfl (fun c hc=>ha c (by simpa [sW]using hc)) (b2q w)) (by omega) rfl rfl (fun c hc=>c0w c) (fun _=>rfl))) rfl) (by show some (D.tup _)=_;unfold dR;rw[Zc];rfl)) rfl) ?_
 cases h:w.all good with
 |true=>
  rw[h]at hin;refine y9_ (w0_ (g1_ hin) rfl) ?_
  rw[Qn rfl];exact(b8j (w:=.own acc) (w':=.own acc) (ds:=acc) (ds':=acc) (env':=[X,GD,.own acc,.dat (.str (sW w)),.dat (dR (w.map gd))]) rfl rfl rfl rfl rfl (by omega)).trans rfl
 |false=>
  rw[h]at hin;rw[Qr (by simp)]
  exact j9_ (a0Z (g1_ hin) rfl)
theorem b2w{X:W}:∀(ws:List (List Nat)),(∀w∈ws,(∀c∈w,c<128)/\w.length≤1000)->∀(acc:OI),acc.length+ws.length≤10000->∀w3 w4:W,
  ((ws.all fun w=>w.all good)=true->∃w3' w4',loop (gN 3) a1c (ws.map fun w=>D.str (sW w)) [X,GD,.own (acc.map dR),w3,w4]=some (.nx,[X,GD,.own ((acc++ws.map fun w=>w.map gd).map dR),w3',w4']))/\
  ((ws.all fun w=>w.all good)=false->∃e',loop (gN 3) a1c (ws.map fun w=>D.str (sW w)) [X,GD,.own (acc.map dR),w3,w4]=some (.ret .non,e'))
 |[],_,acc,_,w3,w4=>⟨fun _=>⟨w3,w4,by rw[show List.map (fun w=>List.map gd w) ([]:List (List Nat))=[]from rfl,Je];rfl⟩,fun h=>by cases h⟩
 |w::ws,hw,acc,hl,w3,w4=>by
  obtain⟨h1,h2⟩:=hw w (Zz ..);rw[Zq]at hl;have t:=c0x (X:=X) h1 h2 (acc:=acc.map dR) (by rw[Qk];omega) w4
  have g1:gN 3 (D.str (sW w)) [X,GD,.own (acc.map dR),w3,w4]=some [X,GD,.own (acc.map dR),.dat (.str (sW w)),w4]:=rfl
  rw[Za];cases hg:w.all good with
  |true=>
   rw[hg,Qn rfl]at t;have ih:=b2w (X:=X) ws (fun v hv=>hw v (Qe _ hv)) (acc++[w.map gd]) (by rw[Qs];simp only[Zq,Jp];omega) (.dat (.str (sW w))) (.dat (dR (w.map gd)))
   have st:loop (gN 3) a1c ((w::ws).map fun w=>D.str (sW w)) [X,GD,.own (acc.map dR),w3,w4]=loop (gN 3) a1c (ws.map fun w=>D.str (sW w)) [X,GD,.own (acc.map dR++[dR (w.map gd)]),.dat (.str (sW w)),.dat (dR (w.map gd))]:=by
    rw[Qg];show((gN 3 _ _).bind _)=_;rw[g1,Qx,t]
    rfl
   rw[st];rw[Jf]at ih;rw[Ze];rw[Uj]at ih;exact ih
  |false=>
   rw[hg,Qr (by simp)]at t
   have st:loop (gN 3) a1c ((w::ws).map fun w=>D.str (sW w)) [X,GD,.own (acc.map dR),w3,w4]=some (.ret .non,[X,GD,.own (acc.map dR),.dat (.str (sW w)),.dat (dR (w.map gd))]):=by
    rw[Qg];show((gN 3 _ _).bind _)=_;rw[g1,Qx,t]
    rfl
   rw[st];exact⟨fun h=>by simp at h,fun _=>⟨_,rfl⟩⟩
theorem c0y{n:Nat}{x:Str}(T:TX n x)(hn:n≤900):∃ws,a2r [.dat (.str x)]=some (.d (if ntb x then dT (rows x)else .non),ws):=by
 have a:=T.len
 have l:=a1v x
 have m:=a5Z x.cps.toList
 have hsp:a1H (z0_ 0) (mC (.str "/")) [.dat (.str x),GD,.own [],.nil,.nil]=some (((spl 47 x.cps.toList).map fun w=>D.str (sW w)),[.dat (.str x),GD,.own [],.nil,.nil]):=by
  show(a2U (.str x) (.str "/")).map _=_;rw[dsplit T hn]
  rfl
 have L:=b2w (X:=.dat (.str x)) (spl 47 x.cps.toList) (fun w hw=>⟨fun c hc=>T.asc c (a5X _ w hw c hc),by have:=a5Y hw;omega⟩) [] (by simp only[Jp];omega) .nil .nil
 rw[a8D]at L;have hf:j3_ (y6_ (mF (a1H (z0_ 0) (mC (.str "/"))))) (gN 3) a1c [.dat (.str x),GD,.own [],.nil,.nil]=loop (gN 3) a1c ((spl 47 x.cps.toList).map fun w=>D.str (sW w)) [.dat (.str x),GD,.own [],.nil,.nil]:=a3B (a3A (g0_ hsp) rfl)
 cases hok:x.cps.toList.all okc with
 |false=>
  have hb:ntb x=false:=by unfold ntb;rw[hok];rfl
  rw[hb];obtain⟨e',he⟩:=L.2 hok;refine⟨_,a2l (env:=e') ?_ rfl⟩;show a4L [.dat (.str x),.nil,.nil,.nil,.nil]=_;have he':loop (gN 3) a1c ((spl 47 x.cps.toList).map fun w=>D.str (sW w)) [.dat (.str x),GD,.own [],.nil,.nil]=some (.ret .non,e'):=he
  unfold a4L;refine y9_ (a0u (e1:=[.dat (.str x),.nil,.nil,.nil,.nil]) (e2:=[.dat (.str x),GD,.nil,.nil,.nil]) rfl rfl) ?_
  refine y9_ (a5I (e1:=[.dat (.str x),GD,.nil,.nil,.nil]) (e2:=[.dat (.str x),GD,.own [],.nil,.nil]) rfl rfl) ?_
  exact j9_ (hf.trans he')
 |true=>
  obtain⟨w3,w4,he⟩:=L.1 hok;have hb:ntb x=isT (dT (rows x)):=by unfold ntb;rw[hok];rfl
  rw[hb];have he':loop (gN 3) a1c ((spl 47 x.cps.toList).map fun w=>D.str (sW w)) [.dat (.str x),GD,.own [],.nil,.nil]=some (.nx,[.dat (.str x),GD,.own ((rows x).map dR),w3,w4]):=by
   rw[Vd]at he;exact he
  have ht:=b9H (dT (rows x))
  have hcall:mCD 1 a3Q (z7_ (mCB u6_ (z2_ (z0_ 2) z5_)) q0_) [.dat (.str x),GD,.own ((rows x).map dR),w3,w4]=some (.bl (isT (dT (rows x))),[.dat (.str x),GD,.dat (.lst ((rows x).map dR)),w3,w4]):=a4A (av:=[.d (dT (rows x))]) rfl rfl rfl ht
  refine⟨_,a2l (env:=[.dat (.str x),GD,.dat (.lst ((rows x).map dR)),w3,w4]) ?_ rfl⟩;show a4L [.dat (.str x),.nil,.nil,.nil,.nil]=_;unfold a4L;refine y9_ (a0u (e1:=[.dat (.str x),.nil,.nil,.nil,.nil]) (e2:=[.dat (.str x),GD,.nil,.nil,.nil]) rfl rfl) ?_
  refine y9_ (a5I (e1:=[.dat (.str x),GD,.nil,.nil,.nil]) (e2:=[.dat (.str x),GD,.own [],.nil,.nil]) rfl rfl) ?_
  refine y9_ (hf.trans he') ?_
  cases hT:isT (dT (rows x))with
  |true=>
   rw[hT]at hcall;exact y9_ (w0_ (a0W (b:=true) (g1_ hcall)) rfl) rfl
  |false=>
   rw[hT]at hcall;exact j9_ (a0Z (a0W (b:=false) (g1_ hcall)) rfl)
theorem c0z{n:Nat}{x:Str}(T:TX n x)(hn:n≤900):∃ws,a0l 6 [.dat (dT (rows x)),.dat (dT (rows x))]=some (.d (.bl true),ws):=by
 have a:=T.len
 have l:=a1v x
 have m:=a5Z x.cps.toList
 refine b2o (k:=5) (by rw[Qk];unfold rows;rw[Qk];omega) fun y hy=>?_
 obtain⟨r,hr,rfl⟩:=Qo.mp hy;unfold rows at hr;obtain⟨w,hw,rfl⟩:=Qo.mp hr;refine b2o (k:=4) (by rw[Qk,Qk];have:=a5Y hw;omega) fun z hz=>?_
 obtain⟨i,_,rfl⟩:=Qo.mp hz;exact⟨_,c0e 3 i⟩
theorem TX.mono{n m:Nat}{x:Str}(T:TX n x)(h:n≤m):TX m x:=⟨Qt T.len h,T.asc⟩
theorem TX.cat{n m:Nat}{x y:Str}(T:TX n x)(U:TX m y):TX (n+m) (x++y):=by
 refine⟨by rw[a7G];have:=T.len;have:=U.len;omega,fun c hc=>?_⟩
 have:c∈(x.cps++y.cps).toList:=hc;rw[Vi]at this
 rcases Yx.mp this with h|h
 ·exact T.asc c h
 ·exact U.asc c h
theorem a8E{x:Str}{lo hi:Option Int}{st:Int}{c:Nat}(h:c∈(a0t x lo hi st).cps.toList):c∈x.cps.toList:=by
 unfold a0t at h;obtain⟨i,_,e⟩:=Ys.mp h;exact Array.mem_toList_iff.mpr (Array.mem_of_getElem? e)
theorem c0A{x:Str}{lo hi:Option Int}{c:Nat}(h:c∈(a0Y x lo hi).cps.toList):c∈x.cps.toList:=by
 unfold a0Y at h;split at h
 ·exact h
 ·exact a8E h
theorem TX.cut{n:Nat}{x:Str}(T:TX n x)(lo hi:Option Int):TX n (a0Y x lo hi):=⟨Qt (a7H x lo hi) T.len,fun c hc=>T.asc c (c0A hc)⟩
theorem TX.rev{n:Nat}{x:Str}(T:TX n x):TX n (a0t x none none (-1)):=⟨Qt (a4y x) T.len,fun c hc=>T.asc c (a8E hc)⟩
theorem a4R{x y:Str}(h:x.length+y.length≤10000):a0s (.str x) (.str y)=some (.str (x++y)):=by
 show(if x.length+y.length≤10000 then some (D.str (x++y))else none)=_
 rw[Qn h]
def wt(ss:List Str):Nat:=(ss.map fun s=>s.length+1).sum
theorem a0O(s:Str)(ss:List Str):wt (s::ss)=s.length+1+wt ss:=by unfold wt;rw[Qg,Ym]
theorem b2x(ss ts:List Str):wt (ss++ts)=wt ss+wt ts:=by unfold wt;rw[Uj,List.sum_append]
theorem b2y{s:Str}{ss:List Str}(h:s∈ss):s.length+1≤wt ss:=a8C (fun s:Str=>s.length+1) h
theorem a8F:∀ss:List Str,ss.length≤wt ss
 |[]=>Qw _
 |s::ss=>by rw[a0O,Zq];have:=a8F ss;omega
theorem a8G:∀(ss:List Str) (i:Nat),wt (ss.eraseIdx i)≤wt ss
 |[],_=>Qw _
 |s::ss,0=>by rw[a0O];show wt ss≤_;omega
 |s::ss,i+1=>by
  show wt (s::ss.eraseIdx i)≤_;rw[a0O,a0O];have:=a8G ss i
  omega
theorem a6b:∀(ss:List Str) (i:Nat) (h:i<ss.length) (t:Str),wt (ss.set i t)+ss[i].length=wt ss+t.length
 |s::ss,0,_,t=>by
  show wt (t::ss)+s.length=_;rw[a0O,a0O];omega
 |s::ss,i+1,h,t=>by
  have hi:i<ss.length:=by simpa using h
  show wt (s::ss.set i t)+(ss[i]'hi).length=_;rw[a0O,a0O];have:=a6b ss i hi t
  omega
theorem c0B(ss:List Str)(i:Nat)(t:Str):wt (a0k ss i t)=wt ss+(t.length+1):=by
 unfold a0k;have h:wt (ss.take i)+wt (ss.drop i)=wt ss:=by rw[←b2x,List.take_append_drop]
 rw[b2x,a0O]
 omega
structure WS(n:Nat)(ss:List Str):Prop where
 w:wt ss≤n+1
 a:∀s∈ss,∀c∈s.cps.toList,c<128
theorem c0C(s:Str)(ss:List Str):(Txt.join "/" (s::ss)).length+1=wt (s::ss):=by
 have e:(Txt.join "/" (s::ss)).length=(Txt.join "/" (s::ss)).cps.toList.length:=(a1v _).symm
 rw[e,a5V,Qs,a0O,a1v,st1];have h:∀ps:List Str,(ps.flatMap fun q=>(⟨#[47]⟩:Str).cps.toList++q.cps.toList).length=wt ps:=by
  intro ps
  induction ps with
  |nil=>rfl
  |cons p ps ih=>
   have l:=a1v p
   have e1:((⟨#[47]⟩:Str).cps.toList++p.cps.toList).length=1+p.length:=by rw[Qs,l];rfl
   rw[Ub,Qs,ih,a0O,e1]
   omega
 rw[h]
 omega
theorem WS.join{n:Nat}{ss:List Str}(H:WS n ss):TX n (Txt.join "/" ss):=by
 cases ss with
 |nil=>exact⟨Jd _,fun c hc=>by cases hc⟩
 |cons s ss=>
  refine⟨by have:=c0C s ss;have:=H.w;omega,fun c hc=>?_⟩
  rw[a5V,st1]at hc
  rcases Yx.mp hc with h|h
  ·exact H.a s (Zz ..) c h
  ·obtain⟨q,hq,h⟩:=List.mem_flatMap.mp h
   rcases Yx.mp h with h|h
   ·have:c=47:=by
     have h':c∈[47]:=h
     simpa using h'
    omega
   ·exact H.a q (Qe _ hq) c h
theorem WS.dj{n:Nat}{ss:List Str}(H:WS n ss)(hn:n≤1990)(hs:∀s∈ss,s.length≤1000)(hl:ss.length≤1000):a0L (.str "/") (.lst (ss.map D.str))=some (.str (Txt.join "/" ss)):=by
 have h:=a8A (α:=Str) (x:="/") (g:=fun s=>s) (l:=ss) (by decide+kernel) hs hl (by rw[List.map_id'];have:=H.join.len;omega)
 rw[List.map_id']at h;exact h
theorem c0D{n:Nat}{x:Str}(T:TX n x):WS n ((spl 47 x.cps.toList).map sW):=by
 refine⟨?_,fun s hs c hc=>?_⟩
 ·have a:=a5W x.cps.toList
  have l:=a1v x
  have b:=T.len
  have:wt ((spl 47 x.cps.toList).map sW)=((spl 47 x.cps.toList).map List.length).sum+(spl 47 x.cps.toList).length:=by
   generalize spl 47 x.cps.toList=ws
   induction ws with
   |nil=>rfl
   |cons w ws ih=>
    rw[Qg,a0O,ih,Qg,Ym,Zq];show w.toArray.size+1+_=_;rw[Qp]
    omega
  omega
 ·obtain⟨w,hw,rfl⟩:=Qo.mp hs
  exact T.asc c (a5X _ w hw c (by simpa [sW]using hc))
theorem WS.erase{n:Nat}{ss:List Str}(H:WS n ss)(i:Nat):WS n (ss.eraseIdx i):=
 ⟨Qt (a8G ss i) H.w,fun s hs=>H.a s (List.mem_of_mem_eraseIdx hs)⟩
theorem WS.ins{n:Nat}{ss:List Str}(H:WS n ss)(i:Nat){t:Str}(ht:t∈ss):WS (2 * n+2) (a0k ss i t):=by
 refine⟨by rw[c0B];have:=H.w;have:=b2y ht;omega,fun s hs=>?_⟩
 unfold a0k at hs
 rcases Yx.mp hs with h|h
 ·exact H.a s (List.mem_of_mem_take h)
 ·rcases Qm.mp h with rfl|h
  ·exact H.a s ht
  ·exact H.a s (List.mem_of_mem_drop h)
theorem a3V{α:Type}{l:List α}{i:Nat}{a x:α}(h:x∈l.set i a):x∈l∨x=a:=List.mem_or_eq_of_mem_set h
theorem WS.swap{n:Nat}{ss:List Str}(H:WS n ss){i j:Nat}(hi:i<ss.length)(hj:j<ss.length):WS n ((ss.set i ss[j]).set j ss[i]):=by
 refine⟨?_,fun s hs=>?_⟩
 ·have a:=a6b ss i hi ss[j]
  have hj':j<(ss.set i ss[j]).length:=by rw[Zv];exact hj
  have b:=a6b (ss.set i ss[j]) j hj' ss[i]
  have c:(ss.set i ss[j])[j]=ss[j]:=by
   rw[List.getElem_set];split<;>rfl
  rw[c]at b;have:=H.w
  omega
 ·rcases a3V hs with h|rfl
  ·rcases a3V h with h|rfl
   ·exact H.a s h
   ·exact H.a _ (Zg hj)
  ·exact H.a _ (Zg hi)
theorem WS.rev{n:Nat}{ss:List Str}(H:WS n ss){i:Nat}(hi:i<ss.length):WS n (ss.set i (a0t ss[i] none none (-1))):=by
 refine⟨?_,fun s hs=>?_⟩
 ·have a:=a6b ss i hi (a0t ss[i] none none (-1))
  have b:=a4y ss[i]
  have:=H.w
  omega
 ·rcases a3V hs with h|rfl
  ·exact H.a s h
  ·exact fun c hc=>H.a _ (Zg hi) c (a8E hc)
theorem c0E{i:Nat}{e e1:Env'}{w0 w:W}{c0:Mu}{a k:Int}{b:Bool}{M:Mo D}(hw0:e[i]? =some w0)(hm0:w0.mut=some c0)(hM:M e=some (.int k,e1))(hw:e1[i]? =some w)(hm:w.mutL=some [.int a,.bl b])(ha:0≤a)(h1:1≤k)(h2:k<1073741824):
  ∃v a',mCD 2 x4_ (y8_ i (z7_ M q0_)) e=some (.int v,e1.set i (w.put [.int a',.bl b]))/\0≤v/\v<k/\0≤a':=by
 obtain⟨v,a',et,v0,v1,a0⟩:=a5Q (a:=a) (m:=k) (b:=b) ha h1 h2;exact⟨v,a',a0J (a3C (av:=[.sl i,.d (.int k)]) (c:=[.int a,.bl b]) (c0g hw0 hm0 (a1E hM rfl)) rfl rfl hw hm et rfl),v0,v1,a0⟩
abbrev SG1:Str:="0+-/0+- 123456789none_.,:abcdfghijklmpqrstuvwxyz"
abbrev SG2:Str:="ABCDEFGHIJKLMNOPQRSTUVWXYZ!#$&'()*;<=>?@\x5b]^|~`{}\\\""
def SG:Str:=SG1++SG2
theorem c0F:SG.cps.toList.all (fun c=>decide (c<128))=true:=by decide+kernel
theorem c0G:7≤SG.length:=by decide+kernel
theorem c0H:SG.length≤1000:=by decide+kernel
theorem c0I:SG1.length+SG2.length≤10000:=by decide+kernel
theorem ixS{z:Str}{v:Int}(h0:0≤v)(h1:v<z.length):∃c,c∈z.cps.toList/\a5F (.str z) (.int v)=some (.str ⟨#[c]⟩):=by
 have l:=a1v z
 have hv:v.toNat<z.cps.toList.length:=by omega
 refine⟨z.cps.toList[v.toNat],Zg hv,?_⟩;have h:=a1y (Zx hv);rw[show((v.toNat:Nat):Int)=v by omega]at h
 show(atI z.cps.toList v).map _=_;rw[h]
 rfl
abbrev fr(a:Int)(b:Bool)(x:Str)(w2 w3 w4 w5 w6 w7 w8:W):Env':=[.par [.int a,.bl b],.dat (.str x),w2,w3,w4,w5,w6,w7,w8]
section
variable{a:Int}{b:Bool}{x:Str}{w2 w3 w4 w5 w6 w7 w8:W}{n:Nat}
theorem c0J{ss:List Str}(H:WS n ss)(hn:n≤1990)(hs:∀s∈ss,s.length≤1000)(hl:ss.length≤1000):q7_ (z3_ a0L (mC (.str "/")) (z0_ 6)) (fr a b x w2 w3 w4 w5 (.own (ss.map D.str)) w7 w8)=some (.ret (.str (Txt.join "/" ss)),fr a b x w2 w3 w4 w5 (.dat (.lst (ss.map D.str))) w7 w8):=
 a0h (v3_ rfl rfl (H.dj hn hs hl))
theorem a6c{ss:List Str}{v:Int}(h0:0≤v)(h1:v<ss.length)(hv:v.toNat<ss.length):dIx (.lst (ss.map D.str)) (.int v)=some (.str ss[v.toNat]):=by
 have h:=a1y (xs:=ss.map D.str) (j:=v.toNat) (x:=.str ss[v.toNat]) (by rw[Zi,Zx hv];rfl)
 rw[show((v.toNat:Nat):Int)=v by omega]at h
 exact h
theorem b2z{α β:Type}(f:α->β):∀(l:List α) (i:Nat),(l.map f).eraseIdx i=(l.eraseIdx i).map f
 |[],_=>rfl
 |_::_,0=>rfl
 |x::l,i+1=>by
  show f x::(l.map f).eraseIdx i=f x::(l.eraseIdx i).map f;rw[b2z f l i]
theorem c0K{ss:List Str}{v:Int}(h0:0≤v)(h1:v<ss.length)(hs:ss.length≤1000):a2P (a4u 6 (z0_ 7)) (fr a b x w2 w3 w4 w5 (.own (ss.map D.str)) (.dat (.int v)) w8)=some (.nx,fr a b x w2 w3 w4 w5 (.own ((ss.eraseIdx v.toNat).map D.str)) (.dat (.int v)) w8):=by
 have hv:v.toNat<ss.length:=by omega
 refine b6q (d:=.str ss[v.toNat]) ?_
 show(if-1000000<v/\v<1000000 then(ixN (ss.map D.str).length v).bind fun j=>((ss.map D.str)[j]?).map fun d=>(d,fr a b x w2 w3 w4 w5 (.own ((ss.map D.str).eraseIdx j)) (.dat (.int v)) w8)else none)=_
 rw[Qn (by omega),Qk,a5T h0 h1,Qx,Zi,Zx hv,b2z]
 rfl
theorem c0L{ss:List Str}{v u:Int}(h0:0≤v)(h1:v<ss.length)(g0:0≤u)(g1:u<ss.length)(hv:v.toNat<ss.length)(hs:ss.length≤1000):a4z 6 (z0_ 8) (y7_ 6 (z0_ 7)) (fr a b x w2 w3 w4 w5 (.own (ss.map D.str)) (.dat (.int v)) (.dat (.int u)))=some (.nx,fr a b x w2 w3 w4 w5 (.own ((a0k ss u.toNat ss[v.toNat]).map D.str)) (.dat (.int v)) (.dat (.int u))):=by
 have h2:y7_ 6 (z0_ 7) (fr a b x w2 w3 w4 w5 (.own (ss.map D.str)) (.dat (.int v)) (.dat (.int u)))=some (.str ss[v.toNat],fr a b x w2 w3 w4 w5 (.own (ss.map D.str)) (.dat (.int v)) (.dat (.int u))):=by
  show(dIx (.lst (ss.map D.str)) (.int v)).map _=_;rw[a6c h0 h1 hv]
  rfl
 show((y7_ 6 (z0_ 7) (fr a b x w2 w3 w4 w5 (.own (ss.map D.str)) (.dat (.int v)) (.dat (.int u)))).bind _)=_;rw[h2,Qx];show(if 0≤u/\u≤((ss.map D.str).length:Nat)/\(ss.map D.str).length<10000 then some (Fl.nx,fr a b x w2 w3 w4 w5 (.own (a0k (ss.map D.str) u.toNat (.str ss[v.toNat]))) (.dat (.int v)) (.dat (.int u)))else none)=_
 rw[Qk,Qn (by omega)]
 unfold a0k;rw[Uj,Qg,List.map_take,List.map_drop]
theorem c0M{ss:List Str}{v u:Int}(h0:0≤v)(h1:v<ss.length)(g0:0≤u)(g1:u<ss.length)(hv:v.toNat<ss.length)(hu:u.toNat<ss.length):(u2_ (x7_ (z2_ (y7_ 6 (z0_ 8)) (z2_ (y7_ 6 (z0_ 7)) z5_))) (gT 2 (gCn (gS 6 (z0_ 7)) (gCn (gS 6 (z0_ 8)) gNl)))) (fr a b x w2 w3 w4 w5 (.own (ss.map D.str)) (.dat (.int v)) (.dat (.int u)))=some (.nx,fr a b x w2 w3 w4 w5 (.own (((ss.set v.toNat ss[u.toNat]).set u.toNat ss[v.toNat]).map D.str)) (.dat (.int v)) (.dat (.int u))):=by
 have m1:(y7_ 6 (z0_ 8)) (fr a b x w2 w3 w4 w5 (.own (ss.map D.str)) (.dat (.int v)) (.dat (.int u)))=some (.str ss[u.toNat],fr a b x w2 w3 w4 w5 (.own (ss.map D.str)) (.dat (.int v)) (.dat (.int u))):=by
  show(dIx (.lst (ss.map D.str)) (.int u)).map _=_;rw[a6c g0 g1 hu];rfl
 have m2:(y7_ 6 (z0_ 7)) (fr a b x w2 w3 w4 w5 (.own (ss.map D.str)) (.dat (.int v)) (.dat (.int u)))=some (.str ss[v.toNat],fr a b x w2 w3 w4 w5 (.own (ss.map D.str)) (.dat (.int v)) (.dat (.int u))):=by
  show(dIx (.lst (ss.map D.str)) (.int v)).map _=_;rw[a6c h0 h1 hv];rfl
 have m3:=b8m (ds:=[.str ss[u.toNat],.str ss[v.toNat]]) (k2_ m1 (k2_ m2 (ds:=[]) (ms:=z5_) (e2:=fr a b x w2 w3 w4 w5 (.own (ss.map D.str)) (.dat (.int v)) (.dat (.int u))) rfl)) (by simp)
 unfold u2_;rw[m3];show(((ixN (ss.map D.str).length v).map _).bind _).map _=_;rw[Qk,a5T h0 h1];show((((ixN ((ss.map D.str).set v.toNat (.str ss[u.toNat])).length u).map _).bind _).map _)=_;rw[Zv,Qk,a5T g0 g1];rw[List.map_set,List.map_set]
 rfl
theorem c0N{ss:List Str}{v:Int}(h0:0≤v)(h1:v<ss.length)(hv:v.toNat<ss.length):(u2_ (a2V (y7_ 6 (z0_ 7))) (gS 6 (z0_ 7))) (fr a b x w2 w3 w4 w5 (.own (ss.map D.str)) (.dat (.int v)) w8)=some (.nx,fr a b x w2 w3 w4 w5 (.own ((ss.set v.toNat (a0t ss[v.toNat] none none (-1))).map D.str)) (.dat (.int v)) w8):=by
 have m2:(y7_ 6 (z0_ 7)) (fr a b x w2 w3 w4 w5 (.own (ss.map D.str)) (.dat (.int v)) w8)=some (.str ss[v.toNat],fr a b x w2 w3 w4 w5 (.own (ss.map D.str)) (.dat (.int v)) w8):=by
  show(dIx (.lst (ss.map D.str)) (.int v)).map _=_;rw[a6c h0 h1 hv];rfl
 have m3:(a2V (y7_ 6 (z0_ 7))) (fr a b x w2 w3 w4 w5 (.own (ss.map D.str)) (.dat (.int v)) w8)=some (.str (a0t ss[v.toNat] none none (-1)),fr a b x w2 w3 w4 w5 (.own (ss.map D.str)) (.dat (.int v)) w8):=by
  unfold a2V;rw[m2]
  rfl
 unfold u2_;rw[m3];show((ixN (ss.map D.str).length v).map _).map _=_;rw[Qk,a5T h0 h1,List.map_set]
 rfl
end
theorem c0O{n:Nat}{a:Int}{b:Bool}{x:Str}(T:TX n x)(hn:n≤900)(ha:0≤a):∃y a',a1t [.par [.int a,.bl b],.dat (.str x)]=some (.d (.str y),[.par [.int a',.bl b],.dat (.str x)])/\0≤a'/\TX (2 * n+8) y:=by
 have tl:=T.len
 obtain⟨v1,a1,t1,p1,q1,a10⟩:=a3b (i:=0) (e:=fr a b x .nil .nil .nil .nil .nil .nil .nil) (w:=.par [.int a,.bl b]) (k:=9) (M:=mC (.int 9)) rfl rfl rfl ha (by decide) (by decide)
 obtain⟨v2,a2,t2,p2,q2,a20⟩:=a3b (i:=0) (e:=fr a1 b x (.dat (.int v1)) .nil .nil .nil .nil .nil .nil) (w:=.par [.int a1,.bl b]) (k:=(x.length:Int)+1) (M:=z3_ y4_ (mCB a3I (z2_ (z0_ 1) z5_)) (mC (.int 1))) rfl rfl rfl a10 (by omega) (by omega)
 obtain⟨v3,a3,t3,p3,q3,a30⟩:=a3b (i:=0) (e:=fr a2 b x (.dat (.int v1)) (.dat (.int v2)) (.dat (.str SG)) .nil .nil .nil .nil) (w:=.par [.int a2,.bl b]) (k:=2) (M:=mC (.int 2)) rfl rfl rfl a20 (by decide) (by decide)
 obtain⟨k,hk,ek⟩:=c0c (L:=[7,(SG.length:Int)]) (v:=v3) p3 q3;have hk7:7≤k/\k≤SG.length:=by
  have:=c0G
  rcases Qm.mp hk with rfl|hk
  ·omega
  ·have:k=SG.length:=by simpa using hk
   omega
 have hsh:=c0H
 obtain⟨v4,a4,t4,p4,q4,a40⟩:=c0E (i:=0) (e:=fr a2 b x (.dat (.int v1)) (.dat (.int v2)) (.dat (.str SG)) .nil .nil .nil .nil) (e1:=fr a3 b x (.dat (.int v1)) (.dat (.int v2)) (.dat (.str SG)) .nil .nil .nil .nil) (w0:=.par [.int a2,.bl b]) (w:=.par [.int a3,.bl b]) (k:=k) (M:=z3_ dIx (mF (k4_ (z2_ (mC (.int 7)) (z2_ (mCB a3I (z2_ (z0_ 4) z5_)) z5_)))) (mCD 2 x4_ (y8_ 0 (z7_ (mC (.int 2)) q0_)))) rfl rfl
  (v3_ (g0_ (a5U (ds:=[.int 7,.int SG.length]) rfl (by decide))) t3 ek) rfl rfl a30 (by omega) (by omega)
 obtain⟨c,hc,ec⟩:=ixS (z:=SG) (v:=v4) p4 (by omega)
 have hc128:c<128:=Uu (Qv.mp c0F c hc)
 have TS:TX 1 ⟨#[c]⟩:=⟨Qw _,fun d hd=>(show d=c by simpa using hd) ▸ hc128⟩
 have s1:(v2_ 2 (mCD 2 x4_ (y8_ 0 (z7_ (mC (.int 9)) q0_)))) (fr a b x .nil .nil .nil .nil .nil .nil .nil)=some (.nx,fr a1 b x (.dat (.int v1)) .nil .nil .nil .nil .nil .nil):=a0u t1 rfl
 have s2:(v2_ 3 (mCD 2 x4_ (y8_ 0 (z7_ (z3_ y4_ (mCB a3I (z2_ (z0_ 1) z5_)) (mC (.int 1))) q0_)))) (fr a1 b x (.dat (.int v1)) .nil .nil .nil .nil .nil .nil)=some (.nx,fr a2 b x (.dat (.int v1)) (.dat (.int v2)) .nil .nil .nil .nil .nil):=a0u t2 rfl
 have s4:(v2_ 4 (z3_ a0s (z0_ 4) (mC (.str SG2)))) (fr a2 b x (.dat (.int v1)) (.dat (.int v2)) (.dat (.str SG1)) .nil .nil .nil .nil)=some (.nx,fr a2 b x (.dat (.int v1)) (.dat (.int v2)) (.dat (.str SG)) .nil .nil .nil .nil):=a0u (v3_ rfl rfl (a4R c0I)) rfl
 have s5:=a0u (i:=5) (e2:=fr a4 b x (.dat (.int v1)) (.dat (.int v2)) (.dat (.str SG)) (.dat (.str ⟨#[c]⟩)) .nil .nil .nil) (v3_ (f:=a5F) (ma:=z0_ 4) (env:=fr a2 b x (.dat (.int v1)) (.dat (.int v2)) (.dat (.str SG)) .nil .nil .nil .nil) rfl t4 ec) rfl
 have run:∀{y:Str}{r:Env'}{a':Int},0≤a'->TX (2 * n+8) y->a0B [.par [.int a,.bl b],.dat (.str x)] r=[.par [.int a',.bl b],.dat (.str x)]->(z9_ (v1_ (mT (z3_ dLt (z0_ 2) (mC (.int 4)))) (q7_ (z3_ dIx (mF (k4_ (z2_ (z3_ a0s (a0c (z0_ 1) u9_ (a0a (z0_ 3))) (a0c (z0_ 1) (a0a (z3_ y4_ (z0_ 3) (mC (.int 1)))) u9_)) (z2_ (z3_ a0s (z3_ a0s (a0c (z0_ 1) u9_ (a0a (z0_ 3))) (z0_ 5)) (a0c (z0_ 1) (a0a (z0_ 3)) u9_)) (z2_ (z3_ a0s (z3_ a0s (a0c (z0_ 1) u9_ (a0a (z0_ 3))) (z0_ 5)) (a0c (z0_ 1) (a0a (z3_ y4_ (z0_ 3) (mC (.int 1)))) u9_)) (z2_ (z0_ 1) z5_)))))) (z0_ 2))) mNx) (z9_ (u7_ 6 (a1H (z0_ 1) (mC (.str "/")))) (z9_ (v2_ 7 (mCD 2 x4_ (y8_ 0 (z7_ (a2T 6) q0_)))) (z9_ (v2_ 8 (mCD 2 x4_ (y8_ 0 (z7_ (a2T 6) q0_)))) (z9_ (v1_ (mT (z3_ (dEq false) (z0_ 2) (mC (.int 4)))) (a2P (a4u 6 (z0_ 7))) (v1_ (mT (z3_ (dEq false) (z0_ 2) (mC (.int 5)))) (a4z 6 (z0_ 8) (y7_ 6 (z0_ 7))) (v1_ (mT (z3_ (dEq false) (z0_ 2) (mC (.int 6)))) (u2_ (x7_ (z2_ (y7_ 6 (z0_ 8)) (z2_ (y7_ 6 (z0_ 7)) z5_))) (gT 2 (gCn (gS 6 (z0_ 7)) (gCn (gS 6 (z0_ 8)) gNl)))) (v1_ (mT (z3_ (dEq false) (z0_ 2) (mC (.int 7)))) (u2_ (a2V (y7_ 6 (z0_ 7))) (gS 6 (z0_ 7))) (q7_ (z3_ dIx (mF (k4_ (z2_ (mC (.str "")) (z2_ (mC (.str "none")) (z2_ (mC (.str "/")) (z2_ (mC (.str " +")) (z2_ (mC (.str "+ ")) (z2_ (mC (.str "0")) (z2_ (mC (.str "-")) (z2_ (mC (.str "++/++")) z5_)))))))))) (mCD 2 x4_ (y8_ 0 (z7_ (mC (.int 8)) q0_))))))))) (q7_ (z3_ a0L (mC (.str "/")) (z0_ 6)))))))) (fr a4 b x (.dat (.int v1)) (.dat (.int v2)) (.dat (.str SG)) (.dat (.str ⟨#[c]⟩)) .nil .nil .nil)=some (.ret (.str y),r)->∃y a',a1t [.par [.int a,.bl b],.dat (.str x)]=some (.d (.str y),[.par [.int a',.bl b],.dat (.str x)])/\0≤a'/\TX (2 * n+8) y:=fun{y r a'} ha' Ty hr h=>by
  refine⟨y,a',a2l (env:=r) ?_ hr,ha',Ty⟩;show a8p (fr a b x .nil .nil .nil .nil .nil .nil .nil)=_;unfold a8p;refine y9_ s1 (y9_ s2 (y9_ (e1:=fr a2 b x (.dat (.int v1)) (.dat (.int v2)) (.dat (.str SG1)) .nil .nil .nil .nil) rfl (y9_ s4 (y9_ s5 h))))
 generalize hS:SG=S at *;have lt4:mT (z3_ dLt (z0_ 2) (mC (.int 4))) (fr a4 b x (.dat (.int v1)) (.dat (.int v2)) (.dat (.str S)) (.dat (.str ⟨#[c]⟩)) .nil .nil .nil)=some (decide (v1<4),fr a4 b x (.dat (.int v1)) (.dat (.int v2)) (.dat (.str S)) (.dat (.str ⟨#[c]⟩)) .nil .nil .nil):=g1_ rfl
 by_cases h4:v1<4
 ·rw[Yj h4]at lt4
  have T1:=T.cut none (some v2)
  have T2:=T.cut (some (v2+1)) none
  have T3:=T.cut (some v2) none
  generalize g1:a0Y x none (some v2)=x1 at *;generalize g2:a0Y x (some (v2+1)) none=x2 at *;generalize g3:a0Y x (some v2) none=x3 at *;have l1:=T1.len;have l2:=T2.len;have l3:=T3.len;have ls:=TS.len;have lc:=a7G x1 ⟨#[c]⟩;have e1:a0c (z0_ 1) u9_ (a0a (z0_ 3)) (fr a4 b x (.dat (.int v1)) (.dat (.int v2)) (.dat (.str S)) (.dat (.str ⟨#[c]⟩)) .nil .nil .nil)=some (.str x1,fr a4 b x (.dat (.int v1)) (.dat (.int v2)) (.dat (.str S)) (.dat (.str ⟨#[c]⟩)) .nil .nil .nil):=by rw[←g1];rfl
  have e2:a0c (z0_ 1) (a0a (z3_ y4_ (z0_ 3) (mC (.int 1)))) u9_ (fr a4 b x (.dat (.int v1)) (.dat (.int v2)) (.dat (.str S)) (.dat (.str ⟨#[c]⟩)) .nil .nil .nil)=some (.str x2,fr a4 b x (.dat (.int v1)) (.dat (.int v2)) (.dat (.str S)) (.dat (.str ⟨#[c]⟩)) .nil .nil .nil):=by rw[←g2];rfl
  have e3:a0c (z0_ 1) (a0a (z0_ 3)) u9_ (fr a4 b x (.dat (.int v1)) (.dat (.int v2)) (.dat (.str S)) (.dat (.str ⟨#[c]⟩)) .nil .nil .nil)=some (.str x3,fr a4 b x (.dat (.int v1)) (.dat (.int v2)) (.dat (.str S)) (.dat (.str ⟨#[c]⟩)) .nil .nil .nil):=by rw[←g3];rfl
  have c1:=v3_ e1 (show z0_ 5 (fr a4 b x (.dat (.int v1)) (.dat (.int v2)) (.dat (.str S)) (.dat (.str ⟨#[c]⟩)) .nil .nil .nil)=some (.str ⟨#[c]⟩,fr a4 b x (.dat (.int v1)) (.dat (.int v2)) (.dat (.str S)) (.dat (.str ⟨#[c]⟩)) .nil .nil .nil)from rfl) (a4R (x:=x1) (y:=⟨#[c]⟩) (by omega))
  obtain⟨d,hd,ed⟩:=a5S (ds:=[.str (x1++x2),.str ((x1++⟨#[c]⟩)++x3),.str ((x1++⟨#[c]⟩)++x2),.str x]) (v:=v1) p1 h4;obtain⟨y,rfl,Ty⟩:∃y,d=.str y/\TX (2 * n+8) y:=by
   simp only[Qm,Zb,Jq]at hd;obtain rfl|rfl|rfl|rfl:=hd
   ·exact⟨_,rfl,(T1.cat T2).mono (by omega)⟩
   ·exact⟨_,rfl,((T1.cat TS).cat T3).mono (by omega)⟩
   ·exact⟨_,rfl,((T1.cat TS).cat T2).mono (by omega)⟩
   ·exact⟨_,rfl,T.mono (by omega)⟩
  refine run (y:=y) a40 Ty (r:=fr a4 b x (.dat (.int v1)) (.dat (.int v2)) (.dat (.str S)) (.dat (.str ⟨#[c]⟩)) .nil .nil .nil) rfl (j9_ (a0Z lt4 (a0h (v3_ (g0_ (a5U (k2_ (v3_ e1 e2 (a4R (by omega))) (k2_ (v3_ c1 e3 (a4R (by omega))) (k2_ (v3_ c1 e2 (a4R (by omega))) (k2_ rfl rfl)))) (by simp))) rfl ed))))
 ·rw[Zk h4]at lt4
  have hsp:a1H (z0_ 1) (mC (.str "/")) (fr a4 b x (.dat (.int v1)) (.dat (.int v2)) (.dat (.str S)) (.dat (.str ⟨#[c]⟩)) .nil .nil .nil)=some (((spl 47 x.cps.toList).map sW).map D.str,fr a4 b x (.dat (.int v1)) (.dat (.int v2)) (.dat (.str S)) (.dat (.str ⟨#[c]⟩)) .nil .nil .nil):=by
   show(a2U (.str x) (.str "/")).map _=_;rw[dsplit T hn,Zc]
   rfl
  have H:=c0D T
  have hlo:1≤((spl 47 x.cps.toList).map sW).length:=by
   obtain⟨h,t,e⟩:=a2u 47 x.cps.toList;rw[e]
   simp
  generalize (spl 47 x.cps.toList).map sW=ss at *;have hw:=H.w;have hl:=a8F ss;have hsl:∀s∈ss,s.length≤900:=fun s hs=>by have:=b2y hs;omega
  obtain⟨v5,a5,t5,p5,q5,a50⟩:=a3b (i:=0) (e:=fr a4 b x (.dat (.int v1)) (.dat (.int v2)) (.dat (.str S)) (.dat (.str ⟨#[c]⟩)) (.own (ss.map D.str)) .nil .nil) (w:=.par [.int a4,.bl b]) (k:=(ss.length:Int)) (M:=a2T 6) rfl rfl (by show some (D.int ((ss.map D.str).length:Nat),_)=_;rw[Qk]) a40 (by omega) (by omega)
  obtain⟨v6,a6,t6,p6,q6,a60⟩:=a3b (i:=0) (e:=fr a5 b x (.dat (.int v1)) (.dat (.int v2)) (.dat (.str S)) (.dat (.str ⟨#[c]⟩)) (.own (ss.map D.str)) (.dat (.int v5)) .nil) (w:=.par [.int a5,.bl b]) (k:=(ss.length:Int)) (M:=a2T 6) rfl rfl (by show some (D.int ((ss.map D.str).length:Nat),_)=_;rw[Qk]) a50 (by omega) (by omega)
  have hv5:v5.toNat<ss.length:=by omega
  have hv6:v6.toNat<ss.length:=by omega
  have s8:=a0u (i:=7) (e2:=fr a5 b x (.dat (.int v1)) (.dat (.int v2)) (.dat (.str S)) (.dat (.str ⟨#[c]⟩)) (.own (ss.map D.str)) (.dat (.int v5)) .nil) t5 rfl
  have s9:=a0u (i:=8) (e2:=fr a6 b x (.dat (.int v1)) (.dat (.int v2)) (.dat (.str S)) (.dat (.str ⟨#[c]⟩)) (.own (ss.map D.str)) (.dat (.int v5)) (.dat (.int v6))) t6 rfl
  have eqk:∀k:Int,mT (z3_ (dEq false) (z0_ 2) (mC (.int k))) (fr a6 b x (.dat (.int v1)) (.dat (.int v2)) (.dat (.str S)) (.dat (.str ⟨#[c]⟩)) (.own (ss.map D.str)) (.dat (.int v5)) (.dat (.int v6)))=some (v1==k,fr a6 b x (.dat (.int v1)) (.dat (.int v2)) (.dat (.str S)) (.dat (.str ⟨#[c]⟩)) (.own (ss.map D.str)) (.dat (.int v5)) (.dat (.int v6))):=fun k=>g1_ (v3_ rfl rfl (c0d v1 k))
  have yes:∀k:Int,v1=k->mT (z3_ (dEq false) (z0_ 2) (mC (.int k))) (fr a6 b x (.dat (.int v1)) (.dat (.int v2)) (.dat (.str S)) (.dat (.str ⟨#[c]⟩)) (.own (ss.map D.str)) (.dat (.int v5)) (.dat (.int v6)))=some (true,fr a6 b x (.dat (.int v1)) (.dat (.int v2)) (.dat (.str S)) (.dat (.str ⟨#[c]⟩)) (.own (ss.map D.str)) (.dat (.int v5)) (.dat (.int v6))):=fun k hk=>by rw[eqk k,beq_iff_eq.mpr hk]
  have no:∀k:Int,¬ v1=k->mT (z3_ (dEq false) (z0_ 2) (mC (.int k))) (fr a6 b x (.dat (.int v1)) (.dat (.int v2)) (.dat (.str S)) (.dat (.str ⟨#[c]⟩)) (.own (ss.map D.str)) (.dat (.int v5)) (.dat (.int v6)))=some (false,fr a6 b x (.dat (.int v1)) (.dat (.int v2)) (.dat (.str S)) (.dat (.str ⟨#[c]⟩)) (.own (ss.map D.str)) (.dat (.int v5)) (.dat (.int v6))):=fun k hk=>by rw[eqk k,Qa.mpr hk]
  clear eqk t1 t2 t3 t4 t5 t6 s1 s2 s4 s5;have s7:=a5I (i:=6) (e2:=fr a4 b x (.dat (.int v1)) (.dat (.int v2)) (.dat (.str S)) (.dat (.str ⟨#[c]⟩)) (.own (ss.map D.str)) .nil .nil) hsp rfl;have fin:∀{m:Nat}{ts:List Str},WS m ts->m≤2 * n+8->ts.length≤1000->(∀s∈ts,s.length≤900)->(v1_ (mT (z3_ (dEq false) (z0_ 2) (mC (.int 4)))) (a2P (a4u 6 (z0_ 7))) (v1_ (mT (z3_ (dEq false) (z0_ 2) (mC (.int 5)))) (a4z 6 (z0_ 8) (y7_ 6 (z0_ 7))) (v1_ (mT (z3_ (dEq false) (z0_ 2) (mC (.int 6)))) (u2_ (x7_ (z2_ (y7_ 6 (z0_ 8)) (z2_ (y7_ 6 (z0_ 7)) z5_))) (gT 2 (gCn (gS 6 (z0_ 7)) (gCn (gS 6 (z0_ 8)) gNl)))) (v1_ (mT (z3_ (dEq false) (z0_ 2) (mC (.int 7)))) (u2_ (a2V (y7_ 6 (z0_ 7))) (gS 6 (z0_ 7))) (q7_ (z3_ dIx (mF (k4_ (z2_ (mC (.str "")) (z2_ (mC (.str "none")) (z2_ (mC (.str "/")) (z2_ (mC (.str " +")) (z2_ (mC (.str "+ ")) (z2_ (mC (.str "0")) (z2_ (mC (.str "-")) (z2_ (mC (.str "++/++")) z5_)))))))))) (mCD 2 x4_ (y8_ 0 (z7_ (mC (.int 8)) q0_))))))))) (fr a6 b x (.dat (.int v1)) (.dat (.int v2)) (.dat (.str S)) (.dat (.str ⟨#[c]⟩)) (.own (ss.map D.str)) (.dat (.int v5)) (.dat (.int v6)))=some (.nx,fr a6 b x (.dat (.int v1)) (.dat (.int v2)) (.dat (.str S)) (.dat (.str ⟨#[c]⟩)) (.own (ts.map D.str)) (.dat (.int v5)) (.dat (.int v6)))->∃y a',a1t [.par [.int a,.bl b],.dat (.str x)]=some (.d (.str y),[.par [.int a',.bl b],.dat (.str x)])/\0≤a'/\TX (2 * n+8) y:=fun{m ts} Hm hm hlen hs h=>
   run (y:=Txt.join "/" ts) a60 (Hm.join.mono hm) rfl (y9_ (w0_ lt4 rfl) (y9_ s7 (y9_ s8 (y9_ s9 (y9_ h (c0J Hm (by omega) (fun s h=>by have:=hs s h;omega) hlen))))))
  by_cases h5:v1=4
  ·exact fin (H.erase v5.toNat) (by omega) (by have:=a8G ss v5.toNat;have:=a8F (ss.eraseIdx v5.toNat);omega) (fun s hs=>hsl s (List.mem_of_mem_eraseIdx hs)) (a0Z (yes 4 h5) (c0K p5 q5 (by omega)))
  by_cases h6:v1=5
  ·refine fin (H.ins v6.toNat (Zg hv5)) (by omega) ?_ (fun s hs=>?_) (w0_ (no 4 h5) (a0Z (yes 5 h6) (c0L p5 q5 p6 q6 hv5 (by omega))))
   ·unfold a0k
    rw[Qs,Zq,Yw,Vb]
    omega
   ·unfold a0k at hs
    rcases Yx.mp hs with h|h
    ·exact hsl s (List.mem_of_mem_take h)
    ·rcases Qm.mp h with rfl|h
     ·exact hsl _ (Zg hv5)
     ·exact hsl s (List.mem_of_mem_drop h)
  by_cases h7:v1=6
  ·refine fin (H.swap hv5 hv6) (by omega) (by rw[Zv,Zv];omega) (fun s hs=>?_) (w0_ (no 4 h5) (w0_ (no 5 h6) (a0Z (yes 6 h7) (c0M p5 q5 p6 q6 hv5 hv6))))
   rcases a3V hs with h|rfl
   ·rcases a3V h with h|rfl
    ·exact hsl s h
    ·exact hsl _ (Zg hv6)
   ·exact hsl _ (Zg hv5)
  by_cases h8:v1=7
  ·refine fin (H.rev hv5) (by omega) (by rw[Zv];omega) (fun s hs=>?_) (w0_ (no 4 h5) (w0_ (no 5 h6) (w0_ (no 6 h7) (a0Z (yes 7 h8) (c0N p5 q5 hv5)))))
   rcases a3V hs with h|rfl
   ·exact hsl s h
   ·exact Qt (a4y _) (hsl _ (Zg hv5))
  obtain⟨v7,a7,t7,p7,q7,a70⟩:=a3b (i:=0) (e:=fr a6 b x (.dat (.int v1)) (.dat (.int v2)) (.dat (.str S)) (.dat (.str ⟨#[c]⟩)) (.own (ss.map D.str)) (.dat (.int v5)) (.dat (.int v6))) (w:=.par [.int a6,.bl b]) (k:=8) (M:=mC (.int 8)) rfl rfl rfl a60 (by decide) (by decide)
  obtain⟨d,hd,ed⟩:=a5S (ds:=[.str "",.str "none",.str "/",.str " +",.str "+ ",.str "0",.str "-",.str "++/++"]) (v:=v7) p7 q7;obtain⟨y,rfl,Ty⟩:∃y,d=.str y/\TX (2 * n+8) y:=by
   have ck:∀y:Str,(decide (y.length≤8)&&y.cps.toList.all fun c=>decide (c<128))=true->TX (2 * n+8) y:=fun y hy=>by
    rw[Qy,Qv]at hy;exact⟨by have:=Uu hy.1;omega,fun c hc=>Uu (hy.2 c hc)⟩
   simp only[Qm,Zb,Jq]at hd;obtain rfl|rfl|rfl|rfl|rfl|rfl|rfl|rfl:=hd<;>exact⟨_,rfl,ck _ (by decide+kernel)⟩
  exact run (y:=y) a70 Ty rfl (y9_ (w0_ lt4 rfl) (y9_ s7 (y9_ s8 (y9_ s9 (j9_ (w0_ (no 4 h5) (w0_ (no 5 h6) (w0_ (no 6 h7) (w0_ (no 7 h8) (a0h (v3_ (g0_ (a5U (ds:=[.str "",.str "none",.str "/",.str " +",.str "+ ",.str "0",.str "-",.str "++/++"]) rfl (by simp))) t7 ed)))))))))))
theorem TabF.sm{n:Nat}{f:OO}(T:TabF n f):∀i<n,∀j<n,-1≤f i j/\f i j≤1:=fun i hi j hj=>by
 have a:=T.row i hi (j+1) (by omega)
 have b:=T.row i hi j (by omega)
 have c:S (f i) (j+1)=S (f i) j+f i j:=rfl
 omega
theorem c0P{n:Nat}{f:OO}(h1:1≤n)(h6:n≤6)(T:TabF n f):Small (gm n n f):=by
 refine⟨by rw[a3a];exact h1,by rw[a3a];exact h6,fun r hr=>by rw[b2g r hr];exact⟨h1,h6⟩,fun r hr i hi=>?_⟩
 unfold gm at hr;obtain⟨a,ha,rfl⟩:=Qo.mp hr;obtain⟨b,hb,rfl⟩:=Qo.mp hi;have:=T.sm a (Yy.mp ha) b (Yy.mp hb)
 omega
theorem c0Q{d:D}(h:mIs "str" (z0_ 0) [.dat d]=some (.bl false,[.dat d])):a1a [.dat d]=some (.d (.bl false),[.dat d]):=by
 refine a2l (env:=[.dat d]) ?_ rfl;show a4F [.dat d]=_;unfold a4F;exact j9_ (a0Z (a0W (b:=false) (g1_ h)) rfl)
abbrev lw:Mo Fl:=(z9_ (u7_ 2 (a1C 2 a3O (z7_ (z0_ 0) (z7_ (z0_ 1) q0_)))) (z9_ (v2_ 3 (mCD 1 a3R (z7_ (mCD 3 a2X (y8_ 2 (z7_ (mC (.int 1)) (z7_ (mC (.int 6)) q0_)))) q0_))) (z9_ (j3_ (j2_ (z2_ (mC (.int 4)) z5_)) (gN 4) (z9_ (v2_ 6 (mCD 1 a2r (z7_ (z0_ 3) q0_))) (z9_ (v1_ (mT (z3_ a2S (z0_ 6) (mC .non))) (v1_ (mT (z3_ (dEq true) (a2j xN [false,false,false,true,false,false,false] (mCD 1 a0M (z7_ (z0_ 3) q0_)) (a2g 1 a1r (z7_ (z0_ 3) q0_)) a2o) (mC (.int 12)))) (q7_ (mC (.bl false))) mNx) (v1_ (y2_ (mT (mCD 2 (a0l 6) (z7_ (mCD 1 a0M (z7_ (z0_ 3) q0_)) (z7_ (z0_ 6) q0_))))) (q7_ (mC (.bl false))) mNx)) (v2_ 3 (mCD 2 a1t (y8_ 2 (z7_ (z0_ 3) q0_))))))) (z9_ (v2_ 5 (z3_ dIx (mF (k4_ (z2_ (mC .non) (z2_ (mC (.int 7)) (z2_ (x7_ (z2_ (x7_ (z2_ (mC (.int 1)) z5_)) z5_)) (z2_ (mF (k4_ (z2_ (mC (.str "+")) z5_))) (z2_ (mC (.bl true)) (z2_ (mC .emp) (z2_ (x7_ z5_) z5_))))))))) (mCD 2 x4_ (y8_ 2 (z7_ (mC (.int 7)) q0_))))) (v1_ (mT (z3_ (dEq true) (a2j xN [false,false,false,false,false,true,false] (mCD 1 a0M (z7_ (z0_ 5) q0_)) (a2g 1 a1r (z7_ (z0_ 5) q0_)) a2o) (mC (.int 12)))) (q7_ (mC (.bl false))) mNx)))))
abbrev tw:Mo Fl:=(z9_ (v2_ 6 (mCD 1 a2r (z7_ (z0_ 3) q0_))) (z9_ (v1_ (mT (z3_ a2S (z0_ 6) (mC .non))) (v1_ (mT (z3_ (dEq true) (a2j xN [false,false,false,true,false,false,false] (mCD 1 a0M (z7_ (z0_ 3) q0_)) (a2g 1 a1r (z7_ (z0_ 3) q0_)) a2o) (mC (.int 12)))) (q7_ (mC (.bl false))) mNx) (v1_ (y2_ (mT (mCD 2 (a0l 6) (z7_ (mCD 1 a0M (z7_ (z0_ 3) q0_)) (z7_ (z0_ 6) q0_))))) (q7_ (mC (.bl false))) mNx)) (v2_ 3 (mCD 2 a1t (y8_ 2 (z7_ (z0_ 3) q0_))))))
theorem c0R{n:Nat}{a:Int}{b:Bool}{x:Str}(T:TX n x)(hn:n≤900)(ha:0≤a)(w0 w1 w4 w5 w6:W):∃y a' w6',0≤a'/\TX (2 * n+8) y/\tw [w0,w1,.own [.int a,.bl b],.dat (.str x),w4,w5,w6]=some (.nx,[w0,w1,.own [.int a',.bl b],.dat (.str y),w4,w5,w6']):=by
 obtain⟨_,ed⟩:=c0y T hn;obtain⟨y,a',eb,a0,Ty⟩:=c0O (b:=b) T hn ha;have sb:∀w6':W,(v2_ 3 (mCD 2 a1t (y8_ 2 (z7_ (z0_ 3) q0_)))) [w0,w1,.own [.int a,.bl b],.dat (.str x),w4,w5,w6']=some (.nx,[w0,w1,.own [.int a',.bl b],.dat (.str y),w4,w5,w6']):=fun w6'=>
  a0u (e1:=[w0,w1,.own [.int a',.bl b],.dat (.str x),w4,w5,w6']) (a0J ((a3C (e1:=[w0,w1,.own [.int a,.bl b],.dat (.str x),w4,w5,w6']) (w:=.own [.int a,.bl b]) (av:=[.sl 2,.d (.str x)]) (i:=2) (c:=[.int a,.bl b]) (c':=[.int a',.bl b]) rfl rfl rfl rfl rfl eb rfl).trans rfl)) rfl
 have sd:∀d:D,(if ntb x then dT (rows x)else D.non)=d->(v2_ 6 (mCD 1 a2r (z7_ (z0_ 3) q0_))) [w0,w1,.own [.int a,.bl b],.dat (.str x),w4,w5,w6]=some (.nx,[w0,w1,.own [.int a,.bl b],.dat (.str x),w4,w5,.dat d]):=fun d hd=>by
  rw[hd]at ed;exact a0u (e1:=[w0,w1,.own [.int a,.bl b],.dat (.str x),w4,w5,w6]) (c1' rfl ed) rfl
 cases h:ntb x with
 |true=>
  obtain⟨_,es⟩:=c0z T hn;have er:=c0u T hn h;have sd':=sd (dT (rows x)) (by rw[h];rfl)
  have hnon:z3_ a2S (z0_ 6) (mC .non) [w0,w1,.own [.int a,.bl b],.dat (.str x),w4,w5,.dat (dT (rows x))]=some (.bl false,[w0,w1,.own [.int a,.bl b],.dat (.str x),w4,w5,.dat (dT (rows x))]):=rfl
  generalize dT (rows x)=R at *;refine⟨y,a',.dat R,a0,Ty,?_⟩;unfold tw;exact y9_ sd' (y9_ (w0_ (g1_ hnon) (w0_ (a0W (b:=true) (g1_ (c2' (c1' rfl er) rfl es))) rfl)) (sb _))
 |false=>
  have gr:=c0v T hn h
  have sd':=sd .non (by rw[h];rfl)
  refine⟨y,a',.dat .non,a0,Ty,?_⟩;unfold tw;refine y9_ sd' (y9_ (a0Z (e1:=[w0,w1,.own [.int a,.bl b],.dat (.str x),w4,w5,.dat .non]) rfl (w0_ (g1_ (v3_ (b1u (lw:=[.nil,.nil,.nil,.dat (.str x),.nil,.nil,.nil]) rfl (b1v (av:=[.d (.str x)]) rfl rfl rfl gr) (by decide+kernel) b2u) rfl rfl)) rfl)) (sb _))
def nn:Nat->Nat
 |0=>100
 |i+1=>2 * nn i+8
theorem c0S{i:Nat}(h:i<4):nn i≤900:=by
 match i,h with
 |0,_=>decide
 |1,_=>decide
 |2,_=>decide
 |3,_=>decide
theorem c0T{R:OI}(S:Small R):TX 100 (txt R):=
 ⟨(b2m S).2,fun c hc=>by rcases c0l hc S.lo with z|z|z|z<;>omega⟩
theorem c0U(ns:List Int)(k:Nat)(hk:k<1000)(w2 w3 w4 w5 w6:W):∃ws':List W,ws'.length=6/\lw [.dat (.lst (ns.map .int)),.dat (.int k),w2,w3,w4,w5,w6]=some (.nx,.dat (.lst (ns.map .int))::ws'):=by
 obtain⟨a,b,a0,est⟩:=b9K ns k hk;generalize D.lst (ns.map .int)=Z at *;obtain⟨A,a1,et,a10,hA,_,_⟩:=b9Y (a:=a) (l:=1) (m:=6) (b:=b) a0 (by decide) (by decide) (by decide)
 obtain⟨eA,TA⟩:=hA.fn;obtain⟨n,hn⟩:∃n,A.length=n:=⟨_,rfl⟩;have h1:1≤n:=by have:=hA.lo;omega
 have h6:n≤6:=by have:=hA.hi;omega
 rw[hn]at eA TA;have S:=c0P h1 h6 TA;rw[←eA]at S;obtain⟨_,el⟩:=c0q S;have Tx:=c0T S;generalize txt A=x at *;generalize dT A=M at *;obtain⟨e',hl,a2,y,x4,x6,a20,_,rfl⟩:=b1t (g:=gN 4) (b:=tw) (n:=4) (fun i e=>∃a y x4 x6,0≤a/\TX (nn i) y/\e=[.dat Z,.dat (.int k),.own [.int a,.bl b],.dat (.str y),x4,w5,x6]) (env:=[.dat Z,.dat (.int k),.own [.int a1,.bl b],.dat (.str x),w4,w5,w6]) (fun i hi e ⟨a,y,x4,x6,ha,Ty,he⟩=>by
  subst he;obtain⟨z,a',x6',h1,h2,h3⟩:=c0R (b:=b) Ty (c0S hi) ha (.dat Z) (.dat (.int k)) (.dat (.int i)) w5 x6;exact⟨_,_,rfl,h3,a',z,_,_,h1,h2,rfl⟩) ⟨_,_,_,_,a10,Tx,rfl⟩
 obtain⟨v,a3,tk,p3,q3,a30⟩:=a3b (i:=2) (e:=[.dat Z,.dat (.int k),.own [.int a2,.bl b],.dat (.str y),x4,w5,x6]) (w:=.own [.int a2,.bl b]) (k:=7) (M:=mC (.int 7)) rfl rfl rfl a20 (by decide) (by decide)
 obtain⟨d,hd,edx⟩:=a5S (ds:=[.non,.int 7,.tup [.tup [.int 1]],.lst [.str "+"],.bl true,.emp,.tup []]) (v:=v) p3 q3;have hnote:a1a [.dat d]=some (.d (.bl false),[.dat d]):=by
  simp only[Qm,Zb,Jq]at hd;obtain rfl|rfl|rfl|rfl|rfl|rfl|rfl:=hd<;>exact c0Q rfl
 have gr:=b2t hnote
 refine⟨[.dat (.int k),.own [.int a3,.bl b],.dat (.str y),x4,.dat d,x6],rfl,?_⟩;unfold lw;refine y9_ (a5I (e1:=[.dat Z,.dat (.int k),w2,w3,w4,w5,w6]) (e2:=[.dat Z,.dat (.int k),.own [.int a,.bl b],w3,w4,w5,w6]) (b0E (a2e (av:=[.d Z,.d (.int k)]) rfl rfl rfl est)) rfl) ?_
 have ct:(mCD 3 a2X (y8_ 2 (z7_ (mC (.int 1)) (z7_ (mC (.int 6)) q0_)))) [.dat Z,.dat (.int k),.own [.int a,.bl b],w3,w4,w5,w6]=some (M,[.dat Z,.dat (.int k),.own [.int a1,.bl b],w3,w4,w5,w6]):=
  a0J ((a3C (e1:=[.dat Z,.dat (.int k),.own [.int a,.bl b],w3,w4,w5,w6]) (w:=.own [.int a,.bl b]) (av:=[.sl 2,.d (.int 1),.d (.int 6)]) (i:=2) (c:=[.int a,.bl b]) (c':=[.int a1,.bl b]) rfl rfl rfl rfl rfl et rfl).trans rfl)
 refine y9_ (a0u (e1:=[.dat Z,.dat (.int k),.own [.int a1,.bl b],w3,w4,w5,w6]) (e2:=[.dat Z,.dat (.int k),.own [.int a1,.bl b],.dat (.str x),w4,w5,w6]) (a4A (av:=[.d M]) (a1E ct rfl) rfl rfl el) rfl) ?_
 refine y9_ ((a3B (b1p (n:=4) rfl rfl (by decide))).trans hl) ?_
 refine y9_ (a0u (e1:=[.dat Z,.dat (.int k),.own [.int a3,.bl b],.dat (.str y),x4,w5,x6]) (e2:=[.dat Z,.dat (.int k),.own [.int a3,.bl b],.dat (.str y),x4,.dat d,x6]) (v3_ (g0_ (a5U (ds:=[.non,.int 7,.tup [.tup [.int 1]],.lst [.str "+"],.bl true,.emp,.tup []]) rfl (by simp))) tk edx) rfl) ?_
 exact w0_ (g1_ (v3_ (b1u (lw:=[.nil,.nil,.nil,.nil,.nil,.dat d,.nil]) rfl (b1v (av:=[.d d]) rfl rfl rfl gr) (by decide+kernel) b2u) rfl rfl)) rfl
theorem c0V:∀ns:List Int,ns.length≤63->∃ws',a5M [.dat (.lst (ns.map D.int))]=some (.d (.bl true),ws'):=by
 intro ns hns;refine b8k (C:=10) (N:=5) (by decide) (by decide) (fun k hk ws hw=>?_) fun ws hw=>?_
 ·match ws,hw with
  |[w2,w3,w4,w5,w6],_=>exact c0U ns k hk w2 w3 w4 w5 w6
 ·exact⟨_,rfl⟩
end K92
namespace K92
open L2 L2.Mir PySem
theorem c0W{P:Program}(w:World)(mg:OU)(fa:Addr)(h:Heap)(X:(hK w.params).In h)(G:h.Ns mainGlobals mg)(hfa:mg "law"=some (.ref fa)):
 ∃fd:FuncData,(∀(s:Shared) (v:Value),BindsTo s fd ⟨[v],[]⟩ [("_law_script",v)])/\PySem.W.noTabs (hK w.params)=true/\(∀p∈[319],∃c,PySem.W.codeHdIn (hK w.params) c p=true)/\∀base:Heap,(hK w.params).In base->base.Ns mainGlobals mg->a1G mg base->FnOk P w (hK w.params) mg base CX0 10 fa fd ["_law_script"] (SpT (hK w.params) [319] 1 a5M):=by
 have A1:DfAt (hK w.params) "is_whole" a7I 190 (.str "turnsigns.grids" 415) 189:=by constructor<;>kernel_rfl
 have A2:DfAt (hK w.params) "is_row" a7J 195 (.str "turnsigns.grids" 415) 194:=by constructor<;>kernel_rfl
 have A3:DfAt (hK w.params) "is_grid" a7K 200 (.str "turnsigns.grids" 415) 199:=by constructor<;>kernel_rfl
 have A4:DfAt (hK w.params) "is_square" a7L 207 (.str "turnsigns.grids" 415) 206:=by constructor<;>kernel_rfl
 have A5:DfAt (hK w.params) "flipped" a7M 212 (.str "turnsigns.grids" 415) 211:=by constructor<;>kernel_rfl
 have A6:DfAt (hK w.params) "takes_turns" a7N 219 (.str "turnsigns.tables" 451) 218:=by constructor<;>kernel_rfl
 have A7:DfAt (hK w.params) "is_table" a7O 224 (.str "turnsigns.tables" 451) 223:=by constructor<;>kernel_rfl
 have A8:DfAt (hK w.params) "unwritten" a7P 230 (.str "turnsigns.notes" 470) 229:=by constructor<;>kernel_rfl
 have A9:DfAt (hK w.params) "is_note" a7Q 235 (.str "turnsigns.notes" 470) 234:=by constructor<;>kernel_rfl
 have A10:DfAt (hK w.params) "table_read" a5J 242 (.str "turnsigns.notes" 470) 241:=by constructor<;>kernel_rfl
 have A11:DfAt (hK w.params) "_law_cell_at" a7R 249 (.str "law_turnsigns_k92_texts_that_write_none" 502) 248:=by constructor<;>kernel_rfl
 have A12:DfAt (hK w.params) "_law_state" a7S 256 (.str "law_turnsigns_k92_texts_that_write_none" 502) 255:=by constructor<;>kernel_rfl
 have A13:DfAt (hK w.params) "_law_take" a7T 263 (.str "law_turnsigns_k92_texts_that_write_none" 502) 262:=by constructor<;>kernel_rfl
 have A14:DfAt (hK w.params) "_law_refused" a7U 268 (.str "law_turnsigns_k92_texts_that_write_none" 502) 267:=by constructor<;>kernel_rfl
 have A15:DfAt (hK w.params) "_law_lines" a7V 273 (.str "law_turnsigns_k92_texts_that_write_none" 502) 272:=by constructor<;>kernel_rfl
 have A16:DfAt (hK w.params) "_law_table" a7W 278 (.str "law_turnsigns_k92_texts_that_write_none" 502) 277:=by constructor<;>kernel_rfl
 have A17:DfAt (hK w.params) "_law_whole" a7X 285 (.str "law_turnsigns_k92_texts_that_write_none" 502) 284:=by constructor<;>kernel_rfl
 have A18:DfAt (hK w.params) "_law_turns" a7Y 290 (.str "law_turnsigns_k92_texts_that_write_none" 502) 289:=by constructor<;>kernel_rfl
 have A19:DfAt (hK w.params) "_law_is_table" a7Z 295 (.str "law_turnsigns_k92_texts_that_write_none" 502) 294:=by constructor<;>kernel_rfl
 have A20:DfAt (hK w.params) "_law_text" a8a 300 (.str "law_turnsigns_k92_texts_that_write_none" 502) 299:=by constructor<;>kernel_rfl
 have A21:DfAt (hK w.params) "_law_same" a8b 305 (.str "law_turnsigns_k92_texts_that_write_none" 502) 304:=by constructor<;>kernel_rfl
 have A22:DfAt (hK w.params) "_law_due" a8c 310 (.str "law_turnsigns_k92_texts_that_write_none" 502) 309:=by constructor<;>kernel_rfl
 have A23:DfAt (hK w.params) "_law_bent" a8d 317 (.str "law_turnsigns_k92_texts_that_write_none" 502) 316:=by constructor<;>kernel_rfl
 have A24:DfAt (hK w.params) "law" a3L 324 (.str "law_turnsigns_k92_texts_that_write_none" 502) 323:=by constructor<;>kernel_rfl
 have e:=hfa.symm.trans (Vp X G A24.a)
 cases e;have T:Txt (hK w.params) mg:=⟨by kernel_rfl,Zy X G (by kernel_rfl),Zy X G (by kernel_rfl),Zy X G (by kernel_rfl),Zy X G (by kernel_rfl),Zy X G (by kernel_rfl),Zy X G (by kernel_rfl),Zy X G (by kernel_rfl),Zy X G (by kernel_rfl),Zy X G (by kernel_rfl),Zy X G (by kernel_rfl),Zy X G (by kernel_rfl),Zy X G (by kernel_rfl),Zy X G (by kernel_rfl),Zy X G (by kernel_rfl),Zy X G (by kernel_rfl),⟨453,Vp X G (by kernel_rfl)⟩⟩
 have F1:=A1.f
 have b1:=F1.binds (ps:=["thing"]) fun _ _ _ _ _ _=>us1 fun _=>rfl
 have F2:=A2.f
 have b2:=F2.binds (ps:=["thing","width"]) fun _ _ _ _ _ _=>us2 fun _ _=>rfl
 have F3:=A3.f
 have b3:=F3.binds (ps:=["thing","many","width"]) fun _ _ _ _ _ _=>us3 fun _ _ _=>rfl
 have F4:=A4.f
 have b4:=F4.binds (ps:=["thing","least","greatest"]) fun _ _ _ _ _ _=>us3 fun _ _ _=>rfl
 have F5:=A5.f
 have b5:=F5.binds (ps:=["grid"]) fun _ _ _ _ _ _=>us1 fun _=>rfl
 have F6:=A6.f
 have b6:=F6.binds (ps:=["line"]) fun _ _ _ _ _ _=>us1 fun _=>rfl
 have F7:=A7.f
 have b7:=F7.binds (ps:=["thing"]) fun _ _ _ _ _ _=>us1 fun _=>rfl
 have F8:=A8.f
 have b8:=F8.binds (ps:=["text"]) fun _ _ _ _ _ _=>us1 fun _=>rfl
 have F9:=A9.f
 have b9:=F9.binds (ps:=["thing"]) fun _ _ _ _ _ _=>us1 fun _=>rfl
 have F10:=A10.f
 have b10:=F10.binds (ps:=["text"]) fun _ _ _ _ _ _=>us1 fun _=>rfl
 have F11:=A11.f
 have b11:=F11.binds (ps:=["_law_script","_law_k"]) fun _ _ _ _ _ _=>us2 fun _ _=>rfl
 have F12:=A12.f
 have b12:=F12.binds (ps:=["_law_script","_law_k"]) fun _ _ _ _ _ _=>us2 fun _ _=>rfl
 have F13:=A13.f
 have b13:=F13.binds (ps:=["_law_state_here","_law_many"]) fun _ _ _ _ _ _=>us2 fun _ _=>rfl
 have F14:=A14.f
 have b14:=F14.binds (ps:=["_law_call"]) fun _ _ _ _ _ _=>us1 fun _=>rfl
 have F15:=A15.f
 have b15:=F15.binds (ps:=["_law_held"]) fun _ _ _ _ _ _=>us1 fun _=>rfl
 have F16:=A16.f
 have b16:=F16.binds (ps:=["_law_state_here","_law_least","_law_most"]) fun _ _ _ _ _ _=>us3 fun _ _ _=>rfl
 have F17:=A17.f
 have b17:=F17.binds (ps:=["_law_thing","_law_least","_law_most"]) fun _ _ _ _ _ _=>us3 fun _ _ _=>rfl
 have F18:=A18.f
 have b18:=F18.binds (ps:=["_law_line"]) fun _ _ _ _ _ _=>us1 fun _=>rfl
 have F19:=A19.f
 have b19:=F19.binds (ps:=["_law_thing"]) fun _ _ _ _ _ _=>us1 fun _=>rfl
 have F20:=A20.f
 have b20:=F20.binds (ps:=["_law_table_here"]) fun _ _ _ _ _ _=>us1 fun _=>rfl
 have F21:=A21.f
 have b21:=F21.binds (ps:=["_law_found","_law_due_here"]) fun _ _ _ _ _ _=>us2 fun _ _=>rfl
 have F22:=A22.f
 have b22:=F22.binds (ps:=["_law_text_here"]) fun _ _ _ _ _ _=>us1 fun _=>rfl
 have F23:=A23.f
 have b23:=F23.binds (ps:=["_law_state_here","_law_text_here"]) fun _ _ _ _ _ _=>us2 fun _ _=>rfl
 have F24:=A24.f
 have b24:=F24.binds (ps:=["_law_script"]) fun _ _ _ _ _ _=>us1 fun _=>rfl
 have tc_law:a5z (hK w.params) (.ref 323) 319=true:=by kernel_rfl
 refine⟨PySem.W.fnOf "law" "law" (a2y a3L) (a0F a3L) (v7_ a3L) .none .none .none (.str "law_turnsigns_k92_texts_that_write_none" 502) none (.ref 323) .none,fun s v=>.of_eq rfl,by kernel_rfl,fun p hp=>?_,fun base _ _ hBm=>?_⟩
 ·obtain rfl:=List.mem_singleton.mp hp
  obtain⟨c,_,hc⟩:=b1b tc_law;exact⟨c,hc⟩
 have k_NUMBERS:DkG P w (hK w.params) mg "NUMBERS" [(.inr "+",.inl 1),(.inr "-",.inl (-1)),(.inr "0",.inl 0)]:=b7Q (es:=[HG.hE w.params "+" 472 (.int 1 473),HG.hE w.params "-" 474 (.int (-1) 476),HG.hE w.params "0" 477 (.int 0 478)]) (ep:=3) (Vp X G (v:=.ref 225) (by kernel_rfl)) (by kernel_rfl) (by decide) (.cons ⟨_,rfl⟩ rfl ⟨_,rfl⟩ (.cons ⟨_,rfl⟩ rfl ⟨_,rfl⟩ (.cons ⟨_,rfl⟩ rfl ⟨_,rfl⟩ (.nil))))
 have d_is_whole:Def P w (hK w.params) mg base "is_whole" 1 1 a1I:=⟨_,_,_,b8t F1 T,rfl,A1.g X G,A1.k,b1⟩
 have d_is_row:Def P w (hK w.params) mg base "is_row" 2 2 a1q:=⟨_,_,_,b8v F2 T d_is_whole,rfl,A2.g X G,A2.k,b2⟩
 have d_is_grid:Def P w (hK w.params) mg base "is_grid" 3 3 a3M:=⟨_,_,_,b8x F3 T d_is_row,rfl,A3.g X G,A3.k,b3⟩
 have d_is_square:Def P w (hK w.params) mg base "is_square" 4 3 a2W:=⟨_,_,_,b8z F4 T d_is_grid,rfl,A4.g X G,A4.k,b4⟩
 have d_flipped:Def P w (hK w.params) mg base "flipped" 1 1 a1J:=⟨_,_,_,b8B F5 T,rfl,A5.g X G,A5.k,b5⟩
 have d_takes_turns:Def P w (hK w.params) mg base "takes_turns" 1 1 a2m:=⟨_,_,_,b8C F6 T,rfl,A6.g X G,A6.k,b6⟩
 have d_is_table:Def P w (hK w.params) mg base "is_table" 5 1 a4E:=⟨_,_,_,b8E F7 T d_is_square d_takes_turns d_flipped,rfl,A7.g X G,A7.k,b7⟩
 have d_unwritten:Def P w (hK w.params) mg base "unwritten" 1 1 a2n:=⟨_,_,_,b8G F8 T k_NUMBERS,rfl,A8.g X G,A8.k,b8⟩
 have d_is_note:Def P w (hK w.params) mg base "is_note" 6 1 a1a:=⟨_,_,_,b8I F9 T d_is_table d_unwritten k_NUMBERS,rfl,A9.g X G,A9.k,b9⟩
 have d_table_read:Def P w (hK w.params) mg base "table_read" 7 1 a0M:=⟨_,_,_,b8J F10 T d_unwritten d_is_note,rfl,A10.g X G,A10.k,b10⟩
 have dx_table_read:DefX P w (hK w.params) mg base "table_read" 7 1 a1r:=⟨_,_,_,b8K F10 T d_unwritten d_is_note,rfl,A10.g X G,A10.k,b10⟩
 have d__law_cell_at:Def P w (hK w.params) mg base "_law_cell_at" 1 2 a3N:=⟨_,_,_,b8M F11 T,rfl,A11.g X G,A11.k,b11⟩
 have d__law_state:Def P w (hK w.params) mg base "_law_state" 2 2 a3O:=⟨_,_,_,b8N F12 T d__law_cell_at,rfl,A12.g X G,A12.k,b12⟩
 have d__law_take:Def P w (hK w.params) mg base "_law_take" 1 2 x4_:=⟨_,_,_,b8O F13 T,rfl,A13.g X G,A13.k,b13⟩
 have d__law_refused:=b8R (P:=P) (w:=w) (mg:=mg) (base:=base) F14 T (A14.g X G) b14
 have d__law_lines:Def P w (hK w.params) mg base "_law_lines" 1 1 a2q:=⟨_,_,_,b8T F15 T,rfl,A15.g X G,A15.k,b15⟩
 have d__law_table:Def P w (hK w.params) mg base "_law_table" 2 3 a2X:=⟨_,_,_,b8U F16 T d__law_take d__law_lines,rfl,A16.g X G,A16.k,b16⟩
 have d__law_whole:Def P w (hK w.params) mg base "_law_whole" 1 3 a1s:=⟨_,_,_,b8W F17 T,rfl,A17.g X G,A17.k,b17⟩
 have d__law_turns:Def P w (hK w.params) mg base "_law_turns" 1 1 a1b:=⟨_,_,_,b8Z F18 T,rfl,A18.g X G,A18.k,b18⟩
 have d__law_is_table:Def P w (hK w.params) mg base "_law_is_table" 2 1 a3Q:=⟨_,_,_,b9c F19 T d__law_turns d__law_whole,rfl,A19.g X G,A19.k,b19⟩
 have d__law_text:Def P w (hK w.params) mg base "_law_text" 1 1 a3R:=⟨_,_,_,b9f F20 T,rfl,A20.g X G,A20.k,b20⟩
 have d__law_same:Def P w (hK w.params) mg base "_law_same" 7 2 (a0l 6):=⟨_,_,_,b1F F21 T (A21.g X G) A21.k b21 6,rfl,A21.g X G,A21.k,b21⟩
 have d__law_due:Def P w (hK w.params) mg base "_law_due" 3 1 a2r:=⟨_,_,_,b9i F22 T d__law_is_table,rfl,A22.g X G,A22.k,b22⟩
 have d__law_bent:Def P w (hK w.params) mg base "_law_bent" 2 2 a1t:=⟨_,_,_,b9j F23 T d__law_take,rfl,A23.g X G,A23.k,b23⟩
 exact b9k F24 rfl T (b7A tc_law A24.c (by kernel_rfl) hBm) d__law_state d__law_text d__law_table d__law_due d__law_bent d__law_take d__law_refused d__law_same d_table_read dx_table_read
end K92
open PySem PySem.W PyProof.Rows
set_option maxRecDepth 100000 in
set_option maxHeartbeats 0 in
theorem PySem.Challenge.cw_turnsigns_k92_texts_that_write_none_holds : PySem.Challenge.rw_turnsigns_k92_texts_that_write_none.Holds := by
 o_law
 refine PySem.W.holds_open (r:=PySem.Challenge.rw_turnsigns_k92_texts_that_write_none.row) (q:=K92.hQ) (loose:=["NUMBERS"]) (Xt:=fun s=>xlAt K92.hQ [] s && recOk [] s) (XP:=XL K92.hQ []) (Yf:=Hook.obs K92.hHk) (Ya:=Hook.val K92.hHk) (YP:=Hook.says K92.hHk) (d:=K92.hDr) (kwd:=[]) (N:=7624) K92.hlf (Hook.of K92.hHk) (Hook.keeps K92.hHk) (fun s e=>xl_of s (Bool.and_eq_true_iff.mp e).1) XL.keeps (by kernel_rfl) (by kernel_rfl) (by kernel_rfl) (fun s e=>recFacts_of (Bool.and_eq_true_iff.mp e).2) rfl (by assumption) (by decide+kernel) ⟨rfl,rfl,rfl,rfl,rfl,by decide+kernel⟩ ⟨[.list []],by decide+kernel,by decide+kernel⟩ ?hc
 exact L2.Mir.b7y (l:=PySem.Challenge.rw_turnsigns_k92_texts_that_write_none) (k:=10) (x := "_law_script") (fn:=K92.a5M) rfl rfl ⟨rfl,by decide,by decide⟩ (fun w h Y=>⟨PySem.W.km_in_of Y,PySem.W.km_tabs_of Y⟩) K92.c0W K92.c0V
