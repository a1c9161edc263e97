import PyProof.Rows.All
import Wide.All
import OpenK.AllK
import Wide.FinOn
import Lean
import PyProof.EqAt
import PyProof.EqKinds
import PyProof.TupleCall
import PySem.Challenge.RW_turnsigns_k82_rows_that_come_next
set_option Elab.async false
set_option linter.all false
set_option maxRecDepth 100000
set_option maxHeartbeats 0
abbrev Qq:=PySem.W.Frag
abbrev Qz:=@PySem.wpAny_bind
abbrev Qj:=@Option.bind_some
abbrev Qx:=@PySem.Heap.get?_push_of_some
abbrev Qk:=@List.length_map
abbrev Qv:=@PySem.wpAny_pure
abbrev Qw:=@Bool.and_eq_true
abbrev Qy:=@List.all_eq_true
abbrev Qu:=@PySem.Heap.lt_size
abbrev Qp:=@List.size_toArray
abbrev Qb:=@PySem.Heap.get?_push_size
abbrev Qg:=@List.getElem?_eq_some_iff
abbrev Qh:=@List.map_cons
abbrev Qm:=@Nat.le_refl
abbrev Qn:=@List.mem_cons
abbrev Qc:=@if_pos
abbrev Ql:=@List.getElem?_set_ne
abbrev Qd:=@Nat.lt_of_lt_of_le
abbrev Qr:=@decide_eq_false
abbrev Qs:=@if_neg
abbrev Qi:=@Nat.ne_of_lt
abbrev Qt:=@List.length_append
abbrev Qa:=@List.mem_cons_of_mem
abbrev Qe:=@List.mem_map
abbrev Qo:=@List.mem_append_right
abbrev Zq:=@PySem.wpAny_mono
abbrev Zz:=@Bool.false_eq_true
abbrev Zj:=@List.getElem?_map
abbrev Zx:=@PySem.W.kia_one
abbrev Zk:=@List.not_mem_nil
abbrev Zv:=@List.mem_cons_self
abbrev Zw:=@PySem.W.mg_none_of
abbrev Zy:=@decide_eq_true_eq
abbrev Zu:=@PySem.mem_of_lookup
abbrev Zp:=@List.length_cons
abbrev Zb:=@Option.some.injEq
abbrev Zg:=@Bool.false_ne_true
abbrev Zf:=@PySem.PassesOwn.never
abbrev Zh:=@if_true
abbrev Zm:=@PyProof.Rows.slot_tuple_getitem
abbrev Zn:=@Ne.symm
abbrev Zc:=@PySem.wpAny_loadPart'
abbrev Zl:=@List.length_set
abbrev Zd:=@PySem.W.kia_tup
abbrev Zr:=@List.replicate_succ
abbrev Zs:=@decide_eq_true
abbrev Zi:=@PySem.Heap.size_push
abbrev Zt:=@List.getElem?_eq_getElem
abbrev Za:=@Option.some.inj
abbrev Ze:=@PySem.wpAny_field
abbrev Zo:=@Nat.le_trans
abbrev Yq:=@congrArg
abbrev Yz:=@List.map_map
abbrev Yj:=@PySem.W.Fast.te14364793385576792824
abbrev Yx:=@PySem.wpAny_callSpecial?_slot
abbrev Yk:=@PySem.wpAny_newObj_type
abbrev Yv:=@PySem.W.kitx_dict
abbrev Yw:=@if_false
abbrev Yy:=@List.mem_append
abbrev Yu:=@Option.map_some
abbrev Yp:=@List.map_congr_left
abbrev Yb:=@List.getElem?_set_self
abbrev Yg:=@Nat.lt_irrefl
abbrev Yh:=@PySem.F.slot_tuple_iterator_next
abbrev Ym:=@List.length_replicate
abbrev Yn:=@List.contains_iff_mem
abbrev Yc:=@List.getElem?_append_left
abbrev Yl:=@List.append_nil
abbrev Yd:=@or_false
abbrev Yr:=@PySem.wpAny_truthy_bool
abbrev Ys:=@PySem.Heap.SameBut.update
abbrev Yi:=@List.mem_range
abbrev Yt:=@PySem.wpAny_seqItems
abbrev Ye:=@PySem.boot_len
abbrev Yo:=@PySem.SeqAt.canLay_of_shaped
abbrev Jq:=@PySem.wpAny_setField_rec
abbrev Jz:=@PySem.wpAny_passesOwn
abbrev Jj:=@List.length_nil
abbrev Jx:=@List.getElem?_zipWith
abbrev Jk:=@congrFun
abbrev Jv:=@PySem.wpAny_holding
abbrev Jw:=@Int.toNat_natCast
abbrev Jy:=@Nat.le_of_succ_le
abbrev Ju:=@PySem.wpAny_rule
abbrev Jp:=@List.mem_of_getElem?
abbrev Jb:=@Prod.ext
abbrev Jg:=@Nat.le_of_lt
abbrev Jf:=@Option.isSome_iff_exists
abbrev Jh:=@PySem.wpAny_call_entry
abbrev Jm:=@List.length_zipWith
abbrev Jn:=@PySem.wpAny_standAt
abbrev Jc:=@List.sum_cons
abbrev Jl:=@List.mem_filter
abbrev Jd:=@List.nodup_cons
abbrev Jr:=@List.zip_cons_cons
abbrev Js:=@PySem.wpAny_pyIter_tuple
abbrev Ji:=@List.contains_cons
abbrev Jt:=@PySem.wpAny_ite_false
abbrev Ja:=@PySem.W.kasC_bind
abbrev Je:=@Option.map_none
abbrev Jo:=@Int.emod_nonneg
abbrev Uq:=@PySem.W.cellsFrom_some
abbrev Uz:=@Nat.zero_le
abbrev Uj:=@Option.map_eq_some_iff
abbrev Ux:=@List.zipWith_cons_cons
abbrev Uk:=@List.flatten_cons
abbrev Uv:=@PySem.wpAny_pyIter_list
abbrev Uw:=@Nat.lt_succ_of_lt
abbrev Uy:=@Nat.lt_trans
abbrev Uu:=@PySem.F.slot_zip_next
abbrev Up:=@PyProof.Rows.callWith_type1
abbrev Ub:=@List.getElem_mem
abbrev Ug:=@List.getD_eq_getElem?_getD
abbrev Uf:=@Array.length_toList
abbrev Uh:=@List.filter_eq_self
abbrev Um:=@Classical.byContradiction
abbrev Uc:=@List.map_append
abbrev Ul:=@PySem.wpAny_Call_Name_kw
abbrev Ud:=@PySem.F.args_tuple_add_2
abbrev Ur:=@PyProof.Rows.preSum_getD
abbrev Us:=@PySem.tupleKind_room_in1
abbrev Ui:=@Int.emod_lt_of_pos
abbrev Ut:=@List.getElem?_replicate
abbrev Ua:=@PySem.F.entry_tuple_add
abbrev Ue:=@PySem.W.kitx_list
abbrev Uo:=@List.append_assoc
abbrev Vq:=@PySem.F.args_tuple_iterator_next_1
abbrev Vz:=@PySem.F.slot_tuple_add
abbrev Vj:=@PySem.F.entry_tuple_iterator_next
abbrev Vx:=@List.take_of_length_le
abbrev Vk:=@PyProof.Rows.LSm.kept_iter
abbrev Vv:=@List.length_take
abbrev Vw:=@PySem.F.slot_tuple_mul
abbrev Vy:=@Nat.le_add_right
abbrev Vu:=@List.map_zipWith
abbrev Vp:=@LawfulBEq.eq_of_beq
abbrev Vb:=@List.getElem?_eq_none
abbrev Vg:=@PySem.wpAny_execs_nil
abbrev Vf:=@List.map_nil
abbrev Vh:=@List.find?_cons
abbrev Vm:=@List.cons.injEq
abbrev Vn:=@PySem.pushCells_keeps
abbrev Vc:=@List.nil_append
abbrev Vl:=@PySem.wpAny_updateSeq_pair
abbrev Vd:=@Bool.or_eq_true
abbrev Vr:=@Nat.gcd_comm
abbrev Vs:=@List.filterMap_cons
abbrev Vi:=@List.getElem?_range
abbrev Vt:=@List.forIn_nil
abbrev Va:=@PySem.W.kitx_tuple
abbrev Ve:=@Nat.lt_of_le_of_lt
abbrev Vo:=@Array.getElem?_map
abbrev Xq:=@List.all_cons
abbrev Xz:=@List.any_cons
abbrev Xj:=@Bool.false_or
abbrev Xx:=@PySem.wpAny_onRaise
abbrev Xk:=@PySem.wpAny_attempt
abbrev Xv:=@List.reverse_cons
abbrev Xw:=@Option.isSome_map
abbrev Xy:=@Nat.le_succ_of_le
abbrev Xu:=@List.length_range
abbrev Xp:=@beq_iff_eq
abbrev Xb:=@Nat.ne_of_gt
abbrev Xg:=@Nat.lt_succ_self
abbrev Xf:=@beq_self_eq_true
abbrev Xh:=@List.of_mem_zip
abbrev Xm:=@List.forIn_cons
abbrev Xn:=@List.map_id
abbrev OO:=Nat->Nat->Int
abbrev OI:=List (List Int)
abbrev OU:=PySem.Str->Option PySem.Value
abbrev OE:=PySem.Value->PySem.Shared->Prop
abbrev OA:=PySem.Addr->Prop
abbrev OX:=List (PySem.Addr×PySem.Obj)
namespace HG
open PySem PySem.W PySem.Calls PyProof.Rows
noncomputable def hnth {α:Type}(l:List α) (i:Nat) (d:α):α:=@List.rec α (fun _=>Nat->α) (fun _=>d) (fun a _ ih i=>@Nat.rec (fun _=>α) a (fun j _=>ih j) i) l i
def hsN(s:Stmt):Str:=match s with
 |.FunctionDef n ..=>n
 |.ClassDef n ..=>n
 |_=>Str.empty
def hsA(s:Stmt):Arguments:=match s with
 |.FunctionDef _ a ..=>a
 |_=>default
def hsB(s:Stmt):List Stmt:=match s with
 |.FunctionDef _ _ b ..=>b
 |.ClassDef _ _ _ b ..=>b
 |_=>[]
def hsS(s:Stmt):Scope:=match s with
 |.FunctionDef _ _ _ _ _ _ c ..=>c
 |_=>default
def hsP(s:Stmt):Pos:=match s with
 |.FunctionDef _ _ _ _ _ _ _ _ _ p=>p
 |_=>⟨0,0,0,0⟩
def hdep{α:Sort u}(_:α):Bool:=true
def hE(P:Params)(x:Str)(t:Tok)(v:Value):DictEntry:=⟨PyData.keyHash P x,.str x t,v⟩
def hZ:Obj:=⟨.type "tuple",none,.seq ⟨[]⟩ 0,⟨[]⟩⟩
def hU(l:List Value):Obj:=⟨.type "tuple",none,.seq ⟨l⟩ 0,⟨[]⟩⟩
def hN:Obj:=⟨.none,none,.fields ⟨[]⟩,⟨[]⟩⟩
def hC(n:Str)(t t2:Nat)(ln na fl:Int)(a:Addr)(g:Bool)(b:Addr)(v1 v2 v3 v4:Value):Obj:=
 ⟨.type "code",none,.fields ⟨[.str n t,.str n (Nat.add t 1),.str "/claim/cut.py" (Nat.add t 2),.int ln 0,.int na 0,.int 0 0,.int 0 0,.int fl 0,.ref a,.bool g,.int 181 0,.ref b,v1,v2,v3,v4,.int (Int.ofNat t2) 0,.int ln 0,.str "/claim/cut.py" (Nat.add t2 1)]⟩,⟨[]⟩⟩
def hX(s:Stmt)(q:Str)(g:Addr)(cl:List (Str×Addr))(d k dc m:Value)(an:Option Addr)(c ct:Value)(b:Addr):FuncData:=
 ⟨hsN s,q,hsA s,.stmts (hsB s),hsS s,g,cl,d,k,dc,m,an,c,ct,b⟩
def hR(s:Stmt):Obj:=⟨.none,none,.func (hX s (hsN s) 0 [] .none .none .none .none none .none .none 0),⟨[]⟩⟩
def hF(s:Stmt)(m c:Value):Obj:=⟨.type "function",none,.func (hX s (hsN s) 3 [] .none .none .none m none c .none 0),⟨[]⟩⟩
def hD5(s:Stmt)(a t:Nat)(ln na:Int)(m:Value):List Obj:=[hZ,hN,hR s,hC (hsN s) t (Nat.add t 3) ln na 3 a true (Nat.add a 1) .none .none .none (.ref (Nat.add a 2)),hF s m (.ref (Nat.add a 3))]
noncomputable def hvs (l:List Str) (t:Nat):List Value:=@List.rec Str (fun _=>Nat->List Value) (fun _=>[]) (fun x _ ih t=>.str x t::ih (Nat.succ t)) l t
noncomputable def hD7 (s:Stmt) (a t:Nat) (ln na:Int) (m:Value) (l:List Str):List Obj:=[hZ,hN,hU (hvs l (Nat.add t 3)),hZ,hR s,hC (hsN s) t (Nat.add (Nat.add t 3) l.length) ln na 3 a true (Nat.add a 1) .none (.ref (Nat.add a 2)) (.ref (Nat.add a 3)) (.ref (Nat.add a 4)),hF s m (.ref (Nat.add a 5))]
def hCl(P:Params)(s:Stmt)(a t:Nat)(ln:Int)(m:Value):List Obj:=
 [⟨.type "builtin_function_or_method",none,.fields ⟨[.builtin "type.__prepare__",.type "type"]⟩,⟨[]⟩⟩,
  ⟨.type "dict",none,.dict ⟨[hE P "__module__" (Nat.add t 7) m,hE P "__qualname__" (Nat.add t 9) (.str (hsN s) (Nat.add t 8)),hE P "__firstlineno__" (Nat.add t 11) (.int ln (Nat.add t 10)),hE P "__static_attributes__" (Nat.add t 12) (.ref (Nat.add a 6))]⟩ 4,⟨[]⟩⟩,
  hZ,hN,hC (hsN s) (Nat.add t 2) (Nat.add t 5) ln 0 0 (Nat.add a 2) false (Nat.add a 3) .none .none .none .none,
  ⟨.type "frame",none,.plain,⟨[some (.ref (Nat.add a 4)),some (.ref 3),some (.ref (Nat.add a 1)),none,some m,none,some (.ref 0)]⟩⟩,hZ,
  ⟨.type "dict",none,.dict ⟨[hE P "__module__" (Nat.add t 7) m,hE P "__firstlineno__" (Nat.add t 11) (.int ln (Nat.add t 10)),hE P "__static_attributes__" (Nat.add t 12) (.ref (Nat.add a 6)),hE P "__doc__" (Nat.add t 13) .none]⟩ 2,⟨[]⟩⟩,
  ⟨.type "type",none,.cls ⟨hsN s,[.ref 24],[.ref (Nat.add a 8),.ref 24,.type "ValueError",.type "Exception",.type "BaseException",.type "object"],Nat.add a 7,hsN s,true,[],[],false,none,false⟩,⟨[some (.ref (Nat.sub a 1)),none,some (.str (hsN s) t),some (.str (hsN s) (Nat.add t 8)),some (.builtin "ValueError.__new__"),some (.bool true)]⟩⟩,
  ⟨.type "super",none,.fields ⟨[.ref (Nat.add a 8),.ref (Nat.add a 8),.ref (Nat.add a 8)]⟩,⟨[]⟩⟩,
  ⟨.type "builtin_function_or_method",none,.fields ⟨[.builtin "object.__init_subclass__",.ref (Nat.add a 8)]⟩,⟨[]⟩⟩]
noncomputable def hfd (l:List (Nat×List Obj)) (b:Nat):Obj:=@List.rec (Nat×List Obj) (fun _=>Nat->Obj) (fun _=>hZ) (fun x _ ih b=>@Bool.rec (fun _=>Obj) (ih (Nat.sub b x.1)) (hnth x.2 b hZ) (Nat.blt b x.1)) l b
def hL3(l:List (Int×Addr)):List Value:=l.flatMap fun x=>[.int x.1 0,.int 0 0,.ref x.2]
noncomputable def hmk (f:Nat->Obj) (n:Nat) (fuel:Nat):Nat->Nat->BT:=
 @Nat.rec (fun _=>Nat->Nat->BT) (fun _ _=>.nil) (fun _ ih a b=>@Bool.rec (fun _=>BT) .nil (.node (f b) (ih (Nat.mul 2 a) (Nat.add a b)) (ih (Nat.mul 2 a) (Nat.add (Nat.mul 2 a) b))) (Nat.blt b n)) fuel
def hEnv(p:Program)(c:Value)(f:Addr):Env:={scope:=p.main.scope,locals:=mainNs,globals:=mainNs,cells:=[],code:=c,frame:=some f}
def hVw(p:Program)(l:List Nat):Program:={p with main:={p.main with body:=l.map fun i=>p.main.body.getD i (.Pass ⟨0,0,0,0⟩)}}
abbrev hSt(tr:Nat->Params->BT)(k n t:Nat)(w:World)(os:OsState):SharedT:=⟨tr k w.params,n,{},⟨[]⟩,{},t,os⟩
abbrev hCd(p:Program)(ev:Env):Code:=.body (behindTheImports p) ev
def hPre(m0:Nat)(ann:Option Value)(n n0 t0:Nat)(q q0:Pos)(tg:(String->Option Builtin)->Program->World->Nat->Option Value->Nat->Shared->Thread->Option (Shared×Thread))(dn:(String->Option Builtin)->Code->Sem Fin)(tb:String->Option Builtin)(p:Program)(tr:Nat->Params->BT)(ev:Env):Prop:=
 ∀w:World,(fun os=>tg tb p w m0 ann n ⟨boot_heap w.params,⟨[]⟩,boot_drawn,boot_toks,os⟩ (topStub p))=fun os=>some ((hSt tr 0 n0 t0 w os).abs,Thread.mk (dn tb (hCd p ev)) (hCd p ev) q0 [topFrame q])
def hBlk(m0:Nat)(ann:Option Value)(n n0 t0:Nat)(q q0 q1:Pos)(sr:(String->Option Builtin)->Program->World->Nat->Option Value->Nat->Nat->Shared->Thread->Option (Flow×Shared×Code×Pos))(tb:String->Option Builtin)(p:Program)(tr:Nat->Params->BT)(ev:Env):Prop:=
 ∀w:World,(fun os=>sr tb p w m0 ann 1 n (hSt tr 0 n0 t0 w os).abs (blockOf (behindTheImports p) ev (hCd p ev) q0 [topFrame q]))=fun os=>some (.next,(hSt tr 0 n0 t0 w os).abs,hCd p ev,q1)
def hPc(m0:Nat)(ann:Option Value)(n i j k n0 t0 n1 t1:Nat)(q q0 q1:Pos)(sr:(String->Option Builtin)->Program->World->Nat->Option Value->Nat->Nat->SharedT->Thread->Option (Flow×SharedT×Code×Pos))(tb:String->Option Builtin)(p:Program)(tr:Nat->Params->BT)(ev:Env):Prop:=
 ∀w:World,(fun os=>sr tb p w m0 ann 1 n (hSt tr k n0 t0 w os) (piecesOf (((behindTheImports p).drop i).take j) ev (hCd p ev) q0 [topFrame q]))=fun os=>some (.next,hSt tr (Nat.succ k) n1 t1 w os,hCd p ev,q1)
def hFin(m0:Nat)(ann:Option Value)(n k n0 t0:Nat)(q q0:Pos)(sr:(String->Option Builtin)->Program->World->Nat->Option Value->Nat->Shared->Thread->Option Shared)(tb:String->Option Builtin)(p:Program)(tr:Nat->Params->BT)(ev:Env):Prop:=
 ∀w:World,(fun os=>sr tb p w m0 ann n (hSt tr k n0 t0 w os).abs (Thread.mk (doneF .next) (hCd p ev) q0 [topFrame q]))=fun os=>some (hSt tr k n0 t0 w os).abs
variable{m0:Nat}{ann:Option Value}{q q0 q1:Pos}{tb:String->Option Builtin}{p:Program}{tr:Nat->Params->BT}{ev:Env}{n N i j k n0 t0 n1 t1:Nat}{r:Shared}
theorem hgo(h:hPre m0 ann n n0 t0 q q0 topGo denote tb p tr ev)(w:World)(os:OsState)(g:topRun tb p w m0 ann N (hSt tr 0 n0 t0 w os).abs (Thread.mk (denote tb (hCd p ev)) (hCd p ev) q0 [topFrame q])=some r):
  topRun tb p w m0 ann (Nat.add n N) ⟨boot_heap w.params,⟨[]⟩,boot_drawn,boot_toks,os⟩ (topStub p)=some r:=go_top (Jk (h w) os) g
theorem hblkk(h:hBlk m0 ann n n0 t0 q q0 q1 segRun tb p tr ev)(w:World)(os:OsState)(g:topRun tb p w m0 ann N (hSt tr 0 n0 t0 w os).abs (restOf ((behindTheImports p).drop 0) ev (hCd p ev) q1 [topFrame q])=some r):
  topRun tb p w m0 ann (Nat.add n N) (hSt tr 0 n0 t0 w os).abs (Thread.mk (denote tb (hCd p ev)) (hCd p ev) q0 [topFrame q])=some r:=piece_block (Jk (h w) os) g
theorem hpcs(h:hPc m0 ann n i j k n0 t0 n1 t1 q q0 q1 segRunT tb p tr ev)(w:World)(os:OsState)(g:topRun tb p w m0 ann N (hSt tr (Nat.succ k) n1 t1 w os).abs (restOf ((behindTheImports p).drop (Nat.add i j)) ev (hCd p ev) q1 [topFrame q])=some r):
  topRun tb p w m0 ann (Nat.add n N) (hSt tr k n0 t0 w os).abs (restOf ((behindTheImports p).drop i) ev (hCd p ev) q0 [topFrame q])=some r:=by
 have a:=piece_app (segRun_of (Jk (h w) os)) g
 have e:((behindTheImports p).drop i).take j++(behindTheImports p).drop (Nat.add i j)=(behindTheImports p).drop i:=by
  have:=List.take_append_drop j ((behindTheImports p).drop i);rw[List.drop_drop]at this;exact this
 rw[e]at a;exact a
theorem hfin'(e:(behindTheImports p).drop i=[])(h:hFin m0 ann n k n0 t0 q q0 topRun tb p tr ev)(w:World)(os:OsState):
  topRun tb p w m0 ann n (hSt tr k n0 t0 w os).abs (restOf ((behindTheImports p).drop i) ev (hCd p ev) q0 [topFrame q])=some (hSt tr k n0 t0 w os).abs:=by
 rw[e];exact Jk (h w) os
abbrev hSh(H:Params->Heap)(t:Nat)(w:World)(os:OsState):Shared:=⟨H w.params,⟨[]⟩,{},t,os⟩
structure hLk(p v:Program)(H:Params->Heap)(K:Params->Frag)(as ts:List Addr)(t:Nat)(ls:List Str:=[]):Prop where
 l1:∀w:World,(fun os=>staticsOk (PySem.W.Fast.tw5923862056798008813 p.main.body) (boot_heap w.params) (H w.params)&&namesBound p (H w.params)&&gensDone (hSh H t w os)&&laidKept (boot_heap w.params) (H w.params))=fun _=>true
 l2:∀w:World,(fun os=>PySem.W.Fast.tw5160383126252970620 (PySem.W.R.mapR (fun x=>x.name) (PySem.W.Fast.tw3399658132070893891 v)) (PySem.W.Fast.tw5991557255702980513 v) [] (hSh H t w os))=fun _=>expectedOf v
 l3:∀w:World,(H w.params).bltView=bltViewBooted
 l4:∀w:World,(fun os=>PySem.W.Fast.tw10880121769531294198 (H w.params) (PySem.W.Fast.tw821141287760084731 v ls) (PySem.W.R.mapR (fun x=>x.name) (PySem.W.Fast.tw3399658132070893891 v)) (PySem.W.R.mapR (fun x=>x.1) (PySem.W.Fast.tw7409074990110511671 v)) (PySem.W.R.mapR (fun x=>x.name) (PySem.W.Fast.tw13664370479719496447 v (PySem.W.Fast.tw821141287760084731 v ls)))&&PySem.W.Fast.tw14722251495701143533 (H w.params) (PySem.W.Fast.tw5923862056798008813 p.main.body)&&(H w.params).isNs mainGlobals&&(H w.params).isNs builtinsNs&&PySem.W.Fast.tw10994771534591457954 v (H w.params)&&(xlAt v [] (hSh H t w os)&&recOk [] (hSh H t w os))&&(if true then(hSh H t w os).gens.size==0 else !leftWithCleanup (hSh H t w os).gens))=fun _=>true
 l5:∀w:World,(fun os=>PySem.W.Fast.tw479339242167458305 v (hSh H t w os))=fun _=>true
 l6:∀w:World,(fun os=>PySem.W.Fast.tw16090120013241838585 v (PySem.W.Fast.tw3247288618530077131 v) (hSh H t w os))=fun _=>pinGoodD (PySem.W.Fast.tw3247288618530077131 v)
 l7:∀w:World,(fun os=>PySem.W.Fast.tw2386780881361962483 v (PySem.W.Fast.tw821141287760084731 v ls) (hSh H t w os))=fun _=>plainGoodE v (PySem.W.Fast.tw821141287760084731 v ls)
 l8:∀w:World,(fun os=>PySem.W.Fast.tw11698064438423848299 v ls (hSh H t w os))=fun _=>plainGoodD v ls
 l9:∀w:World,(fun os=>PySem.W.Fast.tw7317090234206586261 v (hSh H t w os))=fun _=>wideGood v
 l10:∀w:World,(fun os=>PySem.W.Fast.tw7369524293546568484 v ls (hSh H t w os))=fun _=>clsGoodW v ls
 l11:∀w:World,PySem.W.R.mapR (H w.params).get? as=PySem.W.R.mapR (fun p=>some p.2) (K w.params)
 l12:∀w:World,PySem.W.R.mapR (H w.params).get? ts=PySem.W.R.mapR (fun _=>some (tabObj #[])) ts
theorem hsize(w:World):((boot_heap w.params).isNs mainGlobals&&(Array.mk []:Array GenState).size==0,(boot_heap w.params).objs.size,(boot_heap w.params).nsMap mainGlobals "__annotations__")=(true,11,some (.ref 6)):=by
 rw[PySem.W.Fast.te8920871248978507458,show("__annotations__":Str)=⟨⟨[95,95,97,110,110,111,116,97,116,105,111,110,115,95,95]⟩⟩from PySem.W.Fast.ofString_ofList ['_','_','a','n','n','o','t','a','t','i','o','n','s','_','_']]
 kernel_rfl
theorem hleft{v:Program}{H:Params->Heap}{K:Params->Frag}{as ts:List Addr}{t M:Nat}(e:∀P,as=(K P).map (·.1))(eo:opening p=plainProg p.main.scope.names)(hf:∀s,fenceModules? p s=some s)(hN:Nat.ble 600 N=true)(le:Nat.ble M N=true)
  (run:∀(w:World) (os:OsState),topRun treeTable p w 11 (some (.ref 6)) M ⟨boot_heap w.params,⟨[]⟩,boot_drawn,boot_toks,os⟩ (topStub p)=some (hSh H t w os)){ls:List Str}(L:hLk p v H K as ts t ls):
  LeftO p v ls (fun s=>xlAt v [] s&&recOk [] s) (Hook.obs (kmHook K as e ts)) (Hook.val (kmHook K as e ts)) N:=by
 refine LeftO.of_pieces (boot_open eo hN hf) hsize run le fun w=>?_
 have q1:=L.l1 w;have q2:=L.l2 w;have q3:=L.l3 w;have q4:=L.l4 w;have q5:=L.l5 w;have q6:=L.l6 w;have q7:=L.l7 w;have q8:=L.l8 w;have q9:=L.l9 w;have q10:=L.l10 w;have q11:=L.l11 w;have q12:=L.l12 w
 simp only[←PySem.W.Fast.te5923862056798008813,←PySem.W.Fast.te5160383126252970620,←PySem.W.R.mapR_eq,←PySem.W.Fast.te3399658132070893891,←PySem.W.Fast.te5991557255702980513,←PySem.W.Fast.te10880121769531294198,←PySem.W.Fast.te821141287760084731,←PySem.W.Fast.te7409074990110511671,←PySem.W.Fast.te13664370479719496447,←PySem.W.Fast.te14722251495701143533,←PySem.W.Fast.te10994771534591457954,←PySem.W.Fast.te479339242167458305,←PySem.W.Fast.te16090120013241838585,←PySem.W.Fast.te3247288618530077131,←PySem.W.Fast.te2386780881361962483,←PySem.W.Fast.te11698064438423848299,←PySem.W.Fast.te7317090234206586261,←PySem.W.Fast.te7369524293546568484]at q1 q2 q4 q5 q6 q7 q8 q9 q10 q11 q12
 funext os
 unfold openSeen openGood;refine Jb (Jk q1 os) (Jb (Jb (Jk q2 os) (Jb q3 (Jb (Jk q4 os) (Jb (Jk q5 os) (Jb (Jk q6 os) (Jb (Jk q7 os) (Jb (Jk q8 os) (Jb (Jk q9 os) (Jk q10 os))))))))) (Jb q11 q12))
end HG
namespace K82
noncomputable section
open PySem PySem.W PySem.Calls PyProof.Rows HG
def hS(i:Nat):Stmt:=PySem.Challenge.pw_turnsigns_k82_rows_that_come_next.main.body.getD i (.Pass ⟨0,0,0,0⟩)
def hm0:Value:=(.str "turnsigns.errors" 187)
def hm1:Value:=(.str "turnsigns.grids" 239)
def hm2:Value:=(.str "turnsigns.counts" 271)
def hm3:Value:=(.str "turnsigns.shares" 307)
def hm4:Value:=(.str "law_turnsigns_k82_rows_that_come_next" 343)
def hc0(P:Params):List (Nat×List Obj):=[(15,[boot_o_0 P,boot_o_1 P,boot_o_2 P,hZ,boot_o_4 P,boot_o_5 P,boot_o_6 P,boot_o_7 P,boot_o_8 P,boot_o_9 P,boot_o_10 P,hZ,hZ,hC "<module>" 182 185 1 0 0 11 false 12 .none .none .none .none,⟨(.type "frame"),none,.plain,⟨[(some (.ref 13)),(some (.ref 3)),(some (.ref 3)),none,(some (.str "__main__" 164)),none,(some (.ref 0))]⟩⟩]),(13,[hU [(.type "ValueError")],⟨(.type "builtin_function_or_method"),none,.fields ⟨[(.builtin "type.__prepare__"),(.type "type")]⟩,⟨[]⟩⟩,⟨(.type "dict"),none,.dict ⟨[hE P "__module__" 196 (.str "turnsigns.errors" 187),hE P "__qualname__" 198 (.str "SignError" 197),hE P "__firstlineno__" 200 (.int 2 199),hE P "__static_attributes__" 201 (.ref 22)]⟩ 4,⟨[]⟩⟩,hZ,hN,hC "SignError" 191 194 2 0 0 18 false 19 .none .none .none .none,⟨(.type "frame"),none,.plain,⟨[(some (.ref 20)),(some (.ref 3)),(some (.ref 17)),none,(some (.str "turnsigns.errors" 187)),none,(some (.ref 0))]⟩⟩,hZ,⟨(.type "dict"),none,.dict ⟨[hE P "__module__" 196 (.str "turnsigns.errors" 187),hE P "__firstlineno__" 200 (.int 2 199),hE P "__static_attributes__" 201 (.ref 22),hE P "__weakref__" 203 (.ref 25),hE P "__doc__" 204 .none]⟩ 3,⟨[]⟩⟩,hZ,⟨(.type "getset_descriptor"),none,.fields ⟨[(.str "__weakref__" 202),(.ref 24),(.builtin "ExceptionGroup.__weakref__"),.none]⟩,⟨[]⟩⟩,⟨(.type "super"),none,.fields ⟨[(.ref 24),(.ref 24),(.ref 24)]⟩,⟨[]⟩⟩,⟨(.type "builtin_function_or_method"),none,.fields ⟨[(.builtin "object.__init_subclass__"),(.ref 24)]⟩,⟨[]⟩⟩]),(1,[hU [.ref 24]]),(11,hCl P (hS 2) 29 207 4 hm0),(1,[hU [.ref 24]]),(11,hCl P (hS 3) 41 223 6 hm0),(7,hD7 (hS 5) 52 241 9 1 hm1 ["thing"]),(7,hD7 (hS 6) 59 248 11 3 hm1 ["thing","least","greatest"]),(5,hD5 (hS 7) 66 257 13 2 hm1),(5,hD5 (hS 8) 71 263 17 3 hm1)]
def hc1(P:Params):List (Nat×List Obj):=[(7,hD7 (hS 11) 76 273 23 4 hm2 ["thing","least","greatest","name"]),(5,hD5 (hS 12) 83 283 26 1 hm2),(5,hD5 (hS 13) 88 289 31 2 hm2),(5,hD5 (hS 14) 93 295 33 2 hm2),(5,hD5 (hS 15) 98 301 35 2 hm2),(7,hD7 (hS 17) 103 309 42 2 hm3 ["thing","width"]),(7,hD7 (hS 18) 110 317 44 2 hm3 ["side","rows","sums","row"]),(7,hD7 (hS 19) 117 327 54 2 hm3 ["top","bottom","common","rest"]),(5,hD5 (hS 20) 124 337 59 2 hm3),(7,hD7 (hS 22) 129 345 65 2 hm4 ["_law_script","_law_k"])]
def hc2(P:Params):List (Nat×List Obj):=[(7,hD7 (hS 23) 136 353 69 2 hm4 ["_law_script","_law_k","_law_cell"]),(7,hD7 (hS 24) 143 362 74 2 hm4 ["_law_state_here","_law_many","_law_found","_law_mixed"]),(5,hD5 (hS 25) 150 372 83 1 hm4),(5,hD5 (hS 26) 155 378 95 2 hm4),(5,hD5 (hS 27) 160 384 97 2 hm4),(5,hD5 (hS 28) 165 390 110 1 hm4),(5,hD5 (hS 29) 170 396 120 2 hm4),(7,hD7 (hS 30) 175 402 126 2 hm4 ["_law_top","_law_bottom","_law_one","_law_other"]),(5,hD5 (hS 31) 182 412 131 1 hm4)]
def hB(P:Params):Nat->Obj:=hfd (hc0 P++hc1 P++hc2 P)
def b1V(P:Params)(v:Value):List DictEntry:=[hE P "__name__" 165 v,hE P "__doc__" 166 .none,hE P "__package__" 167 .none,hE P "__loader__" 168 (.builtin "__main__.__loader__#opaque"),hE P "__spec__" 169 .none,hE P "__annotations__" 170 (.ref 6),hE P "__builtins__" 171 (.ref 4),hE P "__file__" 173 (.str "/claim/cut.py" 172),hE P "__cached__" 174 .none,hE P "SignError" 206 (.ref 24),hE P "NoNumber" 222 (.ref 37),hE P "NoRows" 238 (.ref 49),hE P "is_whole" 247 (.ref 58),hE P "is_within" 256 (.ref 65),hE P "is_row" 262 (.ref 70),hE P "is_grid" 268 (.ref 75)]
def b1W(P:Params)(v:Value):List DictEntry:=[hE P "GREATEST_SIDE" 270 (.int 6 269),hE P "must_be_within" 282 (.ref 82),hE P "rows_on" 288 (.ref 87),hE P "added" 294 (.ref 92),hE P "choices_on" 300 (.ref 97),hE P "ways_on" 306 (.ref 102),hE P "is_rows" 316 (.ref 109),hE P "sums_behind" 326 (.ref 116),hE P "fraction" 336 (.ref 123),hE P "next_rows" 342 (.ref 128),hE P "_law_cell_at" 352 (.ref 135),hE P "_law_state" 361 (.ref 142),hE P "_law_take" 371 (.ref 149),hE P "_law_rows" 377 (.ref 154),hE P "_law_held" 383 (.ref 159),hE P "_law_table" 389 (.ref 164)]
def b1X(P:Params)(v:Value):List DictEntry:=[hE P "_law_counts" 395 (.ref 169),hE P "_law_same" 401 (.ref 174),hE P "_law_cut" 411 (.ref 181),hE P "law" 417 (.ref 186)]
def he3(P:Params)(v:Value):List DictEntry:=b1V P v++b1W P v++b1X P v
def ht3(k:Nat):Nat×Nat×Value:=hnth [(9,9,(.str "__main__" 164)),(10,10,(.str "turnsigns.errors" 187)),(11,11,(.str "turnsigns.errors" 187)),(18,18,(.str "turnsigns.counts" 271)),(31,31,(.str "law_turnsigns_k82_rows_that_come_next" 343)),(36,36,(.str "law_turnsigns_k82_rows_that_come_next" 343))] k (0,0,.none)
def hx3(P:Params)(k:Nat):Obj:=⟨(.type "dict"),none,.dict ⟨(he3 P (ht3 k).2.2).take (ht3 k).1⟩ (ht3 k).2.1,⟨[]⟩⟩
def b1Y:List Value:=hL3 [(2,20),(4,33),(6,45),(9,57),(11,64),(13,69),(17,74),(23,81),(26,86),(31,91),(33,96),(35,101),(42,108),(44,115),(54,122),(59,127),(65,134),(69,141),(74,148),(83,153),(95,158),(97,163),(110,168),(120,173),(126,180),(131,185)]
def b1Z(_:Params)(k:Nat):Obj:=⟨.none,none,.fields ⟨b1Y.take (hnth [0,3,6,24,63,78] k 0)⟩,⟨[]⟩⟩
def b2a:List Value:=[(.ref 37),(.ref 49)]
def b2b(_:Params)(k:Nat):Obj:=⟨(.type "type"),none,.cls ⟨"SignError",[(.type "ValueError")],[(.ref 24),(.type "ValueError"),(.type "Exception"),(.type "BaseException"),(.type "object")],23,"SignError",true,[],b2a.take (hnth [0,0,1,2,2,2] k 0),false,none,false⟩,⟨[(some (.ref 15)),none,(some (.str "SignError" 189)),(some (.str "SignError" 197)),(some (.builtin "ValueError.__new__")),(some (.bool true))]⟩⟩
def hO(P:Params)(k b:Nat):Obj:=match Nat.beq b 3 with|true=>hx3 P k|false=>match Nat.beq b 12 with|true=>b1Z P k|false=>match Nat.beq b 24 with|true=>b2b P k|false=>hB P b
def hn(k:Nat):Nat:=hnth [15,28,40,83,160,187] k 0
noncomputable def hT (k:Nat) (P:Params):BT:=hmk (hO P k) (hn k) 12 1 0
def hV:Env:=hEnv PySem.Challenge.pw_turnsigns_k82_rows_that_come_next (.ref 13) 14
def hQ:Program:=hVw PySem.Challenge.pw_turnsigns_k82_rows_that_come_next [1,2,3,5,6,7,8,9,11,12,13,14,15,17,18,19,20,22,23,24,25,26,27,28,29,30,31]
def hA:List Nat:=[2,3,15,22,23,24,25,28,35,36,37,40,47,48,49,52,54,55,57,58,59,61,62,64,65,66,69,70,71,74,75,76,78,79,81,82,83,86,87,88,91,92,93,96,97,98,101,102,103,105,106,108,109,110,112,113,115,116,117,119,120,122,123,124,127,128,129,131,132,134,135,136,138,139,141,142,143,145,146,148,149,150,153,154,155,158,159,160,163,164,165,168,169,170,173,174,175,177,178,180,181,182,185,186]
def hK(P:Params):Frag:=hA.map fun a=>(a,hO P 5 a)
def hH(P:Params):Heap:=absHeap (hT 5 P) 187 {}
theorem htw:(hdep hT&&hdep hH&&hdep hV&&hdep hQ&&hdep hK&&hdep PySem.Challenge.pw_turnsigns_k82_rows_that_come_next)=true:=by k_qdec
abbrev hpw:=PySem.Challenge.pw_turnsigns_k82_rows_that_come_next
noncomputable abbrev fb:=PySem.W.Fast.tw14364793385576792824
noncomputable abbrev fp:=PySem.W.Fast.tw6508634642252596212
noncomputable abbrev ft:=PySem.W.Fast.tw10197987224673870228
noncomputable abbrev fv:=PySem.W.Fast.tw15176293445199223988
theorem b2c:hPre 11 (some (.ref 6)) 12 15 187 ⟨0,0,0,0⟩ ⟨0,0,0,0⟩ PySem.W.Fast.tw15667345088766844465 PySem.W.Fast.tw11892475500146522536 fb fp ft fv:=fun w=>by kernel_rfl
theorem hpre:hPre 11 (some (.ref 6)) 12 15 187 ⟨0,0,0,0⟩ ⟨0,0,0,0⟩ topGo denote treeTable PySem.Challenge.pw_turnsigns_k82_rows_that_come_next hT hV:=by rw[PySem.W.Fast.te15667345088766844465,PySem.W.Fast.te11892475500146522536,Yj,PySem.W.Fast.te6508634642252596212,PySem.W.Fast.te10197987224673870228,PySem.W.Fast.te15176293445199223988];exact b2c
theorem b2d:hBlk 11 (some (.ref 6)) 1 15 187 ⟨0,0,0,0⟩ ⟨0,0,0,0⟩ ⟨0,0,0,0⟩ PySem.W.Fast.tw14374325043358763698 fb fp ft fv:=fun w=>by kernel_rfl
theorem hblk:hBlk 11 (some (.ref 6)) 1 15 187 ⟨0,0,0,0⟩ ⟨0,0,0,0⟩ ⟨0,0,0,0⟩ segRun treeTable PySem.Challenge.pw_turnsigns_k82_rows_that_come_next hT hV:=by rw[PySem.W.Fast.te14374325043358763698,Yj,PySem.W.Fast.te6508634642252596212,PySem.W.Fast.te10197987224673870228,PySem.W.Fast.te15176293445199223988];exact b2d
theorem hsl{m0:Nat}{ann:Option Value}{n i j k n0 t0 n1 t1:Nat}{q q0 q1:Pos}(h:hPc m0 ann n i j k n0 t0 n1 t1 q q0 q1 PySem.W.Fast.tw10110043849684766642 fb fp ft fv):hPc m0 ann n i j k n0 t0 n1 t1 q q0 q1 segRunT treeTable PySem.Challenge.pw_turnsigns_k82_rows_that_come_next hT hV:=by rw[PySem.W.Fast.te10110043849684766642,Yj,PySem.W.Fast.te6508634642252596212,PySem.W.Fast.te10197987224673870228,PySem.W.Fast.te15176293445199223988];exact h
theorem hp0:hPc 11 (some (.ref 6)) 196 0 2 0 15 187 28 207 ⟨0,0,0,0⟩ ⟨0,0,0,0⟩ ⟨2,0,3,8⟩ segRunT treeTable hpw hT hV:=hsl fun w=>by kernel_rfl
theorem hp1:hPc 11 (some (.ref 6)) 214 2 1 1 28 207 40 223 ⟨0,0,0,0⟩ ⟨2,0,3,8⟩ ⟨4,0,5,8⟩ segRunT treeTable hpw hT hV:=hsl fun w=>by kernel_rfl
theorem hp2:hPc 11 (some (.ref 6)) 385 3 9 2 40 223 83 283 ⟨0,0,0,0⟩ ⟨4,0,5,8⟩ ⟨23,0,25,87⟩ segRunT treeTable hpw hT hV:=hsl fun w=>by kernel_rfl
theorem hp3:hPc 11 (some (.ref 6)) 388 12 15 3 83 283 160 384 ⟨0,0,0,0⟩ ⟨23,0,25,87⟩ ⟨95,0,96,105⟩ segRunT treeTable hpw hT hV:=hsl fun w=>by kernel_rfl
theorem hp4:hPc 11 (some (.ref 6)) 137 27 5 4 160 384 187 418 ⟨0,0,0,0⟩ ⟨95,0,96,105⟩ ⟨131,0,151,15⟩ segRunT treeTable hpw hT hV:=hsl fun w=>by kernel_rfl
theorem b2e:hFin 11 (some (.ref 6)) 2 5 187 418 ⟨0,0,0,0⟩ ⟨131,0,151,15⟩ PySem.W.Fast.tw14082659384304107361 fb fp ft fv:=fun w=>by kernel_rfl
theorem hfin:hFin 11 (some (.ref 6)) 2 5 187 418 ⟨0,0,0,0⟩ ⟨131,0,151,15⟩ topRun treeTable PySem.Challenge.pw_turnsigns_k82_rows_that_come_next hT hV:=by rw[PySem.W.Fast.te14082659384304107361,Yj,PySem.W.Fast.te6508634642252596212,PySem.W.Fast.te10197987224673870228,PySem.W.Fast.te15176293445199223988];exact b2e
theorem hrun(w:World)(os:OsState):topRun treeTable PySem.Challenge.pw_turnsigns_k82_rows_that_come_next w 11 (some (.ref 6)) (Nat.add 12 (Nat.add 1 (Nat.add 196 (Nat.add 214 (Nat.add 385 (Nat.add 388 (Nat.add 137 (2)))))))) ⟨boot_heap w.params,⟨[]⟩,boot_drawn,boot_toks,os⟩ (topStub PySem.Challenge.pw_turnsigns_k82_rows_that_come_next)=some (SharedT.abs ⟨hT 5 w.params,187,{},⟨[]⟩,{},418,os⟩):=hgo hpre w os (hblkk hblk w os (hpcs hp0 w os (hpcs hp1 w os (hpcs hp2 w os (hpcs hp3 w os (hpcs hp4 w os (hfin' (by kernel_rfl) hfin w os)))))))
theorem b2f:hLk PySem.W.Fast.tw6508634642252596212 PySem.W.Fast.tw15301729324305011048 PySem.W.Fast.tw18275725492375079217 PySem.W.Fast.tw12932392815113997371 hA [] 418 []:=⟨fun _=>by kernel_rfl,fun _=>by kernel_rfl,fun _=>by kernel_rfl,fun _=>by kernel_rfl,fun _=>by kernel_rfl,fun _=>by kernel_rfl,fun _=>by kernel_rfl,fun _=>by kernel_rfl,fun _=>by kernel_rfl,fun _=>by kernel_rfl,fun _=>by kernel_rfl,fun _=>by kernel_rfl⟩
theorem hlk:hLk PySem.Challenge.pw_turnsigns_k82_rows_that_come_next hQ hH hK hA [] 418 []:=by rw[PySem.W.Fast.te6508634642252596212,PySem.W.Fast.te15301729324305011048,PySem.W.Fast.te18275725492375079217,PySem.W.Fast.te12932392815113997371];exact b2f
abbrev hHk:Hook:=kmHook hK hA (fun _=>by kernel_rfl) []
theorem hlf:LeftO PySem.Challenge.pw_turnsigns_k82_rows_that_come_next hQ [] (fun s=>xlAt hQ [] s&&recOk [] s) (Hook.obs hHk) (Hook.val hHk) 2756:=hleft (fun _=>by kernel_rfl) (by kernel_rfl) (fun _=>by kernel_rfl) (by decide) (by decide) hrun hlk
abbrev hDr:DefRec:=⟨"law",hsA (hS 31),hsB (hS 31),hsS (hS 31),hsP (hS 31)⟩
end
end K82
namespace K82
open PySem PySem.W PyProof.Rows
theorem b2g(hc:WalkO hQ [] (XL hQ []) (Hook.says hHk) PySem.Challenge.rw_turnsigns_k82_rows_that_come_next.row.toRowW hDr [] fun f vs=>call f vs):PySem.Challenge.rw_turnsigns_k82_rows_that_come_next.Holds:=by
 o_law
 exact holds_open (Xt:=fun s=>xlAt hQ [] s&&recOk [] s) (Yf:=Hook.obs hHk) (Ya:=Hook.val hHk) (N:=2756) hlf (Hook.of hHk) (Hook.keeps hHk) (fun s e=>xl_of s (Bool.and_eq_true_iff.mp e).1) XL.keeps (by kernel_rfl) (by kernel_rfl) (by kernel_rfl) (fun s e=>recFacts_of (Bool.and_eq_true_iff.mp e).2) rfl (by assumption) (by decide+kernel) ⟨rfl,rfl,rfl,rfl,rfl,by decide+kernel⟩ ⟨[.list []],by decide+kernel,by decide+kernel⟩ hc
end K82
namespace L2
open PySem PySem.Spec PyProof.Rows
abbrev Key:=Sum Int Str
def a2D:Key->Value->Bool
 |.inl k,v=>Value.isInt k v
 |.inr x,v=>Value.isStrOf x v
def b2h(w:World):Key->Int
 |.inl k=>hashInt k
 |.inr x=>hashStr w x
theorem a1k:∀{k:Key}{v:Value},a2D k v=true->(∃i t,k=Sum.inl i/\v=Value.int i t)∨(∃x t,k=Sum.inr x/\v=Value.str x t)
 |.inl i,v,h=>by
  obtain⟨t,e⟩:=Value.isInt_shape (k:=i) (v:=v) h;exact .inl ⟨i,t,rfl,e⟩
 |.inr x,v,h=>by
  obtain⟨t,e⟩:=Value.isStrOf_shape (x:=x) (v:=v) h;exact .inr ⟨x,t,rfl,e⟩
theorem b2i(i:Int)(t:Tok):a2D (.inl i) (.int i t)=true:=by simp[a2D,Value.isInt]
theorem b2j(x:Str)(t:Tok):a2D (.inr x) (.str x t)=true:=by simp[a2D,Value.isStrOf]
theorem b2k(a b:Int):decide ((Sum.inl a:Key)=Sum.inl b)=(a==b):=by
 by_cases e:a=b
 ·subst e;simp
 ·have h:¬ (Sum.inl a:Key)=Sum.inl b:=fun q=>e (Sum.inl.inj q)
  rw[Qr h];exact(beq_eq_false_iff_ne.mpr e).symm
theorem b2l(a b:Str):decide ((Sum.inr a:Key)=Sum.inr b)=decide (a=b):=by
 by_cases e:a=b
 ·subst e;simp
 ·have h:¬ (Sum.inr a:Key)=Sum.inr b:=fun q=>e (Sum.inr.inj q)
  rw[Qr h,Qr e]
theorem b2m(a:Int)(b:Str):decide ((Sum.inl a:Key)=Sum.inr b)=false:=Qr (fun q=>nomatch q)
theorem b2n(a:Str)(b:Int):decide ((Sum.inr a:Key)=Sum.inl b)=false:=Qr (fun q=>nomatch q)
def u6_(prog:Program)(w:World):PySem.KeyKind prog w Key where
 is:=a2D
 hash:=b2h w
 inj:=fun v a b ha hb=>by
  rcases a1k ha with⟨i,t,rfl,rfl⟩|⟨x,t,rfl,rfl⟩
  ·rcases a1k hb with⟨j,u,rfl,e⟩|⟨y,u,rfl,e⟩
   ·injection e with e1 _;rw[e1]
   ·exact nomatch e
  ·rcases a1k hb with⟨j,u,rfl,e⟩|⟨y,u,rfl,e⟩
   ·exact nomatch e
   ·injection e with e1 _;rw[e1]
 byValue:=fun k v h=>by
  rcases a1k h with⟨i,t,rfl,rfl⟩|⟨x,t,rfl,rfl⟩<;>rfl
 pyHash:=fun hv h=>by
  rcases a1k hv with⟨i,t,rfl,rfl⟩|⟨x,t,rfl,rfl⟩
  ·exact wpAny_pyHash_int h
  ·exact wpAny_pyHash_str h
 eqBool:=fun hu hv h=>by
  rcases a1k hu with⟨i,t,rfl,rfl⟩|⟨x,t,rfl,rfl⟩
  ·rcases a1k hv with⟨j,u,rfl,rfl⟩|⟨y,u,rfl,rfl⟩
   ·rw[b2k]at h;exact wpAny_eqBool_int h
   ·rw[b2m]at h;exact SeqAt.EqAt.int_str i t y u _ _ _ _ h
  ·rcases a1k hv with⟨j,u,rfl,rfl⟩|⟨y,u,rfl,rfl⟩
   ·rw[b2n]at h;exact SeqAt.EqAt.str_int x t j u _ _ _ _ h
   ·rw[b2l]at h;exact wpAny_eqBool_str h
 «strs»:=fun k x t v h=>by
  rcases a1k h with⟨i,u,rfl,e⟩|⟨y,u,rfl,e⟩
  ·exact nomatch e
  ·injection e with e1 _
   subst e1;cases v<;>rfl
theorem b2o(prog:Program)(w:World)(i:Int)(t:Tok):(u6_ prog w).is (.inl i) (.int i t)=true:=b2i i t
theorem b2p(prog:Program)(w:World)(x:Str)(t:Tok):(u6_ prog w).is (.inr x) (.str x t)=true:=b2j x t
inductive V where
 |non|bl (b:Bool)|int (i:Int)|str (x:Str)|byt (b:Array UInt8)|flt (b:UInt64)|ref (a:Addr)|ty (n:String)
 deriving DecidableEq
def q6_:V->Value->Prop
 |.non,u=>u=Value.none
 |.bl b,u=>u=Value.bool b
 |.int i,u=>∃t,u=Value.int i t
 |.str x,u=>∃t,u=Value.str x t
 |.byt b,u=>∃t,u=Value.bytes b t
 |.flt b,u=>∃t,u=Value.float b t
 |.ref a,u=>u=Value.ref a
 |.ty n,u=>u=Value.type n
abbrev q3_:List V->List Value->Prop:=Paired q6_
theorem q3_.length{xs:List V}{us:List Value}(r:q3_ xs us):xs.length=us.length:=Paired.length r
theorem q3_.get:∀{xs:List V}{us:List Value}{i:Nat}{x:V},q3_ xs us->xs[i]? =some x->∃u,us[i]? =some u/\q6_ x u
 |_,_,_,_,.nil,e=>by simp at e
 |_,_,0,_,.cons r _,e=>by simp at e;subst e;exact⟨_,rfl,r⟩
 |_,_,i+1,x,.cons _ t,e=>by
  obtain⟨u,h1,h2⟩:=q3_.get (i:=i) (x:=x) t (by simpa using e)
  exact⟨u,by simpa using h1,h2⟩
theorem q3_.set{x:V}{u:Value}(r:q6_ x u):∀{xs:List V}{us:List Value}(i:Nat),q3_ xs us->q3_ (xs.set i x) (us.set i u)
 |_,_,_,.nil=>.nil
 |_,_,0,.cons _ t=>.cons r t
 |_,_,i+1,.cons q t=>.cons q (q3_.set r i t)
theorem q3_.append:∀{xs ys:List V}{us ws:List Value},q3_ xs us->q3_ ys ws->q3_ (xs++ys) (us++ws)
 |_,_,_,_,.nil,s=>s
 |_,_,_,_,.cons r t,s=>.cons r (q3_.append t s)
theorem q3_.take:∀{xs:List V}{us:List Value}(n:Nat),q3_ xs us->q3_ (xs.take n) (us.take n)
 |_,_,0,_=>.nil
 |_,_,_+1,.nil=>.nil
 |_,_,n+1,.cons r t=>.cons r (q3_.take n t)
theorem q3_.drop:∀{xs:List V}{us:List Value}(n:Nat),q3_ xs us->q3_ (xs.drop n) (us.drop n)
 |_,_,0,r=>r
 |_,_,_+1,.nil=>.nil
 |_,_,n+1,.cons _ t=>q3_.drop n t
def a0X:Option V->Option Value->Prop
 |some v,some u=>q6_ v u
 |none,none=>True
 |_,_=>False
def KV{κ:Type}:List (κ×V)->List (κ×Value)->Prop:=Paired fun(p:κ×V) (q:κ×Value)=>p.1=q.1/\q6_ p.2 q.2
def kV:Key->V
 |.inl i=>.int i
 |.inr x=>.str x
inductive HO where
 |lst (xs:List V)
 |tup (xs:List V)
 |dK (kvs:List (Key×V))|dT (C:Addr->List Key->Prop) (kvs:List (List Key×V))
 |set (S:Int->Bool) (n:Nat)
 |ins (C dx:Addr) (fs:List (Str×V))
 |own (x:Addr)
 |xd (fs:List (Str×V))
 |met (f x:Addr)
 |rng (lo hi:Int)
 |frz (o:Obj) (u:HO)
 |tbl (ps:Array Value)
 |ext (φ:Heap->Prop)
abbrev Hp:=Addr->Option HO
def upd(H:Hp)(a:Addr)(o:HO):Hp:=fun b=>if b=a then some o else H b
theorem y6_{H:Hp}{a:Addr}{o:HO}:upd H a o a=some o:=by unfold upd;rw[Qc rfl]
theorem q8_{H:Hp}{a b:Addr}{o:HO}(h:b≠a):upd H a o b=H b:=by unfold upd;rw[Qs h]
theorem a8j{H:Hp}{a:Addr}{o u:HO}:upd (upd H a o) a u=upd H a u:=by
 funext b;unfold upd;split<;>rfl
theorem b2q{H:Hp}{a b:Addr}{o u:HO}(h:H a=some o)(h':H b=some u)(d:o≠u):a≠b:=by
 intro e;subst e;rw[h]at h';exact d (Za h')
theorem g9_{H:Hp}{a b:Addr}{o:HO}(h:H a=some o)(h':H b=none):a≠b:=by
 intro e;subst e;rw[h]at h';cases h'
def a0z(h:Heap)(a:Addr)(items:Array Value):Prop:=∃o,h.get? a=some o/\o.cls=.type "tuple"/\o.dict=none/\∃n,o.data=.seq items n
theorem a0z.tup{h:Heap}{a:Addr}{items:Array Value}:a0z h a items->IsTup h a items:=fun⟨o,e,c,_,d⟩=>⟨o,e,c,d⟩
theorem a0z.lt{h:Heap}{a:Addr}{items:Array Value}(p:a0z h a items):a<h.objs.size:=p.tup.lt
theorem a0z.new(h:Heap)(items:Array Value):a0z (h.push {cls:=.type "tuple",data:=.seq items}) h.objs.size items:=⟨_,Qb _ rfl,rfl,rfl,_,rfl⟩
section
variable(P:Program)(w:World)
def x4_(H:Hp)(h:Heap)(a:Addr):HO->Prop
 |.lst xs=>xs.length≤sizeLine/\∃(its:List Value) (n:Nat),q3_ xs its/\h.get? a=some {cls:=.type "list",data:=.seq its.toArray n}
 |.tup xs=>xs.length≤sizeLine/\∃its:List Value,q3_ xs its/\a0z h a its.toArray
 |.dK kvs=>kvs.length≤sizeLine/\(a==sysModules)=false/\∃vs,KV kvs vs/\h.DictOf (u6_ P w) a vs
 |.dT C kvs=>kvs.length≤sizeLine/\(a==sysModules)=false/\∃xs:List (List Key×Addr×Value),
   Paired (fun(p:List Key×V) (q:List Key×Addr×Value)=>p.1=q.1/\(H q.2.1=some (.tup (p.1.map kV))∨C q.2.1 p.1)/\q6_ p.2 q.2.2) kvs xs/\
   ∃o es ep,h.get? a=some o/\o.ExactDict/\o.data=.dict es ep/\es.toList=xs.map (entryOfKey (tupleKind (u6_ P w)))/\(xs.map (·.1)).Nodup
 |.set S n=>h.SetOf (intKind P w) a S n
 |.ins C dx fs=>H dx=some (.own a)/\fs.length≤1000/\dx≠a/\h.get? a=some (PySem.W.instObj C dx)/\
   ∃mA,h.Ns1 dx mA/\(∀f,a0X (fs.lookup f) (mA f))/\PySem.Within mA (fs.map (·.1))
 |.own _=>∃o,h.get? a=some o
 |.xd fs=>∃mA,h.Ns1 a mA/\∀f,a0X (fs.lookup f) (mA f)
 |.rng lo hi=>∃t u v,h.get? a=some {cls:=.type "range",data:=.fields #[.int lo t,.int hi u,.int 1 v]}
 |.frz o u=>h.get? a=some o/\x4_ H h a u
 |.tbl ps=>h.get? a=some {cls:=.none,data:=.fields ps}
 |.met f x=>h.get? a=some (PySem.W.methodObj (.ref f) (.ref x))
 |.ext φ=>φ h/\(∃o,h.get? a=some o)/\∀h1 h2:Heap,φ h1->(∀o,h1.get? a=some o->h2.get? a=some o)->φ h2
def HOk(H:Hp)(h:Heap):Prop:=∀a o,H a=some o->x4_ P w H h a o
end
section
variable{P:Program}{w:World}{H H':Hp}{h h':Heap}{a:Addr}{o:HO}
theorem x4_.lt(x:x4_ P w H h a o):a<h.objs.size:=by
 cases o with
 |lst xs=>obtain⟨_,_,_,_,e⟩:=x;exact Qu e
 |tup xs=>obtain⟨_,_,_,p⟩:=x;exact p.lt
 |dK kvs=>obtain⟨_,_,_,_,o,_,_,e,_⟩:=x;exact Qu e
 |dT C kvs=>obtain⟨_,_,_,_,o,_,_,e,_⟩:=x;exact Qu e
 |set S n=>obtain⟨o,_,_,_,e,_⟩:=x;exact Qu e
 |ins C dx fs=>obtain⟨_,_,_,e,_⟩:=x;exact Qu e
 |own y=>obtain⟨_,e⟩:=x;exact Qu e
 |xd fs=>obtain⟨_,⟨_,_,_,e,_⟩,_⟩:=x;exact Qu e
 |rng lo hi=>obtain⟨_,_,_,e⟩:=x;exact Qu e
 |frz ob u=>obtain⟨e,_⟩:=x;exact Qu e
 |tbl ps=>exact Qu (show h.get? a=some _ from x)
 |met f y=>exact Qu (show h.get? a=some _ from x)
 |ext φ=>obtain⟨_,⟨_,e⟩,_⟩:=x;exact Qu e
theorem Paired.mapP{α β:Type}{F G:α->β->Prop}:∀{l₁:List α}{l₂:List β},Paired F l₁ l₂->(∀a b,F a b->G a b)->Paired G l₁ l₂
 |_,_,.nil,_=>.nil
 |_,_,.cons r t,f=>.cons (f _ _ r) (Paired.mapP t f)
theorem x4_.stay(x:x4_ P w H h a o)(k:∀b u,(b=a∨H b=some (.own a))->h.get? b=some u->h'.get? b=some u)
  (ho:∀b,H b=some (.own a)->H' b=some (.own a))(ht:∀b xs,H b=some (.tup xs)->H' b=some (.tup xs)):x4_ P w H' h' a o:=by
 induction o with
 |lst xs=>obtain⟨z,its,n,r,e⟩:=x;exact⟨z,its,n,r,k _ _ (.inl rfl) e⟩
 |tup xs=>obtain⟨z,its,r,ob,e,c⟩:=x;exact⟨z,its,r,ob,k _ _ (.inl rfl) e,c⟩
 |dK kvs=>obtain⟨z,y,vs,r,ob,es,ep,e,c⟩:=x;exact⟨z,y,vs,r,ob,es,ep,k _ _ (.inl rfl) e,c⟩
 |dT C kvs=>
  obtain⟨z,y,xs,r,ob,es,ep,e,c⟩:=x;exact⟨z,y,xs,Paired.mapP r fun p q z=>⟨z.1,z.2.1.imp (ht _ _) id,z.2.2⟩,ob,es,ep,k _ _ (.inl rfl) e,c⟩
 |set S n=>obtain⟨ob,es,ep,t,e,c⟩:=x;exact⟨ob,es,ep,t,k _ _ (.inl rfl) e,c⟩
 |ins C dx fs=>
  obtain⟨d,z,ne,e,mA,⟨od,es,ep,e2,c⟩,r⟩:=x;exact⟨ho _ d,z,ne,k _ _ (.inl rfl) e,mA,⟨od,es,ep,k _ _ (.inr d) e2,c⟩,r⟩
 |own y=>obtain⟨ob,e⟩:=x;exact⟨ob,k _ _ (.inl rfl) e⟩
 |xd fs=>obtain⟨mA,⟨od,es,ep,e,c⟩,r⟩:=x;exact⟨mA,⟨od,es,ep,k _ _ (.inl rfl) e,c⟩,r⟩
 |rng lo hi=>obtain⟨t,u,v,e⟩:=x;exact⟨t,u,v,k _ _ (.inl rfl) e⟩
 |frz ob u ih=>obtain⟨e,q⟩:=x;exact⟨k _ _ (.inl rfl) e,ih q⟩
 |tbl ps=>
  have e:h.get? a=some {cls:=.none,data:=.fields ps}:=x
  show h'.get? a=some {cls:=.none,data:=.fields ps};exact k a _ (.inl rfl) e
 |met f y=>
  have e:h.get? a=some (PySem.W.methodObj (.ref f) (.ref y)):=x
  show h'.get? a=some (PySem.W.methodObj (.ref f) (.ref y));exact k a _ (.inl rfl) e
 |ext φ=>obtain⟨p,⟨o,e⟩,st⟩:=x;exact⟨st _ _ p fun o q=>k _ _ (.inl rfl) q,⟨o,k _ _ (.inl rfl) e⟩,st⟩
theorem HOk.lt(x:HOk P w H h)(e:H a=some o):a<h.objs.size:=(x a o e).lt
theorem HOk.fresh(x:HOk P w H h)(e:h.objs.size≤a):H a=none:=by
 cases q:H a with
 |none=>rfl
 |some u=>exact absurd (Qd (x.lt q) e) (Yg _)
theorem HOk.kept(x:HOk P w H h)(k:∀b u,h.get? b=some u->h'.get? b=some u):HOk P w H h':=fun a o e=>
 (x a o e).stay (fun b u _ q=>k b u q) (fun _ q=>q) fun _ _ q=>q
theorem HOk.laid(x:HOk P w H h)(k:∀b u,h.get? b=some u->h'.get? b=some u)(hp:h.objs.size≤a)(new:x4_ P w (upd H a o) h' a o):HOk P w (upd H a o) h':=fun b u e=>by
 have hn:=x.fresh hp
 by_cases hb:b=a
 ·subst hb;rw[y6_]at e;cases e;exact new
 ·rw[q8_ hb]at e
  exact(x b u e).stay (fun c v _ q=>k c v q) (fun c q=>by rw[q8_ (g9_ q hn)];exact q) fun c xs q=>by rw[q8_ (g9_ q hn)];exact q
end
def Rd(H:Hp)(a:Addr)(u:HO):Prop:=H a=some u∨ ∃o,H a=some (.frz o u)
theorem Rd.ok{P:Program}{w:World}{H:Hp}{h:Heap}{a:Addr}{u:HO}(r:Rd H a u)(x:HOk P w H h):x4_ P w H h a u:=by
 rcases r with r|⟨o,r⟩
 ·exact x a u r
 ·obtain⟨_,q⟩:=x a _ r
  exact q
def Mut:Option HO->Prop
 |some (.lst _)=>True
 |some (.dK _)=>True
 |some (.dT _ _)=>True
 |some (.set _ _)=>True
 |some (.ins _ _ _)=>True
 |some (.ext _)=>True
 |_=>False
section
variable{P:Program}{w:World}{H:Hp}{h h':Heap}{x e:Addr}{o':HO}
theorem HOk.write(ok:HOk P w H h)(mu:Mut (H x))(he:e=x∨H e=some (.own x))(k:∀b u,b≠e->h.get? b=some u->h'.get? b=some u)(heo:∃u,h'.get? e=some u)
  (new:x4_ P w (upd H x o') h' x o'):HOk P w (upd H x o') h':=fun b u q=>by
 have nown:∀c y,H c=some (.own y)->c≠x:=fun c y r z=>by subst z;rw[r]at mu;exact mu
 have ntup:∀c xs,H c=some (.tup xs)->c≠x:=fun c xs r z=>by subst z;rw[r]at mu;exact mu
 by_cases hb:b=x
 ·subst hb;rw[y6_]at q;cases q;exact new
 ·rw[q8_ hb]at q
  by_cases hbe:b=e
  ·have q':H b=some (.own x):=by
    rcases he with z|z
    ·exact absurd (hbe.trans z) hb
    ·rw[hbe];exact z
   rw[q]at q';cases q';obtain⟨v,hv⟩:=heo;exact⟨v,by rw[hbe];exact hv⟩
  ·refine(ok b u q).stay (fun c v hc r=>k c v ?_ r) (fun c r=>by rw[q8_ (nown c b r)];exact r) fun c xs r=>by rw[q8_ (ntup c xs r)];exact r
   rcases hc with rfl|hc
   ·exact hbe
   ·rintro rfl
    rcases he with z|z
    ·exact nown c b hc z
    ·rw[hc]at z;cases z;exact hb rfl
end
structure Un(fs ex:List Addr)(H H':Hp)(h h':Heap):Prop where
 keep:∀b o,h.get? b=some o->H b=none->b∉fs->b∉ex->h'.get? b=some o
 slot:∀b o,h.get? b=some o->H b=none->b∈fs->b∉ex->∃sl,h'.get? b=some {o with slots:=sl}
 free:∀b o,h.get? b=some o->H b=none->b∉ex->H' b=none
 there:∀b o,h.get? b=some o->b∉ex->∃o',h'.get? b=some o'
 tups:∀b xs,H b=some (.tup xs)->H' b=some (.tup xs)
 frzs:∀b o u,H b=some (.frz o u)->H' b=some (.frz o u)
 tbls:∀b ps,H b=some (.tbl ps)->∃more,H' b=some (.tbl (ps++more))
section
variable{fs fs' ex ex':List Addr}{H H1 H2:Hp}{h h1 h2 h':Heap}{a x e:Addr}{o:HO}
theorem Un.any(u:Un fs ex H H1 h h1){b:Addr}{ob:Obj}(q:h.get? b=some ob)(n:H b=none)(hx:b∉ex):∃sl,h1.get? b=some {ob with slots:=sl}:=by
 by_cases hb:b∈fs
 ·exact u.slot b ob q n hb hx
 ·exact⟨ob.slots,u.keep b ob q n hb hx⟩
theorem Un.kept(k:∀b u,h.get? b=some u->h'.get? b=some u):Un fs ex H H h h':=
 ⟨fun b ob q _ _ _=>k b ob q,fun b ob q _ _ _=>⟨ob.slots,k b ob q⟩,fun _ _ _ n _=>n,fun b ob q _=>⟨ob,k b ob q⟩,fun _ _ q=>q,fun _ _ _ q=>q,fun _ ps q=>⟨#[],by rw[q];simp⟩⟩
theorem Un.refl:Un fs ex H H h h:=Un.kept fun _ _ q=>q
theorem Un.laid(k:∀b u,h.get? b=some u->h'.get? b=some u)(hp:h.objs.size≤a)(hn:H a=none):Un fs ex H (upd H a o) h h' where
 keep:=fun b u q _ _ _=>k b u q
 slot:=fun b u q _ _ _=>⟨u.slots,k b u q⟩
 free:=fun b u q n _=>by rw[q8_ (Qi (Qd (Qu q) hp))];exact n
 there:=fun b u q _=>⟨u,k b u q⟩
 tups:=fun b xs q=>by rw[q8_ (g9_ q hn)];exact q
 frzs:=fun b u xs q=>by rw[q8_ (g9_ q hn)];exact q
 tbls:=fun b ps q=>⟨#[],by rw[q8_ (g9_ q hn),q];simp⟩
theorem Un.write(mu:Mut (H x))(he:e=x∨H e=some (.own x))(k:∀b u,b≠e->h.get? b=some u->h'.get? b=some u)(heo:∃u,h'.get? e=some u):Un fs ex H (upd H x o) h h':=by
 have hx:∀b,H b=none->b≠x:=fun b n z=>by subst z;rw[n]at mu;exact mu
 have hb:∀b,H b=none->b≠e:=fun b n z=>by
  subst z
  rcases he with r|r
  ·exact hx b n r
  ·rw[n]at r;cases r
 have hm:∀b u,H b=some u-> ¬ Mut (some u)->b≠x:=fun b u q nm z=>by subst z;rw[q]at mu;exact nm mu
 refine⟨fun b u q n _ _=>k b u (hb b n) q,fun b u q n _ _=>⟨u.slots,k b u (hb b n) q⟩,fun b u q n _=>by rw[q8_ (hx b n)];exact n,fun b u q _=>?_,
  fun b xs q=>by rw[q8_ (hm b _ q fun z=>z)];exact q,fun b u xs q=>by rw[q8_ (hm b _ q fun z=>z)];exact q,fun b ps q=>⟨#[],by rw[q8_ (hm b _ q fun z=>z),q];simp⟩⟩
 by_cases hbe:b=e
 ·subst hbe;exact heo
 ·exact⟨u,k b u hbe q⟩
end
def trk(h:Heap)(H:Hp):List Addr:=(List.range h.objs.size).filter fun a=>(H a).isSome
def a1l(h:Heap)(H:Hp):Heap:=PySem.W.hideAll h (trk h H)
theorem b2r(h:Heap)(H:Hp):(a1l h H).objs.size=h.objs.size:=PySem.W.hideAll_size _ _
theorem b2s{h:Heap}{H:Hp}{b:Addr}{o:Obj}(e:h.get? b=some o)(n:H b=none):(a1l h H).get? b=some o:=
 PySem.W.hideAll_get _ e fun hm=>by
  have q:(H b).isSome=true:=(Jl.mp hm).2
  rw[n]at q;simp at q
theorem b2t{h:Heap}{H:Hp}{b:Addr}{o:Obj}(e:(a1l h H).get? b=some o):h.get? b=some o/\H b=none:=by
 have e':h.get? b=some o:=PySem.W.of_hideAll (trk h H) e
 refine⟨e',?_⟩;cases q:H b with
 |none=>rfl
 |some x=>
  have hm:b∈trk h H:=Jl.mpr ⟨Yi.mpr (Qu e'),by simp[q]⟩
  have z:(a1l h H).get? b=none:=PySem.W.hideAll_none (trk h H) hm
  rw[z]at e;cases e
def b2u(g h:Heap)(L:Addr):OX:=(List.range h.objs.size).filterMap fun a=>if a=L∨(g.get? a).isSome=true then none else(h.get? a).map fun o=>(a,o)
def rest(g h:Heap)(L d:Addr):OX:=(b2u g h L).filter fun p=>decide (p.1≠d)
structure Mod(K:Qq)(mg:OU)(base:Heap):Prop where
 kin:K.In base
 glob:base.Ns mainGlobals mg
 blt:∃mb,base.Ns builtinsNs mb/\∀x:Str,x≠"__name__"->mb x=bootBuiltins x
 nolimit:base.NoLimit
structure Cx where
 prog:Program
 w:World
 K:Qq
 mg:OU
 base:Heap
 A:Around
 N:List Str
 s₀:Shared
 H₀:Hp
 env:Env
 outer:List Env
 stack:List Env
 ex:List Addr
 fn:Str->Bool
 calm:Bool
 pn:OX
 xe:OE
def frs(l:List Env):List Addr:=l.filterMap (·.frame)
abbrev Cx.fs(X:Cx):List Addr:=frs X.outer
def Vis(sc:Scope)(x:Str):Prop:=sc.names.lookup x=some .local∨sc.names.lookup x=some .cell∨sc.names.lookup x=some .free
def Loc(sc:Scope)(x:Str):Prop:=sc.names.lookup x=some .local∨sc.names.lookup x=some .cell
def b2v(env:Env)(h:Heap)(m:OU)(x:Str)(u:Value):Prop:=
 (env.kindOf x=some .local/\m x=some u)∨((env.kindOf x=some .cell∨env.kindOf x=some .free)/\∃c,env.cells.lookup x=some c/\h.IsCell c (some u))
structure Cx.Ok(X:Cx):Prop where
 mod:Mod X.K X.mg X.base
 kind:X.env.scope.kind=.function
 glob:X.env.globals=mainGlobals
 blt:X.env.builtins=builtinsNs
 above:X.s₀.heap.objs.size≤X.env.locals
 inj:∀x y c,X.env.cells.lookup x=some c->X.env.cells.lookup y=some c->x=y
 has:∀x,(X.env.kindOf x=some .cell∨X.env.kindOf x=some .free)->∃c,X.env.cells.lookup x=some c
 cab:∀x c,X.fn x=true->X.env.cells.lookup x=some c->X.s₀.heap.objs.size≤c
 hd:X.calm=true->X.A.handled=none
 frames:X.A.frames=some X.stack
 stk:X.stack=X.outer∨(X.stack=X.env::X.outer/\X.env.frame=some X.env.locals)
 exf:∀b∈X.ex,b≠X.env.locals/\∀x c,X.env.cells.lookup x=some c->c≠b
 bs:∀b o,X.base.get? b=some o->X.s₀.heap.get? b=some o/\X.H₀ b=none
 bsz:X.base.objs.size≤X.s₀.heap.objs.size
 noex:∀b o,X.base.get? b=some o->b∉X.ex
 exfs:∀b∈X.ex,b∉X.fs
 funs:X.s₀.heap.FunFrames X.base X.outer
 frf:∀b∈X.fs,X.H₀ b=none
structure Inv(X:Cx)(pins:OX)(σ:List (Option V))(H:Hp)(s:Shared):Prop where
 ok:X.Ok
 os:s.os=X.s₀.os
 bare:AllBare s.gens
 base:Un X.fs X.ex X.H₀ H X.s₀.heap s.heap
 loc:∃m,s.heap.Ns X.env.locals m/\∀(i:Nat) (x:Str) (v:V),X.N[i]? =some x->σ[i]? =some (some v)->Vis X.env.scope x->∃u,q6_ v u/\b2v X.env s.heap m x u
 cell:∀x c,X.env.cells.lookup x=some c->∃v,s.heap.IsCell c v
 free:H X.env.locals=none
 freeC:∀x c,X.env.cells.lookup x=some c->H c=none
 pin:∀p∈X.pn++pins,s.heap.get? p.1=some p.2/\H p.1=none/\p.1≠X.env.locals/\p.1∉X.fs/\∀v,p.2.data≠.cell v
 hok:HOk X.prog X.w H s.heap
 len:σ.length=X.N.length
section
variable{X:Cx}{pins:OX}{σ:List (Option V)}{H H':Hp}{s:Shared}{h':Heap}
theorem Cx.Ok.nofr(ok:X.Ok){b:Addr}{o:Obj}(e:X.base.get? b=some o):b∉X.fs:=fun hb=>by
 have:=(ok.funs.mem hb).1;rw[e]at this;cases this
theorem Inv.bs(I:Inv X pins σ H s):∀b o,X.base.get? b=some o->s.heap.get? b=some o/\H b=none:=fun b o e=>
 ⟨I.base.keep b o (I.ok.bs b o e).1 (I.ok.bs b o e).2 (I.ok.nofr e) (I.ok.noex b o e),I.base.free b o (I.ok.bs b o e).1 (I.ok.bs b o e).2 (I.ok.noex b o e)⟩
theorem Inv.bk(I:Inv X pins σ H s):∀b o,X.base.get? b=some o->s.heap.get? b=some o:=fun b o e=>(I.bs b o e).1
theorem Inv.mod(I:Inv X pins σ H s):Mod X.K X.mg X.base:=I.ok.mod
theorem Inv.kIn(I:Inv X pins σ H s):X.K.In s.heap:=I.ok.mod.kin.keeps I.bk
theorem Inv.lt(I:Inv X pins σ H s):X.env.locals<s.heap.objs.size:=let ⟨_,hn,_⟩:=I.loc;hn.lt
theorem Inv.sz(I:Inv X pins σ H s):X.s₀.heap.objs.size≤s.heap.objs.size:=Zo I.ok.above (Jg I.lt)
theorem Inv.nofs(I:Inv X pins σ H s){a:Addr}(h:s.heap.objs.size≤a):a∉X.fs:=fun hb=>by
 obtain⟨_,o,ho,_⟩:=I.ok.funs.mem hb;exact absurd (Qd (Qu ho) (Zo I.sz h)) (Yg _)
theorem Inv.cne(I:Inv X pins σ H s):∀x c,X.env.cells.lookup x=some c->c≠X.env.locals:=fun x c e z=>by
 obtain⟨v,o,ho,hd⟩:=I.cell x c e;obtain⟨m,⟨o',es,ep,ho',hd',_⟩,_⟩:=I.loc;rw[z,ho']at ho;cases ho;rw[hd']at hd;cases hd
theorem Inv.funs(I:Inv X pins σ H s):s.heap.FunFrames X.base X.outer:=by
 have all:∀(l:List Env),(∀b∈frs l,b∈X.fs)->X.s₀.heap.FunFrames X.base l->s.heap.FunFrames X.base l:=by
  intro l
  induction l with
  |nil=>intro _ _;trivial
  |cons env r ih=>
   intro hs hl;obtain⟨hk,⟨L,o,hf,hn,ho,hd⟩,hr⟩:=hl;have hL:L∈X.fs:=hs L (by unfold frs;rw[Vs,hf];exact Zv)
   obtain⟨sl,e⟩:=I.base.slot L o ho (I.ok.frf L hL) hL fun z=>I.ok.exfs L z hL
   exact⟨hk,⟨L,_,hf,hn,e,hd⟩,ih (fun b hb=>hs b (by unfold frs;rw[Vs,hf];exact Qa _ hb)) hr⟩
 exact all X.outer (fun _ hb=>hb) I.ok.funs
theorem Inv.stack(I:Inv X pins σ H s):s.heap.FunFrames X.base X.stack:=by
 rcases I.ok.stk with e|⟨e,hf⟩
 ·rw[e];exact I.funs
 ·rw[e]
  obtain⟨m,hn,_⟩:=I.loc;refine .cons (by rw[I.ok.kind];decide) hf hn ?_ I.funs
  exact Heap.get?_none_of_le (Zo I.ok.bsz I.ok.above)
theorem Inv.stkSub(I:Inv X pins σ H s):∀b∈frs X.stack,b∈X.env.locals::X.fs:=fun b hb=>by
 rcases I.ok.stk with e|⟨e,hf⟩
 ·rw[e]at hb;exact Qa _ hb
 ·rw[e]at hb
  unfold frs at hb;rw[Vs,hf]at hb;exact hb
theorem Inv.stkFree(I:Inv X pins σ H s):∀b∈frs X.stack,H b=none:=fun b hb=>by
 rcases Qn.mp (I.stkSub b hb)with e|hb
 ·rw[e];exact I.free
 ·obtain⟨_,o,ho,_⟩:=I.ok.funs.mem hb
  exact I.base.free b o ho (I.ok.frf b hb) fun z=>I.ok.exfs b z hb
theorem Inv.step{g':Array GenState}{t':Nat}{d':Drawn}{ch:List Addr}(I:Inv X pins σ H s)
  (hch:∀b∈ch,(b∈X.ex∨X.s₀.heap.objs.size≤b)/\b≠X.env.locals/\(∀x c,X.env.cells.lookup x=some c->c≠b)/\∀p∈X.pn++pins,p.1≠b)
  (keep:∀b o,b≠X.env.locals->b∉X.fs->b∉ch->s.heap.get? b=some o->H b=none->h'.get? b=some o)
  (slot:∀b o,b≠X.env.locals->b∈X.fs->b∉ch->s.heap.get? b=some o->H b=none->∃sl,h'.get? b=some {o with slots:=sl})(free:∀b o,b∉ch->s.heap.get? b=some o->H b=none->H' b=none)
  (there:∀b o,b∉ch->s.heap.get? b=some o->∃o',h'.get? b=some o')
  (tups:∀b xs,H b=some (.tup xs)->H' b=some (.tup xs))(frzs:∀b o u,H b=some (.frz o u)->H' b=some (.frz o u))(tbls:∀b ps,H b=some (.tbl ps)->∃more,H' b=some (.tbl (ps++more)))
  (ns:∀m,s.heap.Ns X.env.locals m->h'.Ns X.env.locals m)(hok:HOk X.prog X.w H' h')(hg:AllBare g'):
  Inv X pins σ H' {s with heap:=h',gens:=g',drawn:=d',toks:=t'}:=by
 have neL:∀b o,X.s₀.heap.get? b=some o->b≠X.env.locals:=fun b o e=>Qi (Qd (Qu e) I.ok.above)
 have neC:∀b o,X.s₀.heap.get? b=some o->b∉X.ex->b∉ch:=fun b o e hx hb=>by
  rcases(hch b hb).1 with z|z
  ·exact hx z
  ·exact absurd (Qd (Qu e) z) (Yg _)
 have cellK:∀x c,X.env.cells.lookup x=some c->∀v,s.heap.IsCell c v->h'.IsCell c v:=fun x c e v ⟨o,ho,hd⟩=>by
  have nch:c∉ch:=fun z=>(hch c z).2.2.1 x c e rfl
  by_cases hc:c∈X.fs
  ·obtain⟨sl,q⟩:=slot c o (I.cne x c e) hc nch ho (I.freeC x c e)
   exact⟨_,q,hd⟩
  ·exact⟨o,keep c o (I.cne x c e) hc nch ho (I.freeC x c e),hd⟩
 refine⟨I.ok,I.os,hg,⟨fun b o e n hb hx=>?_,fun b o e n hb hx=>?_,fun b o e n hx=>?_,fun b o e hx=>?_,fun b xs e=>tups b xs (I.base.tups b xs e),fun b o xs e=>frzs b o xs (I.base.frzs b o xs e),fun b ps e=>?_⟩,?_,fun x c e=>?_,?_,fun x c e=>?_,fun p hp=>?_,hok,I.len⟩
 ·exact keep b o (neL b o e) hb (neC b o e hx) (I.base.keep b o e n hb hx) (I.base.free b o e n hx)
 ·obtain⟨sl,e1⟩:=I.base.slot b o e n hb hx
  obtain⟨sl',e2⟩:=slot b _ (neL b o e) hb (neC b o e hx) e1 (I.base.free b o e n hx);exact⟨sl',e2⟩
 ·obtain⟨o',e1⟩:=I.base.there b o e hx
  exact free b o' (neC b o e hx) e1 (I.base.free b o e n hx)
 ·obtain⟨o',e1⟩:=I.base.there b o e hx
  exact there b o' (neC b o e hx) e1
 ·obtain⟨m1,e1⟩:=I.base.tbls b ps e
  obtain⟨m2,e2⟩:=tbls b _ e1;exact⟨m1++m2,by rw[e2,Array.append_assoc]⟩
 ·obtain⟨m,hn,hl⟩:=I.loc
  refine⟨m,ns m hn,fun i x v e1 e2 e3=>?_⟩
  obtain⟨u,r,l⟩:=hl i x v e1 e2 e3;refine⟨u,r,?_⟩
  rcases l with l|⟨k,c,e,z⟩
  ·exact .inl l
  ·exact .inr ⟨k,c,e,cellK x c e _ z⟩
 ·obtain⟨v,z⟩:=I.cell x c e
  exact⟨v,cellK x c e v z⟩
 ·obtain⟨m,⟨o,_,_,ho,_⟩,_⟩:=I.loc
  exact free _ o (fun z=>(hch _ z).2.1 rfl) ho I.free
 ·obtain⟨v,o,ho,hd⟩:=I.cell x c e
  exact free c o (fun z=>(hch c z).2.2.1 x c e rfl) ho (I.freeC x c e)
 ·obtain⟨e,n,ne,nf,d⟩:=I.pin p hp
  have nch:p.1∉ch:=fun z=>(hch p.1 z).2.2.2 p hp rfl
  exact⟨keep p.1 p.2 ne nf nch e n,free p.1 p.2 nch e n,ne,nf,d⟩
theorem Inv.un{t':Nat}(I:Inv X pins σ H s)(u:Un X.fs [] H H' s.heap h')(hok:HOk X.prog X.w H' h'):Inv X pins σ H' {s with heap:=h',toks:=t'}:=by
 obtain⟨m,⟨o,es,ep,ho,r⟩,_⟩:=id I.loc;obtain⟨sl,hL⟩:=u.any ho I.free (by simp)
 exact I.step (g':=s.gens) (d':=s.drawn) (ch:=[]) (fun _ z=>nomatch z) (fun b o _ hb _ e n=>u.keep b o e n hb (by simp)) (fun b o _ hb _ e n=>u.slot b o e n hb (by simp)) (fun b o _ e n=>u.free b o e n (by simp)) (fun b o _ e=>u.there b o e (by simp)) u.tups u.frzs u.tbls (fun m' hm=>by
  obtain⟨o',es',ep',ho',r'⟩:=hm;rw[ho]at ho';cases ho';exact⟨_,es',ep',hL,r'⟩) hok I.bare
theorem Inv.call{g':Array GenState}{t':Nat}{d':Drawn}{ch:List Addr}(I:Inv X pins σ H s)(u:Un (frs X.stack) ch H H' s.heap h')(hok:HOk X.prog X.w H' h')(hg:AllBare g')
  (hch:∀b∈ch,(b∈X.ex∨X.s₀.heap.objs.size≤b)/\b≠X.env.locals/\(∀x c,X.env.cells.lookup x=some c->c≠b)/\∀p∈X.pn++pins,p.1≠b):
  Inv X pins σ H' {s with heap:=h',gens:=g',drawn:=d',toks:=t'}:=by
 obtain⟨m,⟨o,es,ep,ho,r⟩,_⟩:=id I.loc;obtain⟨sl,hL⟩:=u.any ho I.free fun z=>(hch _ z).2.1 rfl
 exact I.step (ch:=ch) hch (fun b o hL hb hc e n=>u.keep b o e n (fun z=>(Qn.mp (I.stkSub b z)).elim hL hb) hc) (fun b o _ _ hc e n=>u.any e n hc) (fun b o hc e n=>u.free b o e n hc) (fun b o hc e=>u.there b o e hc) u.tups u.frzs u.tbls (fun m' hm=>by
  obtain⟨o',es',ep',ho',r'⟩:=hm;rw[ho]at ho';cases ho';exact⟨_,es',ep',hL,r'⟩) hok hg
theorem Inv.turned{t':Nat}{it:Addr}(I:Inv X pins σ H s)(k:∀b o,b≠it->s.heap.get? b=some o->h'.get? b=some o)(hn:H it=none)(hL:it≠X.env.locals)
  (h1:it∈X.ex∨X.s₀.heap.objs.size≤it)(h2:∀x c,X.env.cells.lookup x=some c->c≠it)(h3:∀p∈X.pn++pins,p.1≠it):Inv X pins σ H {s with heap:=h',toks:=t'}:=by
 have nit:∀b u,H b=some u->b≠it:=fun b u e z=>by rw[z,hn]at e;cases e
 refine I.step (g':=s.gens) (d':=s.drawn) (ch:=[it]) (fun b hb=>?_) (fun b o _ _ hc e _=>k b o (fun z=>hc (by simp[z])) e) (fun b o _ _ hc e _=>⟨o.slots,k b o (fun z=>hc (by simp[z])) e⟩) (fun _ _ _ _ n=>n)
  (fun b o hc e=>⟨o,k b o (fun z=>hc (by simp[z])) e⟩) (fun _ _ e=>e) (fun _ _ _ e=>e) (fun b ps e=>⟨#[],by rw[e];simp⟩) (fun m hm=>?_) (fun b u e=>?_) I.bare
 ·have e:b=it:=by simpa using hb
  subst e;exact⟨h1,hL,h2,h3⟩
 ·obtain⟨o,es,ep,ho,r⟩:=hm
  exact⟨o,es,ep,k _ o (Zn hL) ho,r⟩
 ·refine(I.hok b u e).stay (fun c v hc q=>k c v ?_ q) (fun _ q=>q) fun _ _ q=>q
  rcases hc with z|z
  ·rw[z];exact nit b u e
  ·exact nit c _ z
theorem Inv.tok(I:Inv X pins σ H s)(t:Nat):Inv X pins σ H {s with toks:=t}:=I.un (h':=s.heap) (t':=t) Un.refl I.hok
theorem Inv.kept{t':Nat}(I:Inv X pins σ H s)(k:∀b u,s.heap.get? b=some u->h'.get? b=some u):Inv X pins σ H {s with heap:=h',toks:=t'}:=I.un (Un.kept k) (I.hok.kept k)
theorem Inv.laid{a:Addr}{o:HO}{t':Nat}(I:Inv X pins σ H s)(k:∀b u,s.heap.get? b=some u->h'.get? b=some u)(hp:s.heap.objs.size≤a)(new:x4_ X.prog X.w (upd H a o) h' a o):
  Inv X pins σ (upd H a o) {s with heap:=h',toks:=t'}:=I.un (Un.laid k hp (I.hok.fresh hp)) (I.hok.laid k hp new)
theorem Inv.write{x e:Addr}{o:HO}{t':Nat}(I:Inv X pins σ H s)(mu:Mut (H x))(he:e=x∨H e=some (.own x))(k:∀b u,b≠e->s.heap.get? b=some u->h'.get? b=some u)(heo:∃u,h'.get? e=some u)
  (new:x4_ X.prog X.w (upd H x o) h' x o):Inv X pins σ (upd H x o) {s with heap:=h',toks:=t'}:=I.un (Un.write mu he k heo) (I.hok.write mu he k heo new)
theorem Inv.pins_of{pins':OX}(I:Inv X pins σ H s)(h:∀p∈pins',s.heap.get? p.1=some p.2/\H p.1=none/\p.1≠X.env.locals/\p.1∉X.fs/\∀v,p.2.data≠.cell v):Inv X pins' σ H s:=
 ⟨I.ok,I.os,I.bare,I.base,I.loc,I.cell,I.free,I.freeC,fun p hp=>(Yy.mp hp).elim (fun z=>I.pin p (List.mem_append_left _ z)) (h p),I.hok,I.len⟩
theorem a8k{N:List Str}(hN:N.Nodup){i j:Nat}{x:Str}(a:N[i]? =some x)(b:N[j]? =some x):i=j:=by
 obtain⟨h1,e1⟩:=Qg.mp a;obtain⟨h2,e2⟩:=Qg.mp b;exact(List.getElem_inj hN).mp (e1.trans e2.symm)
theorem a8l{M:Model}{A:Around}{E:OE}{i:Nat}{x:Str}{v:V}{u:Value}{Q:Unit->Shared->Prop}(I:Inv X pins σ H s)(hN:X.N.Nodup)(hi:X.N[i]? =some x)(hx:Loc X.env.scope x)(r:q6_ v u)
  (h:∀s',Inv X pins (σ.set i (some v)) H s'->(∃a,Heap.SameBut a s.heap s'.heap/\(a=X.env.locals∨X.env.cells.lookup x=some a))->Q () s')(hf:X.fn x=true∨X.env.scope.names.lookup x=some .local:=by first|exact .inl rfl|exact .inr rfl|assumption):wpAny M A (storeName X.env x u) Q E s:=by
 obtain⟨m,hn,hl⟩:=id I.loc;have hcls:(X.env.scope.kind==.class||(X.env.scope.kind==.module&&X.env.locals !=X.env.globals))=false:=by rw[I.ok.kind];rfl
 have hiσ:i<σ.length:=by rw[I.len];exact(Qg.mp hi).1
 have cne:=I.cne
 have tracked:∀{a:Addr}{h':Heap},(∃o,s.heap.get? a=some o/\H a=none)->Heap.SameBut a s.heap h'->HOk X.prog X.w H h':=fun{a h'} ha hs b ob e=>by
  obtain⟨_,_,hfree⟩:=ha;refine(I.hok b ob e).stay (fun c w' hc q=>(hs.2 c ?_).trans q) (fun _ q=>q) fun _ _ q=>q
  rintro rfl
  rcases hc with rfl|hc
  ·rw[hfree]at e;cases e
  ·rw[hfree]at hc;cases hc
 rcases hx with hk|hk
 ·refine wpAny_storeName_local hk hn (fun h' hn' hs=>?_) hcls
  obtain⟨oL,_,_,hoL,_⟩:=id hn;refine h _ ⟨I.ok,I.os,I.bare,⟨fun b o e n hb hx=>?_,fun b o e n hb hx=>?_,I.base.free,fun b o e hx=>?_,I.base.tups,I.base.frzs,I.base.tbls⟩,⟨_,hn',fun j y v' e1 e2 e3=>?_⟩,fun y c e=>?_,I.free,I.freeC,fun p hp=>?_,tracked ⟨oL,hoL,I.free⟩ hs,by simpa using I.len⟩ ⟨_,hs,.inl rfl⟩
  ·exact(hs.2 b (Qi (Qd (Qu e) I.ok.above))).trans (I.base.keep b o e n hb hx)
  ·obtain⟨sl,e1⟩:=I.base.slot b o e n hb hx
   exact⟨sl,(hs.2 b (Qi (Qd (Qu e) I.ok.above))).trans e1⟩
  ·obtain⟨o',e1⟩:=I.base.there b o e hx
   exact⟨o',(hs.2 b (Qi (Qd (Qu e) I.ok.above))).trans e1⟩
  ·by_cases hj:j=i
   ·subst hj
    rw[hi]at e1;cases e1;rw[Yb hiσ]at e2;cases e2;exact⟨u,r,.inl ⟨hk,by simp⟩⟩
   ·rw[Ql (Zn hj)]at e2
    obtain⟨u',r',q⟩:=hl j y v' e1 e2 e3;refine⟨u',r',?_⟩
    rcases q with⟨k,e⟩|⟨k,c,e,z⟩
    ·refine .inl ⟨k,?_⟩
     have:y≠x:=fun e=>hj (a8k hN e1 (e ▸ hi))
     simp[this,e]
    ·exact .inr ⟨k,c,e,z.sameBut hs (cne y c e)⟩
  ·obtain⟨w',z⟩:=I.cell y c e
   exact⟨w',z.sameBut hs (cne y c e)⟩
  ·obtain⟨e,n,ne,nf,d⟩:=I.pin p hp
   exact⟨(hs.2 p.1 ne).trans e,n,ne,nf,d⟩
 ·have hfn:X.fn x=true:=by
   rcases hf with z|z
   ·exact z
   ·rw[z]at hk;cases hk
  obtain⟨c,hc⟩:=I.ok.has x (.inl hk);obtain⟨w',z⟩:=I.cell x c hc;refine wpAny_storeName_cell I.ok.kind hk hc z (fun h' hc' hs=>?_)
  obtain⟨oc,hoc,hocd⟩:=id z;refine h {s with heap:=h'} ⟨I.ok,I.os,I.bare,⟨fun b o e n hb hx=>?_,fun b o e n hb hx=>?_,I.base.free,fun b o e hx=>?_,I.base.tups,I.base.frzs,I.base.tbls⟩,⟨m,hn.sameBut hs (Zn (cne x c hc)),fun j y v' e1 e2 e3=>?_⟩,fun y c' e=>?_,I.free,I.freeC,fun p hp=>?_,tracked ⟨oc,hoc,I.freeC x c hc⟩ hs,by simpa using I.len⟩ ⟨c,hs,.inr hc⟩
  ·exact(hs.2 b (Qi (Qd (Qu e) (I.ok.cab x c hfn hc)))).trans (I.base.keep b o e n hb hx)
  ·obtain⟨sl,e1⟩:=I.base.slot b o e n hb hx
   exact⟨sl,(hs.2 b (Qi (Qd (Qu e) (I.ok.cab x c hfn hc)))).trans e1⟩
  ·obtain⟨o',e1⟩:=I.base.there b o e hx
   exact⟨o',(hs.2 b (Qi (Qd (Qu e) (I.ok.cab x c hfn hc)))).trans e1⟩
  ·by_cases hj:j=i
   ·subst hj
    rw[hi]at e1;cases e1;rw[Yb hiσ]at e2;cases e2;exact⟨u,r,.inr ⟨.inl hk,c,hc,hc'⟩⟩
   ·rw[Ql (Zn hj)]at e2
    obtain⟨u',r',q⟩:=hl j y v' e1 e2 e3;refine⟨u',r',?_⟩
    rcases q with q|⟨k,c',e,z'⟩
    ·exact .inl q
    ·refine .inr ⟨k,c',e,z'.sameBut hs ?_⟩
     rintro rfl;exact hj (a8k hN e1 (I.ok.inj _ _ _ e hc ▸ hi))
  ·by_cases hcc:c'=c
   ·subst hcc;exact⟨_,hc'⟩
   ·obtain⟨w2,z2⟩:=I.cell y c' e
    exact⟨w2,z2.sameBut hs hcc⟩
  ·obtain⟨e,n,ne,nf,d⟩:=I.pin p hp
   refine⟨(hs.2 p.1 ?_).trans e,n,ne,nf,d⟩;intro q;rw[q,hoc]at e;have q':oc=p.2:=Za e;exact d w' (by rw[←q'];exact hocd)
theorem a4o{M:Model}{A:Around}{E:OE}{i:Nat}{x:Str}{v:V}{u:Value}{Q:Unit->Shared->Prop}(I:Inv X pins σ H s)(hN:X.N.Nodup)(hi:X.N[i]? =some x)(hx:Loc X.env.scope x)(r:q6_ v u)
  (h:∀s',Inv X pins (σ.set i (some v)) H s'->Q () s')(hf:X.fn x=true∨X.env.scope.names.lookup x=some .local:=by first|exact .inl rfl|exact .inr rfl|assumption):wpAny M A (storeName X.env x u) Q E s:=
 a8l I hN hi hx r (fun s' I' _=>h s' I') hf
theorem Inv.call'{s':Shared}{ch:List Addr}(I:Inv X pins σ H s)(ho:s'.os=s.os)(u:Un (frs X.stack) ch H H' s.heap s'.heap)(hok:HOk X.prog X.w H' s'.heap)(hg:AllBare s'.gens)
  (hch:∀b∈ch,(b∈X.ex∨X.s₀.heap.objs.size≤b)/\b≠X.env.locals/\(∀x c,X.env.cells.lookup x=some c->c≠b)/\∀p∈X.pn++pins,p.1≠b):Inv X pins σ H' s':=by
 obtain⟨h',g',d',t',o'⟩:=s';have e:o'=s.os:=ho;subst e;exact I.call (g':=g') (t':=t') (d':=d') u hok hg hch
end
abbrev XK:=Value->Option Addr->Hp->Prop
abbrev St:=List (Option V)
abbrev VK:=V->Hp->Prop
abbrev TE:=St->Hp->VK->Prop
abbrev TT:=St->Hp->(Bool->Hp->Prop)->Prop
abbrev TA:=St->Hp->(List V->Hp->Prop)->Prop
structure Ends where
 nx:St->Hp->Prop
 rt:VK
 bk:St->Hp->Prop:=fun _ _=>False
 ct:St->Hp->Prop:=fun _ _=>False
abbrev TS:=Ends->St->Hp->Prop
def EP(X:Cx)(pins:OX)(σ:St)(Q:VK)(u:Value)(s':Shared):Prop:=∃v H',Inv X pins σ H' s'/\q6_ v u/\Q v H'
def TP(X:Cx)(pins:OX)(σ:St)(Q:Bool->Hp->Prop)(b:Bool)(s':Shared):Prop:=∃H',Inv X pins σ H' s'/\Q b H'
def AP(X:Cx)(pins:OX)(σ:St)(Q:List V->Hp->Prop)(us:List Value)(s':Shared):Prop:=∃vs H',Inv X pins σ H' s'/\q3_ vs us/\Q vs H'
def SP(X:Cx)(pins:OX)(D:Ends)(f:Flow)(s':Shared):Prop:=
 match f with
 |.next=>∃σ' H',Inv X pins σ' H' s'/\D.nx σ' H'
 |.brk=>∃σ' H',Inv X pins σ' H' s'/\D.bk σ' H'
 |.cont=>∃σ' H',Inv X pins σ' H' s'/\D.ct σ' H'
 |.ret u=>∃v σ' H',Inv X pins σ' H' s'/\q6_ v u/\D.rt v H'
def PE(X:Cx)(e:Expr)(t:TE):Prop:=
 ∀(pins:OX) (s:Shared) (σ:St) (H:Hp) (Q:VK),Inv X pins σ H s->t σ H Q->wpAny (model X.prog X.w) X.A (eval e X.env) (EP X pins σ Q) X.xe s
def PT(X:Cx)(e:Expr)(t:TT):Prop:=
 ∀(pins:OX) (s:Shared) (σ:St) (H:Hp) (Q:Bool->Hp->Prop),Inv X pins σ H s->t σ H Q->wpAny (model X.prog X.w) X.A (isTrue e X.env (eval e X.env)) (TP X pins σ Q) X.xe s
def PW(X:Cx)(e:Expr)(t:TT):Prop:=
 ∀(whole:Sem Value) (pins:OX) (s:Shared) (σ:St) (H:Hp) (Q:Bool->Hp->Prop),Inv X pins σ H s->t σ H Q->wpAny (model X.prog X.w) X.A (isTrue e X.env whole) (TP X pins σ Q) X.xe s
theorem PW.pt{X:Cx}{e:Expr}{t:TT}(h:PW X e t):PT X e t:=h _
def PA(X:Cx)(es:List Expr)(t:TA):Prop:=
 ∀(pos:Pos) (pins:OX) (s:Shared) (σ:St) (H:Hp) (Q:List V->Hp->Prop),Inv X pins σ H s->t σ H Q->wpAny (model X.prog X.w) X.A (spliced (backTo pos (starEach es X.env))) (AP X pins σ Q) X.xe s
def PS(X:Cx)(st:Stmt)(t:TS):Prop:=
 ∀(pins:OX) (s:Shared) (σ:St) (H:Hp) (D:Ends),Inv X pins σ H s->t D σ H->wpAny (model X.prog X.w) X.A (exec st X.env) (SP X pins D) X.xe s
def PSs(X:Cx)(st:List Stmt)(t:TS):Prop:=
 ∀(pins:OX) (s:Shared) (σ:St) (H:Hp) (D:Ends),Inv X pins σ H s->t D σ H->wpAny (model X.prog X.w) X.A (execs st X.env) (SP X pins D) X.xe s
theorem thn{α:Type}{t:Sem α}{Q Q':α->Shared->Prop}{M:Model}{A:Around}{E:OE}{s:Shared}(h:wpAny M A t Q E s)(hQ:∀a s,Q a s->Q' a s):wpAny M A t Q' E s:=Zq h hQ fun _ _ x=>x
section
variable{X:Cx}
theorem bin{a b:Expr}{ta tb:TE}(ha:PE X a ta)(hb:PE X b tb){pins:OX}{s:Shared}{σ:St}{H:Hp}{R:V->V->Hp->Prop}(I:Inv X pins σ H s)(h:ta σ H fun x H1=>tb σ H1 fun y H2=>R x y H2)
  {α:Type}{Q:α->Shared->Prop}{f:Value->Value->Sem α}
  (hf:∀v u s2 x y H2,Inv X pins σ H2 s2->q6_ x v->q6_ y u->R x y H2->wpAny (model X.prog X.w) X.A (f v u) Q X.xe s2):
  wpAny (model X.prog X.w) X.A (eval a X.env) (fun v s₁=>wpAny (model X.prog X.w) X.A (eval b X.env) (fun u s₂=>wpAny (model X.prog X.w) X.A (f v u) Q X.xe s₂) X.xe s₁) X.xe s:=by
 refine thn (ha pins s σ H _ I h) fun v s1 ⟨x,H1,I1,r1,q1⟩=>?_
 refine thn (hb pins s1 σ H1 _ I1 q1) fun u s2 ⟨y,H2,I2,r2,q2⟩=>?_
 exact hf v u s2 x y H2 I2 r1 r2 q2
def a0o(i:Nat):TE:=fun σ H Q=>∃v,σ[i]? =some (some v)/\Q v H
def tC(v:V):TE:=fun _ H Q=>Q v H
theorem b2w{i:Nat}{x:Str}{pos:Pos}(hN:X.N[i]? =some x)(hv:Vis X.env.scope x)(hd:(x==("__debug__":Str))=false:=by decide)(hcd:(x==("__classdict__":Str))=false:=by decide):PE X (.Name x pos) (a0o i):=by
 intro pins s σ H Q I h;obtain⟨v,e,h⟩:=h;obtain⟨m,hn,hl⟩:=I.loc;obtain⟨u,r,l⟩:=hl i x v hN e hv;have fin:EP X pins σ Q u s:=⟨v,H,I,r,h⟩
 rcases l with⟨hk,hm⟩|⟨hk,c,hc,hcell⟩
 ·exact wpAny_Name (wpAny_loadName_local I.ok.kind hk hn hm fin) hd
 ·rcases hk with hk|hk
  ·exact wpAny_Name (wpAny_loadName_cell I.ok.kind hk hc hcell fin) hd
  ·exact wpAny_Name (wpAny_loadName_free I.ok.kind hk hc hcell fin hcd) hd
theorem b2x{i j pos}:PE X (.Constant (.int i) j pos) (tC (.int i)):=fun _ _ _ H _ I h=>wpAny_Constant_int ⟨.int i,H,I.tok _,⟨_,rfl⟩,h⟩
theorem a8m{b j pos}:PE X (.Constant (.bool b) j pos) (tC (.bl b)):=fun _ _ _ H _ I h=>Constant_bool ⟨.bl b,H,I,rfl,h⟩
theorem b2y{x j pos}:PE X (.Constant (.str x) j pos) (tC (.str x)):=fun _ _ _ H _ I h=>Calls.Constant_str ⟨.str x,H,I.tok _,⟨_,rfl⟩,h⟩
def Gl(X:Cx)(x:Str):Prop:=X.env.kindOf x=some .globalImplicit
theorem a8n{E:OE}{pins:OX}{s:Shared}{σ:St}{H:Hp}{x:Str}{u:Value}{pos:Pos}{Q:OE}(I:Inv X pins σ H s)(hg:Gl X x)(hm:X.mg x=some u)(h:Q u s)
  (hd:(x==("__debug__":Str))=false:=by decide):wpAny (model X.prog X.w) X.A (eval (.Name x pos) X.env) Q E s:=
 Calls.Name_function_global I.ok.kind hg (Calls.loadGlobal_global (by rw[I.ok.glob];exact I.mod.glob.keeps I.bk) hm h) hd
theorem a2b{E:OE}{pins:OX}{s:Shared}{σ:St}{H:Hp}{x:Str}{u:Value}{pos:Pos}{Q:OE}(I:Inv X pins σ H s)(hg:Gl X x)(hm:X.mg x=none)(hv:bootBuiltins x=some u)(h:Q u s)
  (hn:x≠"__name__":=by decide)(hd:(x==("__debug__":Str))=false:=by decide):wpAny (model X.prog X.w) X.A (eval (.Name x pos) X.env) Q E s:=by
 obtain⟨mb,h1,h2⟩:=I.mod.blt;exact Calls.Name_function_global I.ok.kind hg (Calls.loadGlobal_builtin (by rw[I.ok.glob];exact I.mod.glob.keeps I.bk) hm (by rw[I.ok.blt];exact h1.keeps I.bk) ((h2 x hn).trans hv) h) hd
theorem b2z{x:Str}{v:V}{u:Value}{pos:Pos}(hg:Gl X x)(hm:X.mg x=some u)(r:q6_ v u)(hd:(x==("__debug__":Str))=false:=by decide):PE X (.Name x pos) (tC v):=
 fun _ _ _ H _ I h=>a8n I hg hm ⟨v,H,I,r,h⟩ hd
theorem a5G{x:Str}{v:V}{u:Value}{pos:Pos}(hg:Gl X x)(hm:X.mg x=none)(hv:bootBuiltins x=some u)(r:q6_ v u)(hn:x≠"__name__":=by decide)(hd:(x==("__debug__":Str))=false:=by decide):PE X (.Name x pos) (tC v):=
 fun _ _ _ H _ I h=>a2b I hg hm hv ⟨v,H,I,r,h⟩ hn hd
variable{a b:Expr}{ta tb:TE}{pos:Pos}
def PC(X:Cx)(op:CmpOp)(a b:Expr)(t:TE):Prop:=
 ∀(pins:OX) (s:Shared) (σ:St) (H:Hp) (Q:VK),Inv X pins σ H s->t σ H Q->
  wpAny (model X.prog X.w) X.A (eval a X.env) (fun v s₁=>wpAny (model X.prog X.w) X.A (eval b X.env) (fun u s₂=>wpAny (model X.prog X.w) X.A (compareOp op v u) (EP X pins σ Q) X.xe s₂) X.xe s₁) X.xe s
theorem nobehind(b:Expr){op:CmpOp}(h:op≠.In)(h2:op≠.NotIn):behindInMarks op b=false:=by
 have e1:(op==CmpOp.In)=false:=by cases op<;>first|rfl|exact absurd rfl h
 have e2:(op==CmpOp.NotIn)=false:=by cases op<;>first|rfl|exact absurd rfl h2
 cases b<;>simp[behindInMarks,e1,e2]
def tB(t:TE):TT:=fun σ H Q=>t σ H fun x H1=>∃c,x=.bl c/\Q c H1
theorem b2A{op:CmpOp}{t:TE}(h:PC X op a b t)(h1:behindInMarks op b=false:=by first|exact nobehind _ (by decide) (by decide)|rfl):PT X (.Compare a [op] [b] pos) (tB t):=by
 intro pins s σ H Q I hw;refine wpAny_isTrue_Compare1 (thn (h pins s σ H _ I hw) fun v s1 h1=>thn h1 fun u s2 h2=>thn h2 fun c s3 ⟨x,H1,I1,r1,q1⟩=>?_) h1
 obtain⟨d,rfl,q⟩:=q1;cases r1;exact Yr ⟨H1,I1,q⟩
theorem b2B{e:Expr}{t:TE}(h:PE X e t)(he:∀whole,isTrue e X.env whole=(do let v←whole;standAt e.pos;holding [v] (truthy v)):=by intro _;rfl):PT X e (tB t):=by
 intro pins s σ H Q I hw;refine isTrue_plain (thn (h pins s σ H _ I hw) fun v s1 ⟨x,H1,I1,r1,q1⟩=>?_) (he _)
 obtain⟨d,rfl,q⟩:=q1;cases r1;exact Yr ⟨H1,I1,q⟩
variable{tA tB':TT}{rest:List Expr}
def a8o(t u:TT):TT:=fun σ H Q=>t σ H fun c H1=>if c=true then u σ H1 Q else Q false H1
def tOr(t u:TT):TT:=fun σ H Q=>t σ H fun c H1=>if c=true then Q true H1 else u σ H1 Q
def b2C(t:TT):TT:=fun σ H Q=>t σ H fun c H1=>Q (!c) H1
theorem b2D(ha:PT X a tA):PW X (.BoolOp .And [a] pos) tA:=by
 intro wh pins s σ H Q I h;refine isTrue_and (thn (ha pins s σ H Q I h) fun c s1 e=>?_)
 cases c with
 |true=>exact isTrue_and_nil e
 |false=>exact e
theorem b2E(ha:PT X a tA):PW X (.BoolOp .Or [a] pos) tA:=by
 intro wh pins s σ H Q I h;refine isTrue_or (thn (ha pins s σ H Q I h) fun c s1 e=>?_)
 cases c with
 |false=>exact isTrue_or_nil e
 |true=>exact e
theorem b2F(ha:PT X a tA)(hb:PW X (.BoolOp .And (b::rest) pos) tB'):PW X (.BoolOp .And (a::b::rest) pos) (a8o tA tB'):=by
 intro wh pins s σ H Q I h;refine isTrue_and (thn (ha pins s σ H _ I h) fun c s1 ⟨H1,I1,q1⟩=>?_)
 cases c with
 |true=>exact hb wh pins s1 σ H1 Q I1 q1
 |false=>exact⟨H1,I1,q1⟩
theorem b2G(ha:PT X a tA)(hb:PW X (.BoolOp .Or (b::rest) pos) tB'):PW X (.BoolOp .Or (a::b::rest) pos) (tOr tA tB'):=by
 intro wh pins s σ H Q I h;refine isTrue_or (thn (ha pins s σ H _ I h) fun c s1 ⟨H1,I1,q1⟩=>?_)
 cases c with
 |true=>exact⟨H1,I1,q1⟩
 |false=>exact hb wh pins s1 σ H1 Q I1 q1
theorem b2H(ha:PT X a tA):PT X (.UnaryOp .Not a pos) (b2C tA):=by
 intro pins s σ H Q I h;exact isTrue_not (ha pins s σ H (fun c H1=>Q (!c) H1) I h)
def b2I(ta tb:TE):TE:=fun σ H Q=>ta σ H fun x H1=>∃c,x=.bl c/\if c=true then tb σ H1 Q else Q (.bl false) H1
def b2J(ta:TE):TE:=fun σ H Q=>ta σ H fun x H1=>∃c,x=.bl c/\Q (.bl (!c)) H1
theorem b2K{op}{t:TE}(h:PE X a t):PE X (.BoolOp op [a] pos) t:=fun pins s σ H Q I hw=>BoolOp_one (h pins s σ H Q I hw)
theorem b2L(ha:PE X a ta)(hb:PE X (.BoolOp .And (b::rest) pos) tb):PE X (.BoolOp .And (a::b::rest) pos) (b2I ta tb):=by
 intro pins s σ H Q I h;refine BoolOp_and (thn (ha pins s σ H _ I h) fun v s1 ⟨x,H1,I1,r1,q1⟩=>?_)
 obtain⟨c,rfl,q1⟩:=q1;cases r1;refine Yr ?_
 cases c with
 |true=>exact hb pins s1 σ H1 Q I1 q1
 |false=>exact⟨.bl false,H1,I1,rfl,q1⟩
theorem b2M(ha:PE X a ta):PE X (.UnaryOp .Not a pos) (b2J ta):=by
 intro pins s σ H Q I h;refine UnaryOp_ (thn (ha pins s σ H _ I h) fun v s1 ⟨x,H1,I1,r1,q1⟩=>?_)
 obtain⟨c,rfl,q1⟩:=q1;cases r1;exact not_of (Yr ⟨.bl (!c),H1,I1,rfl,q1⟩)
end
def SqL(K:Qq)(H:Hp)(a:Addr)(xs:List V):Prop:=
 Rd H a (.lst xs)∨
  ∃(o:Obj) (its:Array Value) (n:Nat),K.lookup a=some o/\o.cls=.type "list"/\o.dict=none/\o.data=.seq its n/\its.size≤sizeLine/\q3_ xs its.toList
def SqT(K:Qq)(H:Hp)(a:Addr)(xs:List V):Prop:=
 Rd H a (.tup xs)∨
  ∃(o:Obj) (its:Array Value) (n:Nat),K.lookup a=some o/\o.cls=.type "tuple"/\o.dict=none/\o.data=.seq its n/\its.size≤sizeLine/\q3_ xs its.toList
def b2N:Value->Option V
 |.none=>some .non
 |.bool b=>some (.bl b)
 |.int i _=>some (.int i)
 |.str x _=>some (.str x)
 |.bytes b _=>some (.byt b)
 |.float b _=>some (.flt b)
 |.ref a=>some (.ref a)
 |.type n=>some (.ty n)
 |_=>none
theorem q6_.abs{x:V}{u:Value}(r:q6_ x u):b2N u=some x:=by
 cases x with
 |non=>cases r;rfl
 |bl _=>cases r;rfl
 |int _=>obtain⟨t,rfl⟩:=r;rfl
 |str _=>obtain⟨t,rfl⟩:=r;rfl
 |byt _=>obtain⟨t,rfl⟩:=r;rfl
 |flt _=>obtain⟨t,rfl⟩:=r;rfl
 |ref _=>cases r;rfl
 |ty _=>cases r;rfl
theorem q6_.inj{x y:V}{u:Value}(r:q6_ x u)(q:q6_ y u):x=y:=Za (r.abs.symm.trans q.abs)
theorem q3_.inj:∀{xs ys:List V}{us:List Value},q3_ xs us->q3_ ys us->xs=ys
 |_,_,_,.nil,.nil=>rfl
 |_,_,_,.cons r t,.cons r' t'=>by rw[r.inj r',q3_.inj t t']
section
variable{X:Cx}{pins:OX}{σ:St}{H:Hp}{s:Shared}{a:Addr}{xs ys:List V}
theorem Inv.list(I:Inv X pins σ H s)(h:SqL X.K H a xs):∃its:List Value,q3_ xs its/\PlainL s.heap a its.toArray/\xs.length≤sizeLine:=by
 rcases h with h|⟨o,its,n,hk,hc,hd,hs,hz,r⟩
 ·obtain⟨z,its,n,r,e⟩:=h.ok I.hok
  exact⟨its,r,⟨_,n,e,rfl,rfl,rfl⟩,z⟩
 ·refine⟨its.toList,r,⟨o,n,I.kIn a o hk,hc,hd,by simpa using hs⟩,?_⟩
  have e:=r.length
  simp only[Uf]at e
  omega
theorem Inv.tupleD(I:Inv X pins σ H s)(h:SqT X.K H a xs):∃its:List Value,q3_ xs its/\a0z s.heap a its.toArray/\xs.length≤sizeLine:=by
 rcases h with h|⟨o,its,n,hk,hc,hd,hs,hz,r⟩
 ·obtain⟨z,its,r,p⟩:=h.ok I.hok
  exact⟨its,r,p,z⟩
 ·refine⟨its.toList,r,⟨o,I.kIn a o hk,hc,hd,n,by simpa using hs⟩,?_⟩
  have e:=r.length
  simp only[Uf]at e
  omega
theorem Inv.tuple(I:Inv X pins σ H s)(h:SqT X.K H a xs):∃its:List Value,q3_ xs its/\IsTup s.heap a its.toArray/\xs.length≤sizeLine:=
 let ⟨its,r,p,z⟩:=I.tupleD h
 ⟨its,r,p.tup,z⟩
theorem Inv.list_inj(I:Inv X pins σ H s)(h:SqL X.K H a xs)(h':SqL X.K H a ys):xs=ys:=by
 obtain⟨its,r,⟨o,n,e,_,_,d⟩,_⟩:=I.list h;obtain⟨its',r',⟨o',n',e',_,_,d'⟩,_⟩:=I.list h';rw[e]at e';cases e';rw[d]at d';injection d' with d1 _
 have:its=its':=by simpa using Yq Array.toList d1
 subst this;exact r.inj r'
theorem Inv.tuple_inj(I:Inv X pins σ H s)(h:SqT X.K H a xs)(h':SqT X.K H a ys):xs=ys:=by
 obtain⟨its,r,⟨o,e,_,n,d⟩,_⟩:=I.tuple h;obtain⟨its',r',⟨o',e',_,n',d'⟩,_⟩:=I.tuple h';rw[e]at e';cases e';rw[d]at d';injection d' with d1 _
 have:its=its':=by simpa using Yq Array.toList d1
 subst this;exact r.inj r'
end
abbrev Cx.wish(X:Cx)(E:OE):Cx:={X with xe:=E}
abbrev Cx.nox(X:Cx):Cx:=X.wish fun _ _=>False
theorem Cx.Ok.wish{X:Cx}(ok:X.Ok)(E:OE):(X.wish E).Ok:=
 ⟨ok.mod,ok.kind,ok.glob,ok.blt,ok.above,ok.inj,ok.has,ok.cab,ok.hd,ok.frames,ok.stk,ok.exf,ok.bs,ok.bsz,ok.noex,ok.exfs,ok.funs,ok.frf⟩
theorem Cx.Ok.unwish{X:Cx}{E:OE}(ok:(X.wish E).Ok):X.Ok:=
 ⟨ok.mod,ok.kind,ok.glob,ok.blt,ok.above,ok.inj,ok.has,ok.cab,ok.hd,ok.frames,ok.stk,ok.exf,ok.bs,ok.bsz,ok.noex,ok.exfs,ok.funs,ok.frf⟩
section
variable{X:Cx}{pins:OX}{σ:St}{H:Hp}{s:Shared}{E:OE}
theorem Inv.wish(I:Inv X pins σ H s)(E:OE):Inv (X.wish E) pins σ H s:=⟨I.ok.wish E,I.os,I.bare,I.base,I.loc,I.cell,I.free,I.freeC,I.pin,I.hok,I.len⟩
theorem Inv.unwish(I:Inv (X.wish E) pins σ H s):Inv X pins σ H s:=⟨I.ok.unwish,I.os,I.bare,I.base,I.loc,I.cell,I.free,I.freeC,I.pin,I.hok,I.len⟩
theorem SP.unwish{D:Ends}{f:Flow}{s':Shared}(h:SP (X.wish E) pins D f s'):SP X pins D f s':=by
 cases f with
 |next=>obtain⟨σ',H',I,q⟩:=h;exact⟨σ',H',I.unwish,q⟩
 |brk=>obtain⟨σ',H',I,q⟩:=h;exact⟨σ',H',I.unwish,q⟩
 |cont=>obtain⟨σ',H',I,q⟩:=h;exact⟨σ',H',I.unwish,q⟩
 |ret u=>obtain⟨v,σ',H',I,r,q⟩:=h;exact⟨v,σ',H',I.unwish,r,q⟩
theorem PSs.nox{st:List Stmt}{t:TS}(h:PSs X.nox st t):PSs X st t:=fun pins s σ H D I hw=>
 Zq (h pins s σ H D (I.wish _) hw) (fun _ _ q=>q.unwish) fun _ _ z=>False.elim z
end
section
variable{X:Cx}{st:Stmt}{rest:List Stmt}{t u:TS}{e:Expr}{te:TE}{pos:Pos}
def b2O:TS:=fun D σ H=>D.nx σ H
def b2P(t u:TS):TS:=fun D σ H=>t {D with nx:=u D} σ H
theorem b2Q:PSs X [] b2O:=fun _ _ σ H _ I h=>Vg ⟨σ,H,I,h⟩
theorem b2R(h1:PS X st t)(h2:PSs X rest u):PSs X (st::rest) (b2P t u):=by
 intro pins s σ H D I h;refine wpAny_execs_cons (thn (h1 pins s σ H {D with nx:=u D} I h) fun f s1 q=>?_)
 cases f with
 |next=>
  obtain⟨σ',H',I',q⟩:=q;exact h2 pins s1 σ' H' D I' q
 |ret v=>exact q
 |brk=>exact q
 |cont=>exact q
theorem b2S(h1:PS X st t):PSs X [st] t:=by
 intro pins s σ H D I h;refine wpAny_execs_cons (thn (h1 pins s σ H D I h) fun f s1 q=>?_)
 cases f with
 |next=>exact Vg q
 |ret v=>exact q
 |brk=>exact q
 |cont=>exact q
theorem Inv.quiet{pins:OX}{σ:St}{H:Hp}{s:Shared}(I:Inv X pins σ H s):interactive X.env=false:=by simp[interactive,I.ok.kind]
def b2T(te:TE):TS:=fun D σ H=>te σ H fun _ H1=>D.nx σ H1
theorem a8p(he:PE X e te)(hs:swapsWith e none pos.line X.env=pure false:=by rfl):PS X (.Expr e pos) (b2T te):=by
 intro pins s σ H D I h;exact wpAny_Expr_any (thn (he pins s σ H _ I h) fun v s1 ⟨x,H1,I1,r1,q1⟩=>⟨σ,H1,I1,q1⟩) I.quiet hs
def b2U(te:TE):TS:=fun D σ H=>te σ H D.rt
theorem a8q(he:PE X e te):PS X (.Return (some e) pos) (b2U te):=by
 intro pins s σ H D I h;exact wpAny_Return_some (thn (he pins s σ H _ I h) fun v s1 ⟨x,H1,I1,r1,q1⟩=>⟨x,σ,H1,I1,r1,q1⟩)
def b2V(c:TT)(t u:TS):TS:=fun D σ H=>c σ H fun b H1=>if b=true then t D σ H1 else u D σ H1
theorem b2W{c:Expr}{a b:List Stmt}{tc:TT}(hc:PT X c tc)(ha:PSs X a t)(hb:PSs X b u):PS X (.If c a b pos) (b2V tc t u):=by
 intro pins s σ H D I h;refine wpAny_If (thn (hc pins s σ H _ I h) fun d s1 ⟨H1,I1,q1⟩=>?_)
 cases d with
 |true=>exact ha pins s1 σ H1 D I1 q1
 |false=>exact hb pins s1 σ H1 D I1 q1
def b2X:TS:=fun _ _ _=>False
theorem b2Y:PS X st b2X:=fun _ _ _ _ _ _ h=>h.elim
end
abbrev TG:=V->St->Hp->(St->Hp->Prop)->Prop
abbrev TGs:=List V->St->Hp->(St->Hp->Prop)->Prop
def PG(X:Cx)(target:Expr)(t:TG):Prop:=
 ∀(pins:OX) (s:Shared) (σ:St) (H:Hp) (v:V) (u:Value) (Q:St->Hp->Prop),Inv X pins σ H s->q6_ v u->t v σ H Q->
  wpAny (model X.prog X.w) X.A (assign target X.env u) (fun _ s'=>∃σ' H',Inv X pins σ' H' s'/\Q σ' H') X.xe s
def PGs(X:Cx)(ts:List Expr)(t:TGs):Prop:=
 ∀(pins:OX) (s:Shared) (σ:St) (H:Hp) (vs:List V) (us:List Value) (Q:St->Hp->Prop),Inv X pins σ H s->q3_ vs us->t vs σ H Q->
  wpAny (model X.prog X.w) X.A (assignInOrder ((assignEach ts X.env).map (·.2)) us) (fun _ s'=>∃σ' H',Inv X pins σ' H' s'/\Q σ' H') X.xe s
abbrev a4p:=V->V->V->Hp->(Hp->Prop)->Prop
def a5H(X:Cx)(t:a4p):Prop:=
 ∀(pins:OX) (s:Shared) (σ:St) (H:Hp) (o i v:V) (ov iv u:Value) (Q:Hp->Prop),Inv X pins σ H s->q6_ o ov->q6_ i iv->q6_ v u->t o i v H Q->
  wpAny (model X.prog X.w) X.A (setItem ov iv u) (fun _ s'=>∃H',Inv X pins σ H' s'/\Q H') X.xe s
section
variable{X:Cx}{pos:Pos}
def a5I(i:Nat):TG:=fun v σ H Q=>Q (σ.set i (some v)) H
theorem b2Z{i:Nat}{x:Str}(hN:X.N.Nodup)(hi:X.N[i]? =some x)(hx:Loc X.env.scope x)(hf:X.fn x=true∨X.env.scope.names.lookup x=some .local:=by first|exact .inl rfl|exact .inr rfl|assumption):PG X (.Name x pos) (a5I i):=by
 intro pins s σ H v u Q I r h;exact wpAny_assign_Name (a4o I hN hi hx r (fun s' I'=>⟨_,H,I',h⟩) hf)
def b3a:TGs:=fun vs σ H Q=>vs=[]/\Q σ H
def b3b(t:TG)(u:TGs):TGs:=fun vs σ H Q=>∃v r,vs=v::r/\t v σ H fun σ' H'=>u r σ' H' Q
theorem b3c:PGs X [] b3a:=by
 intro pins s σ H vs us Q I r h;obtain⟨e,h⟩:=h;subst e;cases r;exact assignInOrder_nil ⟨σ,H,I,h⟩
theorem b3d{e:Expr}{es:List Expr}{t:TG}{u:TGs}(h1:PG X e t)(h2:PGs X es u)
  (hs:(assignEach (e::es) X.env).map (·.2)=assign e X.env::(assignEach es X.env).map (·.2):=by rfl):PGs X (e::es) (b3b t u):=by
 intro pins s σ H vs us Q I r h;obtain⟨v,vr,e1,h⟩:=h;subst e1;cases r with
 |cons r rr=>
  rw[hs];refine assignInOrder_cons (thn (h1 pins s σ H _ _ _ I r h) fun _ s1 ⟨σ1,H1,I1,q1⟩=>?_)
  exact h2 pins s1 σ1 H1 _ _ Q I1 rr q1
def b3e(K:Qq)(n:Nat)(t:TGs):TG:=fun v σ H Q=>∃a xs,v=.ref a/\SqT K H a xs/\xs.length=n/\t xs σ H Q
theorem b3f{es:List Expr}{k:Nat}{t:TGs}{n:Nat}(hc:X.calm=true)(h:PGs X es t)
  (hn:(assignEach es X.env).length=n:=by rfl)(hst:(assignEach es X.env).findIdx? (·.1)=none:=by rfl):PG X (.Tuple es k pos) (b3e X.K n t):=by
 intro pins s σ H v u Q I r hw;obtain⟨a,xs,e1,hq,hl,hw⟩:=hw;subst e1;cases r;obtain⟨its,rv,ht,hz⟩:=I.tuple hq;refine assign_Tuple_tuple (I.ok.hd hc) ht (by simp[hn,←hl,rv.length]) hst fun h' hx=>?_
 have I1:Inv X pins σ H {s with heap:=h'}:=I.kept (t':=s.toks) fun b o e=>hx b o (Qi (Qu e)) e
 exact h pins _ σ H xs _ Q I1 (by simpa using rv) hw
def b3g(to ti:TE)(t:a4p):TG:=fun v σ H Q=>to σ H fun o H1=>ti σ H1 fun i H2=>t o i v H2 fun H3=>Q σ H3
theorem a8r{o i:Expr}{to ti:TE}{t:a4p}(ho:PE X o to)(hi:PE X i ti)(hs:a5H X t)
  (ha:∀v,assign (.Subscript o i pos) X.env v=(do
   let ov←holding [v] (eval o X.env)
   let iv←holding [v,ov] (eval i X.env)
   standAt pos
   holding [v,ov,iv] (setItem ov iv v)
   release [v,ov,iv] []):=by intro _;rfl):PG X (.Subscript o i pos) (b3g to ti t):=by
 intro pins s σ H v u Q I r h;rw[ha];refine Qz (Jv (thn (ho pins s σ H _ I h) fun ov s1 ⟨x,H1,I1,r1,q1⟩=>?_))
 refine Qz (Jv (thn (hi pins s1 σ H1 _ I1 q1) fun iv s2 ⟨y,H2,I2,r2,q2⟩=>?_))
 refine Qz (Jn (Qz (Jv (thn (hs pins s2 σ H2 x y v ov iv u _ I2 r1 r2 r q2) fun _ s3 ⟨H3,I3,q3⟩=>?_))))
 exact wpAny_release ⟨σ,H3,I3,q3⟩
def a5J(te:TE)(g:TG):TS:=fun D σ H=>te σ H fun x H1=>g x σ H1 D.nx
theorem b3h{tg e:Expr}{te:TE}{g:TG}(he:PE X e te)(hg:PG X tg g)(hs:swapsWithSole [tg] e pos.line X.env=pure false:=by rfl)(hw:swappedStores [tg] e X.env=pure none:=by rfl)
  (h1:(assignEach [tg] X.env).map (·.2)=[assign tg X.env]:=by rfl):PS X (.Assign [tg] e pos) (a5J te g):=by
 intro pins s σ H D I h;refine wpAny_Assign_stores (thn (he pins s σ H _ I h) fun v s1 ⟨x,H1,I1,r1,q1⟩=>?_) hs hw
 rw[h1];exact thn (hg pins s1 σ H1 x v _ I1 r1 q1) fun _ s2 q=>q
theorem a5K{i:Nat}{x:Str}{e:Expr}{te:TE}{pos':Pos}(hN:X.N.Nodup)(hi:X.N[i]? =some x)(hx:Loc X.env.scope x)(he:PE X e te)(hs:swapsWith e (some (.Name x pos')) pos.line X.env=pure false:=by rfl)(hf:X.fn x=true∨X.env.scope.names.lookup x=some .local:=by first|exact .inl rfl|exact .inr rfl|assumption):
  PS X (.Assign [.Name x pos'] e pos) (a5J te (a5I i)):=by
 intro pins s σ H D I h;refine wpAny_Assign_Name (thn (he pins s σ H _ I h) fun v s1 ⟨y,H1,I1,r1,q1⟩=>?_) hs
 exact a4o I1 hN hi hx r1 (fun s2 I2=>⟨_,H1,I2,q1⟩) hf
def b3i(i j:Nat)(ta:TA):TS:=fun D σ H=>ta σ H fun vs H1=>∃v w,vs=[v,w]/\D.nx ((σ.set i (some v)).set j (some w)) H1
theorem b3j{i j:Nat}{x y:Str}{a b:Expr}{ta:TA}{px py pt:Pos}{kt k2 pt2}(hc:X.calm=true)(hN:X.N.Nodup)(hi:X.N[i]? =some x)(hj:X.N[j]? =some y)(hij:i≠j)
  (hx:X.env.scope.names.lookup x=some .local)(hy:X.env.scope.names.lookup y=some .local)(ha:PA X [a,b] ta)
  (hw:swappedStores [.Tuple [.Name x px,.Name y py] kt pt] (.Tuple [a,b] k2 pt2) X.env=pure (some [x,y]))
  (hs:swapsWithSole [.Tuple [.Name x px,.Name y py] kt pt] (.Tuple [a,b] k2 pt2) pos.line X.env=pure false:=by rfl):
  PS X (.Assign [.Tuple [.Name x px,.Name y py] kt pt] (.Tuple [a,b] k2 pt2) pos) (b3i i j ta):=by
 intro pins s σ H D I h;rw[exec_Assign_arm];refine Qz (Jn ?_);rw[hs];refine Qz (Qv ?_);rw[Qs (by decide)]
 refine Qz (Tuple_ (thn (ha _ pins s σ H _ I h) fun us s1 ⟨vs,H1,I1,r1,q1⟩=>?_))
 obtain⟨v,w,e1,q1⟩:=q1;subst e1;obtain⟨u1,u2,rfl,rv,rw'⟩:∃u1 u2,us=[u1,u2]/\q6_ v u1/\q6_ w u2:=by
  cases r1 with
  |cons p q=>
   cases q with
   |cons p' q'=>
    cases q';exact⟨_,_,rfl,p,p'⟩
 refine Yk ?_ (by show 2≤sizeLine;decide)
 have I2:Inv X pins σ H1 {s1 with heap:=s1.heap.push {cls:=.type "tuple",data:=.seq [u1,u2].toArray}}:=I1.kept (t':=s1.toks) fun b o e=>Qx _ e
 rw[hw];refine Qz (Qv ?_);show wpAny (model X.prog X.w) X.A (do rule "assign.swapped-stores";let items←unpackItems (.ref s1.heap.objs.size) 2 none;assignInOrder [fun v=>bindName X.env y v,fun v=>bindName X.env x v] items.reverse;pure Flow.next) _ _ _
 refine Qz (Ju (Qz (unpackItems_tuple (items:=#[u1,u2]) (I.ok.hd hc) (IsTup.new s1.heap _) fun h' hx'=>?_)))
 have I3:=I2.kept (h':=h') (t':=s1.toks) fun b o e=>hx' b o (Qi (Qu e)) e
 show wpAny _ _ (assignInOrder [fun v=>bindName X.env y v,fun v=>bindName X.env x v] [u2,u1]>>=fun _=>pure Flow.next) _ _ _
 refine Qz (assignInOrder_cons (wpAny_bindName (a4o I3 hN hj (.inl hy) rw' (fun s2 I4=>?_) (.inr hy))))
 refine assignInOrder_cons (wpAny_bindName (a4o I4 hN hi (.inl hx) rv (fun s3 I5=>assignInOrder_nil (Qv ?_)) (.inr hx)))
 rw[List.set_comm _ _ (Zn hij)]at I5;exact⟨_,H1,I5,q1⟩
end
section
variable{X:Cx}{pos:Pos}
def b3k(c:TT)(tb:TS):TS:=fun D σ H=>∃W:Nat->St->Hp->Prop,(∃m,W m σ H)/\∀m σ H,W m σ H->
 c σ H fun b H1=>if b=true then∃N:St->Hp->Prop,(∀σ' H',N σ' H'->∃m',m'<m/\W m' σ' H')/\tb {D with nx:=N,ct:=N,bk:=D.nx} σ H1 else D.nx σ H1
theorem b3l{c:Expr}{body:List Stmt}{tc:TT}{tb:TS}(hp:PassesOwn (model X.prog X.w) X.A X.env X.xe)(hc:PT X c tc)(hb:PSs X body tb):PS X (.While c body [] pos) (b3k tc tb):=by
 intro pins s σ H D I h;obtain⟨W,⟨m0,w0⟩,turn⟩:=h;refine wpAny_While (codeAny_whileLoop (fun n s'=>∃σ' H',Inv X pins σ' H' s'/\W n σ' H') ?_ m0 ⟨σ,H,I,w0⟩)
 rintro n s1 ⟨σ1,H1,I1,w1⟩;refine Jz hp (thn (hc pins s1 σ1 H1 _ I1 (turn n σ1 H1 w1)) fun b s2 ⟨H2,I2,q2⟩=>?_)
 cases b with
 |true=>
  obtain⟨N,hN,q2⟩:=q2;rw[Qc rfl];refine Jz hp (thn (hb pins s2 σ1 H2 _ I2 q2) fun f s3 q3=>?_)
  cases f with
  |next=>
   obtain⟨σ3,H3,I3,n3⟩:=q3;obtain⟨m',hm,w3⟩:=hN σ3 H3 n3;exact⟨m',hm,σ3,H3,I3,w3⟩
  |cont=>
   obtain⟨σ3,H3,I3,n3⟩:=q3;obtain⟨m',hm,w3⟩:=hN σ3 H3 n3;exact⟨m',hm,σ3,H3,I3,w3⟩
  |brk=>exact q3
  |ret v=>exact q3
 |false=>
  rw[Qs Zg];exact Vg ⟨σ1,H2,I2,q2⟩
end
structure It where
 go:Nat->Hp->Prop
 yld:Nat->Hp->V->Hp->Prop
 stop:Nat->Hp->Prop
def u7_(X:Cx)(pins:OX)(H:Hp)(b:Addr):Prop:=
 H b=none/\b≠X.env.locals/\b∉X.fs/\(b∈X.ex∨X.s₀.heap.objs.size≤b)/\(∀x c,X.env.cells.lookup x=some c->c≠b)/\∀p∈X.pn++pins,p.1≠b
theorem Inv.fpOk{X:Cx}{pins:OX}{σ:St}{H H':Hp}{s:Shared}{b:Addr}(I:Inv X pins σ H s)(hb:s.heap.objs.size≤b)(hn:H' b=none):u7_ X pins H' b:=by
 refine⟨hn,Xb (Qd I.lt hb),I.nofs hb,.inr (Zo I.sz hb),fun x c e z=>?_,fun p hp z=>?_⟩
 ·obtain⟨v,q⟩:=I.cell x c e
  exact absurd (Qd q.lt (by rw[z];exact hb)) (Yg _)
 ·exact absurd (Qd (Qu (I.pin p hp).1) (by rw[z];exact hb)) (Yg _)
structure Turn(P:Program)(w:World)(K:Qq)(tg:Expr)(J:It)(fp:List Addr)(it:Addr)(tn:Nat->Heap->Prop):Prop where
 mem:it∈fp
 obj:∀i h,tn i h->∀b∈fp,∃o,h.get? b=some o/\∀v,o.data≠.cell v
 keep:∀i h h',tn i h->(∀b∈fp,∀o,h.get? b=some o->h'.get? b=some o)->tn i h'
 item:∀(X:Cx),X.prog=P->X.w=w->X.K=K->X.calm=true->∀(i:Nat) (pins:OX) (s:Shared) (σ:St) (H:Hp) (E:OE),Inv X pins σ H s->(∀b∈fp,u7_ X pins H b)->tn i s.heap->J.go i H->
  wpAny (model P w) X.A (pyNext (.ref it)) (fun r s1=>∃u,r=some u/\
   wpAny (model P w) X.A (letOwnedTupleGo tg (.ref it) u) (fun _ s2=>∃x H',Inv X pins σ H' s2/\q6_ x u/\J.yld i H x H'/\tn (i+1) s2.heap/\∀b∈fp,H' b=none) E s1) E s
 done:∀(X:Cx),X.prog=P->X.w=w->X.K=K->X.calm=true->∀(i:Nat) (pins:OX) (s:Shared) (σ:St) (H:Hp) (E:OE),Inv X pins σ H s->(∀b∈fp,u7_ X pins H b)->tn i s.heap->J.stop i H->
  wpAny (model P w) X.A (pyNext (.ref it)) (fun r s1=>r=none/\Inv X pins σ H s1) E s
 self:∀(A:Around) (i:Nat) (s:Shared) (Q:OE) (E:OE),tn i s.heap->Q (.ref it) s->wpAny (model P w) A (pyIter (.ref it)) Q E s
abbrev TI:=St->Hp->(It->Hp->Prop)->Prop
def PIE(X:Cx)(pins:OX)(σ:St)(tg:Expr)(R:It->Hp->Prop)(itv:Value)(s2:Shared):Prop:=
 ∃(it:Addr) (fp:List Addr) (tn:Nat->Heap->Prop) (J:It) (H':Hp),itv=.ref it/\Inv X pins σ H' s2/\Turn X.prog X.w X.K tg J fp it tn/\tn 0 s2.heap/\(∀b∈fp,u7_ X pins H' b)/\R J H'
def PI(X:Cx)(tg iter:Expr)(wi:TI):Prop:=
 ∀(pins:OX) (s:Shared) (σ:St) (H:Hp) (R:It->Hp->Prop),Inv X pins σ H s->wi σ H R->
  wpAny (model X.prog X.w) X.A (eval iter X.env) (fun v s1=>wpAny (model X.prog X.w) X.A (pyIter v) (PIE X pins σ tg R) X.xe s1) X.xe s
theorem a5L{M:Model}{A:Around}{E:OE}{s:Shared}{tg:Expr}{it:Addr}{u:Value}{o:Obj}{n:String}{vs:Array Value}{Q:Unit->Shared->Prop}(ho:s.heap.get? it=some o)(hc:o.cls=.type n)(hd:o.data=.fields vs)
    (hn:["enumerate","zip","dict_itemiterator","dict_reverseitemiterator","odict_iterator","itertools.zip_longest","itertools.pairwise"].contains n=false)(hQ:Q () s):wpAny M A (letOwnedTupleGo tg (.ref it) u) Q E s:=by
  unfold letOwnedTupleGo;cases tg<;>first
    |exact Qv hQ
    | (cases u<;>first
        |exact Qv hQ
        | (refine Qz (wpAny_load ho ?_)
           rw[hc,hd];show wpAny M A (if(["enumerate","zip","dict_itemiterator","dict_reverseitemiterator","odict_iterator","itertools.zip_longest","itertools.pairwise"].contains n&&vs[0]? ==some (rawInt _))=true then _ else _) Q E s
           rw[Qs (by intro h;rw[hn,Bool.false_and]at h;cases h)]
           exact Qv hQ))
def Itl(K:Qq)(a:Addr):It:=
 ⟨fun i H=>∃xs x,SqL K H a xs/\xs[i]? =some x,fun i H x H'=>H'=H/\∀xs,SqL K H a xs->xs[i]? =some x,fun i H=>∃xs,SqL K H a xs/\xs.length≤i⟩
def Itt(K:Qq)(a:Addr):It:=
 ⟨fun i H=>∃xs x,SqT K H a xs/\xs[i]? =some x,fun i H x H'=>H'=H/\∀xs,SqT K H a xs->xs[i]? =some x,fun i H=>∃xs,SqT K H a xs/\xs.length≤i⟩
def Itr(lo:Int)(n:Nat):It:=⟨fun i _=>i<n,fun i H x H'=>H'=H/\x=.int (lo+i),fun i _=>n≤i⟩
theorem b3m{P:Program}{w:World}{K:Qq}{tg:Expr}(a it:Addr):Turn P w K tg (Itl K a) [it] it (fun i h=>h.IsListIter it a i)where
 mem:=by simp
 obj:=fun i h st b hb=>by
  have e:b=it:=by simpa using hb
  subst e;obtain⟨o,e,c,d⟩:=st;exact⟨o,e,fun v z=>by rw[d]at z;cases z⟩
 keep:=fun i h h' st k=>st.at fun o e=>k it (by simp) o e
 item:=by
  intro X hP hw hK hc i pins s σ H E I hf st hg;subst hP hw hK;obtain⟨xs,x,hq,hx⟩:=hg;obtain⟨its,rv,p,hz⟩:=I.list hq;obtain⟨u,hu,ru⟩:=rv.get hx;obtain⟨f0,f1,f2,f3,f4,f5⟩:=hf it (by simp)
  refine wpAny_pyNext_list_item st p.isList (x:=u) (by simpa using hu) fun h' st' sb=>?_
  have I1:Inv X pins σ H {s with heap:=h'}:=I.turned (t':=s.toks) (fun b o hb e=>(sb.2 b hb).trans e) f0 f1 f3 f4 f5
  obtain⟨o,e,c,d⟩:=id st';exact⟨u,rfl,a5L (s:={s with heap:=h'}) e c d (by decide) ⟨x,H,I1,ru,⟨rfl,fun ys hy=>by rw[I.list_inj hy hq];exact hx⟩,st',fun b hb=>(hf b hb).1⟩⟩
 done:=by
  intro X hP hw hK hc i pins s σ H E I hf st hg;subst hP hw hK;obtain⟨xs,hq,hx⟩:=hg;obtain⟨its,rv,p,hz⟩:=I.list hq;obtain⟨f0,f1,f2,f3,f4,f5⟩:=hf it (by simp)
  have hl:=rv.length
  exact wpAny_pyNext_list_end (I.ok.hd hc) st p.isList (by simp;omega) fun h' eb=>⟨rfl,I.turned (t':=s.toks) (fun b o hb e=>eb b o hb e) f0 f1 f3 f4 f5⟩
 self:=fun _ _ _ _ _ st h=>wpAny_pyIter_listiter st h
theorem b3n{P:Program}{w:World}{K:Qq}{tg:Expr}(a it:Addr):Turn P w K tg (Itt K a) [it] it (fun i h=>h.IsTupleIter it a i)where
 mem:=by simp
 obj:=fun i h st b hb=>by
  have e:b=it:=by simpa using hb
  subst e;obtain⟨o,e,c,d⟩:=st;exact⟨o,e,fun v z=>by rw[d]at z;cases z⟩
 keep:=fun i h h' st k=>st.at fun o e=>k it (by simp) o e
 item:=by
  intro X hP hw hK hc i pins s σ H E I hf st hg;subst hP hw hK;obtain⟨xs,x,hq,hx⟩:=hg;obtain⟨its,rv,p,hz⟩:=I.tuple hq;obtain⟨u,hu,ru⟩:=rv.get hx;obtain⟨f0,f1,f2,f3,f4,f5⟩:=hf it (by simp)
  refine wpAny_pyNext_tuple_item st (show s.heap.IsTuple a its.toArray from p) (x:=u) (by simpa using hu) fun h' st' sb=>?_
  have I1:Inv X pins σ H {s with heap:=h'}:=I.turned (t':=s.toks) (fun b o hb e=>(sb.2 b hb).trans e) f0 f1 f3 f4 f5
  obtain⟨o,e,c,d⟩:=id st';exact⟨u,rfl,a5L (s:={s with heap:=h'}) e c d (by decide) ⟨x,H,I1,ru,⟨rfl,fun ys hy=>by rw[I.tuple_inj hy hq];exact hx⟩,st',fun b hb=>(hf b hb).1⟩⟩
 done:=by
  intro X hP hw hK hc i pins s σ H E I hf st hg;subst hP hw hK;obtain⟨xs,hq,hx⟩:=hg;obtain⟨its,rv,p,hz⟩:=I.tuple hq;obtain⟨f0,f1,f2,f3,f4,f5⟩:=hf it (by simp)
  have hl:=rv.length
  exact wpAny_pyNext_tuple_end (I.ok.hd hc) st (show s.heap.IsTuple a its.toArray from p) (by simp;omega) fun h' eb=>⟨rfl,I.turned (t':=s.toks) (fun b o hb e=>eb b o hb e) f0 f1 f3 f4 f5⟩
 self:=fun _ _ _ _ _ st h=>wpAny_pyIter_tupleiter st h
theorem b3o{P:Program}{w:World}{K:Qq}{tg:Expr}(it:Addr)(lo:Int)(n:Nat):Turn P w K tg (Itr lo n) [it] it (fun i h=>IsRangeIter h it (lo+(i:Nat) * 1) ((n:Int)-(i:Nat)) 1)where
 mem:=by simp
 obj:=fun i h st b hb=>by
  have e:b=it:=by simpa using hb
  subst e;exact⟨_,st,fun v z=>by
   have z':Data.fields _=Data.cell v:=z
   cases z'⟩
 keep:=fun i h h' st k=>k it (by simp) _ st
 item:=by
  intro X hP hw hK hc i pins s σ H E I hf st hg;subst hP hw hK;obtain⟨f0,f1,f2,f3,f4,f5⟩:=hf it (by simp)
  have W:=Walks.range (prog:=X.prog) (w:=X.w) (I.ok.hd hc) it lo 1 n
  refine W.item i s _ _ hg st fun v h' tk hv st' kk=>?_
  obtain⟨t,rfl⟩:=hv;have I1:Inv X pins σ H {s with heap:=h',toks:=tk}:=I.turned (fun b o hb e=>kk b o (by simpa using hb) e) f0 f1 f3 f4 f5
  refine⟨_,rfl,a5L (s:={s with heap:=h',toks:=tk}) (n:="range_iterator") st' rfl rfl (by decide) ⟨.int (lo+i),H,I1,⟨t,?_⟩,⟨rfl,rfl⟩,st',fun b hb=>(hf b hb).1⟩⟩
  rw[Int.mul_one]
 done:=by
  intro X hP hw hK hc i pins s σ H E I hf st hg;subst hP hw hK;obtain⟨f0,f1,f2,f3,f4,f5⟩:=hf it (by simp)
  exact wpAny_pyNext_range_end (I.ok.hd hc) st (by have:n≤i:=hg;omega) fun h' eb=>⟨rfl,I.turned (t':=s.toks) (fun b o hb e=>eb b o hb e) f0 f1 f3 f4 f5⟩
 self:=fun _ _ _ _ _ st h=>wpAny_pyIter_rangeiter st h
section
variable{X:Cx}{tg:Expr}
theorem b3p{pins:OX}{σ:St}{H:Hp}{s:Shared}{R:It->Hp->Prop}{E:OE}{lo hi:Int}{t u v:Tok}{tk:Nat}(I:Inv X pins σ H s)(h1: -(2^62)≤lo)(h2:lo<2^62)(h3: -(2^62)≤hi)(h4:hi<2^62)
  (q:R (Itr lo (hi-lo).toNat) H):wpAny (model X.prog X.w) X.A (pyIter (.ref s.heap.objs.size)) (PIE X pins σ tg R) E {s with heap:=s.heap.push {cls:=.type "range",data:=.fields #[.int lo t,.int hi u,.int 1 v]},toks:=tk}:=by
 refine wpAny_pyIter_range (IsRange.new ..) (small_one h1 h2 h3 h4) ?_
 have I1:Inv X pins σ H {s with heap:=s.heap.push {cls:=.type "range",data:=.fields #[.int lo t,.int hi u,.int 1 v]},toks:=tk}:=I.kept fun b o e=>Qx _ e
 refine⟨(s.heap.push {cls:=.type "range",data:=.fields #[.int lo t,.int hi u,.int 1 v]}).objs.size,[(s.heap.push {cls:=.type "range",data:=.fields #[.int lo t,.int hi u,.int 1 v]}).objs.size],_,_,H,rfl,
  I1.kept (t':=tk) fun b o e=>Qx _ e,b3o _ lo (hi-lo).toNat,?_,fun b hb=>?_,q⟩
 ·have e1:lo+((0:Nat):Int) * 1=lo:=by simp
  have e2:(((hi-lo).toNat:Nat):Int)-((0:Nat):Int)=Builtin.Range.rangeSize lo hi 1:=by rw[rangeSize_one];split<;>omega
  show IsRangeIter _ _ (lo+((0:Nat):Int) * 1) ((((hi-lo).toNat:Nat):Int)-((0:Nat):Int)) 1;rw[e1,e2];exact Qb _ rfl
 ·have e:b=(s.heap.push {cls:=.type "range",data:=.fields #[.int lo t,.int hi u,.int 1 v]}).objs.size:=by simpa using hb
  subst e;exact I1.fpOk (Qm _) (I1.hok.fresh (Qm _))
def b3q(ta:TA):TI:=fun σ H R=>ta σ H fun vs H1=>∃j:Int,vs=[.int j]/\ -(2^62)≤j/\j<2^62/\R (Itr 0 j.toNat) H1
theorem b3r{a:Expr}{ta:TA}{p pos:Pos}(hg:Gl X "range")(hm:X.mg "range"=none)(ha:PA X [a] ta)(hs:starEach [a] X.env=[(false,eval a X.env)]:=by rfl):PI X tg (.Call (.Name "range" p) [a] [] pos) (b3q ta):=by
 intro pins s σ H R I h;refine Call_ (a2b I hg hm boot_range (Up (thn (ha pos pins s σ H _ I h) fun us s1 ⟨vs,H1,I1,r1,q1⟩=>?_) hs rfl))
 obtain⟨j,e,q1,q2,q⟩:=q1;subst e;cases r1 with
 |cons r rr=>
  cases rr;obtain⟨t,rfl⟩:=r;exact call_range_1 (b3p I1 (by omega) (by omega) q1 q2 (by simpa using q))
def b3s(wi:TI)(g:TG)(tb:TS):TS:=fun D σ H=>wi σ H fun J H1=>∃W:Nat->Nat->St->Hp->Prop,(∃m,W 0 m σ H1)/\∀i m σ H,W i m σ H->
 (J.stop i H/\D.nx σ H)∨(J.go i H/\∃N:St->Hp->Prop,(∀σ' H',N σ' H'->∃m',m'<m/\W (i+1) m' σ' H')/\∀x H',J.yld i H x H'->g x σ H' fun σ2 H2=>tb {D with nx:=N,ct:=N,bk:=D.nx} σ2 H2)
def a2E(fp:List Addr)(h:Heap):OX:=fp.filterMap fun b=>(h.get? b).map fun o=>(b,o)
theorem a2F{fp:List Addr}{h:Heap}{b:Addr}{o:Obj}(hb:b∈fp)(e:h.get? b=some o):(b,o)∈a2E fp h:=List.mem_filterMap.mpr ⟨b,hb,by rw[e];rfl⟩
theorem b3t{fp:List Addr}{h:Heap}{p:Addr×Obj}(hp:p∈a2E fp h):p.1∈fp/\h.get? p.1=some p.2:=by
 obtain⟨b,hb,e⟩:=List.mem_filterMap.mp hp;cases q:h.get? b with
 |none=>rw[q]at e;cases e
 |some o=>
  rw[q]at e;have e':(b,o)=p:=Za e;subst e';exact⟨hb,q⟩
theorem Inv.pinned{pins:OX}{σ:St}{H:Hp}{s:Shared}{fp:List Addr}(I:Inv X pins σ H s)(hf:∀b∈fp,u7_ X pins H b)(ho:∀b∈fp,∃o,s.heap.get? b=some o/\∀v,o.data≠.cell v):Inv X (pins++a2E fp s.heap) σ H s:=
 I.pins_of fun p hp=>(Yy.mp hp).elim (fun z=>I.pin p (Qo _ z)) fun z=>by
  obtain⟨hb,e⟩:=b3t z;obtain⟨f0,f1,f2,_⟩:=hf p.1 hb;obtain⟨o,e',d⟩:=ho p.1 hb;rw[e]at e';cases e';exact⟨e,f0,f1,f2,d⟩
theorem Inv.unpinned{pins pl:OX}{σ:St}{H:Hp}{s:Shared}(I:Inv X (pins++pl) σ H s):Inv X pins σ H s:=I.pins_of fun p hp=>I.pin p (Qo _ (List.mem_append_left _ hp))
theorem b3u{iter:Expr}{body:List Stmt}{wi:TI}{g:TG}{tb:TS}{pos:Pos}(hp:PassesOwn (model X.prog X.w) X.A X.env X.xe)(hc:X.calm=true)(hi:PI X tg iter wi)(hg:PG X tg g)(hb:PSs X body tb)
  (hs:∀x,foldedSetIterable iter X.env x=pure x:=by intro _;rfl):PS X (.For tg iter body [] pos) (b3s wi g tb):=by
 intro pins s σ H D I h;refine wpAny_For (thn (hi pins s σ H _ I h) fun v s1 h1=>thn h1 fun itv s2 h2=>?_) hs
 obtain⟨it,fp,tn,J,H2,e,I2,T,st2,f2,W,⟨m0,w0⟩,turn⟩:=h2;subst e;have stat:∀{H':Hp},(∀b∈fp,H' b=none)->∀b∈fp,u7_ X pins H' b:=fun hn b hb=>⟨hn b hb,(f2 b hb).2⟩
 refine codeAny_forLoop_any (fun n s'=>∃i σ' H',Inv X pins σ' H' s'/\tn i s'.heap/\(∀b∈fp,H' b=none)/\W i n σ' H') ?_ m0 ⟨0,σ,H2,I2,st2,fun b hb=>(f2 b hb).1,w0⟩
 rintro n s3 ⟨i,σ3,H3,I3,st3,fr3,w3⟩
 rcases turn i n σ3 H3 w3 with⟨stop,qn⟩|⟨go,N,hN,step⟩
 ·refine Jz hp (thn (T.done X rfl rfl rfl hc i pins s3 σ3 H3 X.xe I3 (stat fr3) st3 stop) fun r s4 ⟨hr,I4⟩=>?_)
  subst hr;exact Vg ⟨σ3,H3,I4,qn⟩
 ·refine Jz hp (thn (T.item X rfl rfl rfl hc i pins s3 σ3 H3 X.xe I3 (stat fr3) st3 go) fun r s4 ⟨u,hr,h4⟩=>?_)
  subst hr;refine Jz hp (thn h4 fun _ s5 ⟨x,H5,I5,r5,y5,st5,fr5⟩=>?_)
  have I5':=I5.pinned (stat fr5) (T.obj _ _ st5)
  refine Jz hp (thn (hg _ s5 σ3 H5 x u _ I5' r5 (step x H5 y5)) fun _ s6 ⟨σ6,H6,I6,q6⟩=>?_)
  refine Jz hp (thn (hb _ s6 σ6 H6 _ I6 q6) fun f s7 q7=>?_)
  have again:∀{σ7:St}{H7:Hp},Inv X (pins++a2E fp s5.heap) σ7 H7 s7->N σ7 H7->∃m,m<n/\∃i σ' H',Inv X pins σ' H' s7/\tn i s7.heap/\(∀b∈fp,H' b=none)/\W i m σ' H':=fun{σ7 H7} I7 n7=>by
   obtain⟨m',hm,w7⟩:=hN σ7 H7 n7;refine⟨m',hm,i+1,σ7,H7,I7.unpinned,T.keep _ _ _ st5 fun b hb o e=>(I7.pin (b,o) (Qo _ (Qo _ (a2F hb e)))).1,fun b hb=>?_,w7⟩
   obtain⟨o,e,d⟩:=T.obj _ _ st5 b hb;exact(I7.pin (b,o) (Qo _ (Qo _ (a2F hb e)))).2.1
  cases f with
  |next=>obtain⟨σ7,H7,I7,n7⟩:=q7;exact again I7 n7
  |cont=>obtain⟨σ7,H7,I7,n7⟩:=q7;exact again I7 n7
  |brk=>obtain⟨σ7,H7,I7,q7⟩:=q7;exact⟨σ7,H7,I7.unpinned,q7⟩
  |ret v=>obtain⟨x7,σ7,H7,I7,r7,q7⟩:=q7;exact⟨x7,σ7,H7,I7.unpinned,r7,q7⟩
end
abbrev R2:=V->V->Hp->VK->Prop
def OpR(X:Cx)(f:Value->Value->Sem Value)(r:R2):Prop:=
 ∀(pins:OX) (s:Shared) (σ:St) (H:Hp) (x y:V) (v u:Value) (Q:VK),Inv X pins σ H s->q6_ x v->q6_ y u->r x y H Q->
  wpAny (model X.prog X.w) X.A (f v u) (EP X pins σ Q) X.xe s
def UnR(X:Cx)(f:Value->Sem Value)(r:V->Hp->VK->Prop):Prop:=
 ∀(pins:OX) (s:Shared) (σ:St) (H:Hp) (x:V) (v:Value) (Q:VK),Inv X pins σ H s->q6_ x v->r x H Q->
  wpAny (model X.prog X.w) X.A (f v) (EP X pins σ Q) X.xe s
def a0d(X:Cx)(f:Value)(r:List V->Hp->VK->Prop):Prop:=
 ∀(pins:OX) (s:Shared) (σ:St) (H:Hp) (xs:List V) (us:List Value) (Q:VK),Inv X pins σ H s->q3_ xs us->r xs H Q->
  wpAny (model X.prog X.w) X.A (call f us) (EP X pins σ Q) X.xe s
def tOp(r:R2)(ta tb:TE):TE:=fun σ H Q=>ta σ H fun x H1=>tb σ H1 fun y H2=>r x y H2 Q
def tUn(r:V->Hp->VK->Prop)(ta:TE):TE:=fun σ H Q=>ta σ H fun x H1=>r x H1 Q
def rI(C:Int->Int->Prop)(g:Int->Int->V):R2:=fun x y H Q=>∃i j,x=.int i/\y=.int j/\C i j/\Q (g i j) H
def rI0(g:Int->Int->V):R2:=fun x y H Q=>∃i j,x=.int i/\y=.int j/\Q (g i j) H
def rU(g:Int->V):V->Hp->VK->Prop:=fun x H Q=>∃i,x=.int i/\Q (g i) H
section
variable{X:Cx}{a b c:Expr}{ta tb tc:TE}{pos:Pos}
theorem a5M(ha:PE X a ta)(hb:PE X b tb){pins:OX}{s:Shared}{σ:St}{H:Hp}{R:V->V->Hp->Prop}(I:Inv X pins σ H s)
  (h:ta σ H fun x H1=>tb σ H1 fun y H2=>R x y H2){Q:OE}{f:Value->Value->Sem Value}
  (hf:∀v u s2 x y H2,Inv X pins σ H2 s2->q6_ x v->q6_ y u->R x y H2->wpAny (model X.prog X.w) X.A (f v u) Q X.xe s2):
  wpAny (model X.prog X.w) X.A (eval a X.env) (fun v s₁=>wpAny (model X.prog X.w) X.A (eval b X.env) (fun u s₂=>wpAny (model X.prog X.w) X.A (f v u) Q X.xe s₂) X.xe s₁) X.xe s:=by
 refine thn (ha pins s σ H _ I h) fun v s1 ⟨x,H1,I1,r1,q1⟩=>?_
 refine thn (hb pins s1 σ H1 _ I1 q1) fun u s2 ⟨y,H2,I2,r2,q2⟩=>?_
 exact hf v u s2 x y H2 I2 r1 r2 q2
theorem a8s{op:Operator}{r:R2}(ho:OpR X (binaryOp op) r)(ha:PE X a ta)(hb:PE X b tb):PE X (.BinOp a op b pos) (tOp r ta tb):=by
 intro pins s σ H Q I h;exact wpAny_BinOp (a5M ha hb I h fun v u s2 x y H2 I2 rx ry q=>ho pins s2 σ H2 x y v u Q I2 rx ry q)
theorem b3v{op:UnaryOp}{r:V->Hp->VK->Prop}(ho:UnR X (unaryOp op) r)(ha:PE X a ta):PE X (.UnaryOp op a pos) (tUn r ta):=by
 intro pins s σ H Q I h;exact UnaryOp_ (thn (ha pins s σ H _ I h) fun v s1 ⟨x,H1,I1,r1,q1⟩=>ho pins s1 σ H1 x v Q I1 r1 q1)
theorem opI{f:Value->Value->Sem Value}{C:Int->Int->Prop}{g:Int->Int->Int}
  (rule:∀(i j:Int) (t u:Tok) (s:Shared) (Q:OE) (E:OE),C i j->Q (.int (g i j) s.toks) {s with toks:=s.toks+1}->wpAny (model X.prog X.w) X.A (f (.int i t) (.int j u)) Q E s):
  OpR X f (rI C fun i j=>.int (g i j)):=by
 intro pins s σ H x y v u Q I rx ry h;obtain⟨i,j,rfl,rfl,hc,q⟩:=h;obtain⟨t,rfl⟩:=rx;obtain⟨t',rfl⟩:=ry;exact rule i j t t' s _ _ hc ⟨.int (g i j),H,I.tok _,⟨_,rfl⟩,q⟩
theorem a8t{f:Value->Value->Sem Value}{g:Int->Int->Int}
  (rule:∀(i j:Int) (t u:Tok) (s:Shared) (Q:OE) (E:OE),Q (.int (g i j) s.toks) {s with toks:=s.toks+1}->wpAny (model X.prog X.w) X.A (f (.int i t) (.int j u)) Q E s):
  OpR X f (rI0 fun i j=>.int (g i j)):=by
 intro pins s σ H x y v u Q I rx ry h;obtain⟨i,j,rfl,rfl,q⟩:=h;obtain⟨t,rfl⟩:=rx;obtain⟨t',rfl⟩:=ry;exact rule i j t t' s _ _ ⟨.int (g i j),H,I.tok _,⟨_,rfl⟩,q⟩
theorem a4q{f:Value->Value->Sem Value}{g:Int->Int->Bool}
  (rule:∀(i j:Int) (t u:Tok) (s:Shared) (Q:OE) (E:OE),Q (.bool (g i j)) s->wpAny (model X.prog X.w) X.A (f (.int i t) (.int j u)) Q E s):
  OpR X f (rI0 fun i j=>.bl (g i j)):=by
 intro pins s σ H x y v u Q I rx ry h;obtain⟨i,j,rfl,rfl,q⟩:=h;obtain⟨t,rfl⟩:=rx;obtain⟨t',rfl⟩:=ry;exact rule i j t t' s _ _ ⟨.bl (g i j),H,I,rfl,q⟩
def a5N(i j:Int):Prop:=0<j/\j<1073741824
def a5O(i j:Int):Prop:=0≤j/\j≤1000000/\i.natAbs<2^64
def a2c(i j:Int):Prop:=(-(2^64)<i/\i<2^64)∨(-(2^64)<j/\j<2^64)
theorem a2c.ok{i j:Int}(h:a2c i j):IntMulOk i j:=by
 rcases h with⟨h1,h2⟩|⟨h1,h2⟩
 ·exact .of_left (intBits_le_64 h1 h2)
 ·exact .of_right (intBits_le_64 h1 h2)
theorem b3w:OpR X (binaryOp .Add) (rI0 fun i j=>.int (i+j)):=a8t fun _ _ _ _ _ _ _ q=>add_int q
theorem a8u:OpR X (binaryOp .Sub) (rI0 fun i j=>.int (i-j)):=a8t fun _ _ _ _ _ _ _ q=>sub_int q
theorem b3x:OpR X (binaryOp .Mult) (rI a2c fun i j=>.int (i * j)):=opI fun _ _ _ _ _ _ _ hc q=>mul_int q hc.ok
theorem a8v:OpR X (binaryOp .FloorDiv) (rI a5N fun i j=>.int (i/j)):=opI fun i j _ _ _ _ _ hc q=>by
 have h1:(0:Int)<j:=hc.1
 have h2:j<1073741824:=hc.2
 exact floordiv_int (by omega) (by rw[Int.fdiv_eq_ediv_of_nonneg i (by omega)];exact q) (.inl (PyProof.noPylong_small (by omega)))
theorem a1D:OpR X (binaryOp .Mod) (rI (fun _ j=>0<j) fun i j=>.int (i%j)):=opI fun i j _ _ _ _ _ hc q=>by
 have h1:(0:Int)<j:=hc
 exact mod_int' (by omega) (by rw[Int.fmod_eq_emod_of_nonneg i (by omega)];exact q)
theorem a8w:OpR X (binaryOp .Pow) (rI a5O fun i j=>.int (i^j.toNat)):=opI fun _ _ _ _ _ _ _ hc q=>pow_int_small hc.1 hc.2.1 hc.2.2 q
theorem unI{f:Value->Sem Value}{g:Int->Int}
  (rule:∀(i:Int) (t:Tok) (s:Shared) (Q:OE) (E:OE),Q (.int (g i) s.toks) {s with toks:=s.toks+1}->wpAny (model X.prog X.w) X.A (f (.int i t)) Q E s):
  UnR X f (rU fun i=>.int (g i)):=by
 intro pins s σ H x v Q I rx h;obtain⟨i,rfl,q⟩:=h;obtain⟨t,rfl⟩:=rx;exact rule i t s _ _ ⟨.int (g i),H,I.tok _,⟨_,rfl⟩,q⟩
theorem b3y:UnR X (unaryOp .USub) (rU fun i=>.int (-i)):=unI fun _ _ _ _ _ q=>neg_int q
end
section
variable{X:Cx}{a b c:Expr}{ta tb tc:TE}{pos:Pos}
theorem a5P:OpR X (compareOp .Lt) (rI0 fun i j=>.bl (decide (i<j))):=a4q fun _ _ _ _ _ _ _ q=>lt_int q
theorem a8x:OpR X (compareOp .LtE) (rI0 fun i j=>.bl (decide (i≤j))):=a4q fun _ _ _ _ _ _ _ q=>le_int q
theorem a8y:OpR X (compareOp .Gt) (rI0 fun i j=>.bl (decide (j<i))):=a4q fun _ _ _ _ _ _ _ q=>gt_int q
theorem b3z:OpR X (compareOp .GtE) (rI0 fun i j=>.bl (decide (j≤i))):=a4q fun _ _ _ _ _ _ _ q=>ge_int q
theorem nomark(b:Expr){op:CmpOp}(h:op≠.In:=by decide)(h2:op≠.NotIn:=by decide):behindInMarks op b=false:=by
 have e1:(op==CmpOp.In)=false:=by cases op<;>first|rfl|exact absurd rfl h
 have e2:(op==CmpOp.NotIn)=false:=by cases op<;>first|rfl|exact absurd rfl h2
 cases b<;>simp[behindInMarks,e1,e2]
theorem b3A{op:CmpOp}{r:R2}(ho:OpR X (compareOp op) r)(ha:PE X a ta)(hb:PE X b tb)(hm:behindInMarks op b=false):PE X (.Compare a [op] [b] pos) (tOp r ta tb):=by
 intro pins s σ H Q I h;exact wpAny_Compare1 (a5M ha hb I h fun v u s2 x y H2 I2 rx ry q=>ho pins s2 σ H2 x y v u Q I2 rx ry q) hm
def b3B(t:TE):TT:=fun σ H Q=>t σ H fun x H'=>∃k,x=.bl k/\Q k H'
theorem b3C{op:CmpOp}{r:R2}(ho:OpR X (compareOp op) r)(ha:PE X a ta)(hb:PE X b tb)(hm:behindInMarks op b=false):PT X (.Compare a [op] [b] pos) (b3B (tOp r ta tb)):=by
 intro pins s σ H Q I h;refine wpAny_isTrue_Compare1 (thn (ha pins s σ H _ I h) fun v s1 ⟨x,H1,I1,r1,q1⟩=>thn (hb pins s1 σ H1 _ I1 q1) fun u s2 ⟨y,H2,I2,r2,q2⟩=>
  thn (ho pins s2 σ H2 x y v u _ I2 r1 r2 q2) fun c s3 ⟨z,H3,I3,r3,k,e,q3⟩=>?_) hm
 subst e;cases r3;exact Yr ⟨H3,I3,q3⟩
def a8z(r r':R2)(ta tb tc:TE):TE:=fun σ H Q=>ta σ H fun x H1=>tb σ H1 fun y H2=>r x y H2 fun z H3=>∃k,z=.bl k/\
 (if k=true then tc σ H3 fun w' H4=>r' y w' H4 Q else Q (.bl false) H3)
theorem b3D{op op':CmpOp}{r r':R2}(ho:OpR X (compareOp op) r)(ho':OpR X (compareOp op') r')(ha:PE X a ta)(hb:PE X b tb)(hc:PE X c tc)
  (hm:lastMarks [op,op'] [b,c]=false:=by with_unfolding_all rfl):PE X (.Compare a [op,op'] [b,c] pos) (a8z r r' ta tb tc):=by
 intro pins s σ H Q I h;refine Compare_chain (thn (ha pins s σ H _ I h) fun v s1 ⟨x,H1,I1,r1,q1⟩=>chain_link (thn (hb pins s1 σ H1 _ I1 q1) fun u s2 ⟨y,H2,I2,r2,q2⟩=>
  thn (ho pins s2 σ H2 x y v u _ I2 r1 r2 q2) fun d s3 ⟨z,H3,I3,r3,k,e,q3⟩=>?_)) hm
 subst e;cases r3;refine Yr ?_
 cases k with
 |false=>exact ite_ff ⟨.bl false,H3,I3,rfl,q3⟩
 |true=>exact ite_tt (chain_last (thn (hc pins s3 σ H3 _ I3 q3) fun w' s4 ⟨z',H4,I4,r4,q4⟩=>ho' pins s4 σ H4 y z' u w' Q I4 r2 r4 q4))
theorem a3u:(sizeLine:Nat)<2^63:=by rw[sizeLine_eq];decide
theorem a1E{x:V}{us:List Value}(r:q3_ [x] us):∃u,us=[u]/\q6_ x u:=by
 cases r with
 |cons r1 r2=>cases r2;exact⟨_,rfl,r1⟩
theorem a2G{x y:V}{us:List Value}(r:q3_ [x,y] us):∃u w',us=[u,w']/\q6_ x u/\q6_ y w':=by
 cases r with
 |cons r1 r2=>
  cases r2 with
  |cons r3 r4=>cases r4;exact⟨_,_,rfl,r1,r3⟩
theorem b3E(hc:X.calm=true):a0d X (.builtin "max") (fun xs H Q=>∃i j,xs=[.int i,.int j]/\Q (.int (if j>i then j else i)) H):=by
 intro pins s σ H xs us Q I r h;obtain⟨i,j,rfl,q⟩:=h;obtain⟨u,w',rfl,⟨t,rfl⟩,⟨t',rfl⟩⟩:=a2G r;refine max_two_ints (I.ok.hd hc) fun h' tk k=>⟨_,H,I.kept k,?_,q⟩
 by_cases hj:j>i
 ·rw[Qc hj,Qc hj];exact⟨_,rfl⟩
 ·rw[Qs hj,Qs hj];exact⟨_,rfl⟩
theorem b3F(hc:X.calm=true):a0d X (.builtin "min") (fun xs H Q=>∃i j,xs=[.int i,.int j]/\Q (.int (if j<i then j else i)) H):=by
 intro pins s σ H xs us Q I r h;obtain⟨i,j,rfl,q⟩:=h;obtain⟨u,w',rfl,⟨t,rfl⟩,⟨t',rfl⟩⟩:=a2G r;refine min_two_ints (I.ok.hd hc) fun h' tk k=>⟨_,H,I.kept k,?_,q⟩
 by_cases hj:j<i
 ·rw[Qc hj,Qc hj];exact⟨_,rfl⟩
 ·rw[Qs hj,Qs hj];exact⟨_,rfl⟩
theorem b3G:a0d X (.type "int") (fun xs H Q=>(∃i,xs=[.int i]/\Q (.int i) H)∨ ∃k,xs=[.bl k]/\Q (.int (if k then 1 else 0)) H):=by
 intro pins s σ H xs us Q I r h
 rcases h with⟨i,rfl,q⟩|⟨k,rfl,q⟩
 ·obtain⟨u,rfl,t,rfl⟩:=a1E r
  exact call_int_int ⟨.int i,H,I,⟨_,rfl⟩,q⟩
 ·obtain⟨u,rfl,r1⟩:=a1E r
  cases r1;exact call_int_bool ⟨.int (if k then 1 else 0),H,I.tok _,⟨_,rfl⟩,q⟩
end
structure ObjM(h:Heap)(x dx C:Addr)(mA:OU):Prop where
 obj:h.get? x=some (PySem.W.instObj C dx)
 ns:h.Ns1 dx mA
 ne:dx≠x
theorem b3H{h:Heap}{dx:Addr}{mA:OU}(n:h.Ns1 dx mA):∃od,h.get? dx=some od/\∀name,PySem.W.lookIn name od=some (mA name):=by
 obtain⟨o,es,ep,ho,hd,hk,_,hm⟩:=n;refine⟨o,ho,fun name=>?_⟩
 have e:=hm name
 unfold nsFind findBy at e;rw[←Array.find?_toList]at e;unfold PySem.W.lookIn;rw[hd];dsimp only;split
 ·rename_i y q
  rw[q]at e;exact Yq some e
 ·rename_i q
  rw[q]at e;have a:es.toList.any (·.refKey)=false:=by
   rw[List.any_eq_false];intro y hy;obtain⟨z,t,hkey⟩:=hk y (Array.mem_toList_iff.mp hy)
   simp[DictEntry.refKey,hkey]
  have a':¬ es.toList.any (·.refKey)=true:=by rw[a];exact Zg
  rw[Qs a'];exact Yq some e
theorem ObjM.look{h:Heap}{x dx C:Addr}{mA:OU}(I:ObjM h x dx C mA):∃od,PySem.W.InstAt h x (PySem.W.instObj C dx) C (some od)/\∀name,PySem.W.lookIn name od=some (mA name):=
 let ⟨od,ho,hl⟩:=b3H I.ns
 ⟨od,⟨I.obj,rfl,rfl,ho⟩,hl⟩
section
variable{prog:Program}{w:World}{A:Around}{E:OE}{s:Shared}{K:Qq}{x dx C f:Addr}{mA:OU}{name:Str}{v:Value}
end
theorem a0X.some_of{v:V}{o:Option Value}(r:a0X (some v) o):∃u,o=some u/\q6_ v u:=by
 cases o with
 |none=>exact(show False from r).elim
 |some u=>exact⟨u,rfl,r⟩
section
variable{P:Program}{w:World}{H H':Hp}{h h':Heap}{a C dx:Addr}{fs fs':List (Str×V)}
theorem b3I(hok:HOk P w H h)(e:H a=some (.ins C dx fs)):∃mA,ObjM h a dx C mA/\(∀f,a0X (fs.lookup f) (mA f))/\PySem.Within mA (fs.map (·.1))/\fs.length≤1000/\H dx=some (.own a):=by
 obtain⟨d,z,ne,ob,mA,n,r,q⟩:=(show x4_ P w H h a (.ins C dx fs)from hok a _ e)
 exact⟨mA,⟨ob,n,ne⟩,r,q,z,d⟩
end
structure Cls(K:Qq)(C:Addr):Prop where
 pg:PySem.W.plainGet K C Str.empty=true
 hd:PySem.W.hasDictIn K C=true
 po:PySem.W.plainOver K C=true
 sa:PySem.W.findIn K (.ref C) "__setattr__"=some (some (.builtin "object.__setattr__"))
theorem Cls.get{K:Qq}{C:Addr}(c:Cls K C)(f:Str):PySem.W.plainGet K C f=true:=c.pg
structure Con(K:Qq)(C:Addr)(f:Str)(v:V)(u:Value):Prop where
 at_:PySem.W.findIn K (.ref C) f=some (some u)
 rel:q6_ v u
 get:PySem.W.specialIn K u "__get__"=some none
 cp:PySem.W.copiedNames.contains f=false
structure Meth(K:Qq)(C:Addr)(m:Str)(f:Addr):Prop where
 at_:PySem.W.findIn K (.ref C) m=some (some (.ref f))
 fn:PySem.W.isFn K (.ref f)=true
 kp:PySem.W.keepIn K (.ref f)=true
section
variable{X:Cx}{pins:OX}{σ:St}{H:Hp}{s:Shared}{a C dx:Addr}{fs:List (Str×V)}{f:Str}{v:V}{A:Around}{E:OE}
end
section
variable{X:Cx}{o e value:Expr}{f:Str}{pos pos' tpos:Pos}{ta tv:TE}
end
section
variable{X:Cx}{pins:OX}{σ:St}{H:Hp}{s:Shared}{A:Around}{E:OE}{Q:OE}{c:Value}{b:Bool}
inductive TyOf (K:Qq) (H:Hp):V->Value->Prop where
 |non:TyOf K H .non (.type "NoneType")
 |bl (x:Bool):TyOf K H (.bl x) (.type "bool")
 |int (i:Int):TyOf K H (.int i) (.type "int")
 |str (x:Str):TyOf K H (.str x) (.type "str")
 |flt (x:UInt64):TyOf K H (.flt x) (.type "float")
 |lst {a:Addr}{xs:List V}(e:H a=some (.lst xs)):TyOf K H (.ref a) (.type "list")
 |frz {a:Addr}{o:Obj}{xs:List V}(e:H a=some (.frz o (.lst xs))):TyOf K H (.ref a) (.type "list")
 |tup {a:Addr}{xs:List V}(e:H a=some (.tup xs)):TyOf K H (.ref a) (.type "tuple")
 |dK {a:Addr}{kvs:List (Key×V)}(e:H a=some (.dK kvs)):TyOf K H (.ref a) (.type "dict")
 |dT {a:Addr}{C:Addr->List Key->Prop}{kvs:List (List Key×V)}(e:H a=some (.dT C kvs)):TyOf K H (.ref a) (.type "dict")
 |ins {a C dx:Addr}{fs:List (Str×V)}(e:H a=some (.ins C dx fs)) (cl:Cls K C) (ha:PySem.W.findIn K (.ref C) "__class__"=some (some (.builtin "object.__class__")))
   (hn:PySem.W.specialIn K (.builtin "object.__class__") "__get__"=some (some (.builtin "getset_descriptor.__get__"))) (htk:PySem.W.takesIn K (.builtin "object.__class__")=some true)
   (hm:PySem.W.mroIn K C (.type "object")=some true):TyOf K H (.ref a) (.ref C)
theorem a2H{x:V}{u t:Value}(I:Inv X pins σ H s)(rx:q6_ x u)(ty:TyOf X.K H x t)(e:PySem.W.kitOne X.K t c=some b)(h:∀tk,Q (.bool b) {s with toks:=tk}):
  wpAny (model X.prog X.w) A (call (.builtin "isinstance") [u,c]) Q E s:=by
 cases ty with
 |non=>cases (show u=Value.none from rx);exact Zx PySem.W.kitx_none I.kIn True.intro e (fun z=>nomatch z) h
 |bl y=>cases (show u=Value.bool y from rx);exact Zx PySem.W.kitx_bool I.kIn True.intro e (fun z=>nomatch z) h
 |int i=>obtain⟨t,q⟩:=(show∃t,u=Value.int i t from rx);cases q;exact Zx PySem.W.kitx_int I.kIn True.intro e (fun z=>nomatch z) h
 |str y=>obtain⟨t,q⟩:=(show∃t,u=Value.str y t from rx);cases q;exact Zx PySem.W.kitx_str I.kIn True.intro e (fun z=>nomatch z) h
 |flt y=>obtain⟨t,q⟩:=(show∃t,u=Value.float y t from rx);cases q;exact Zx PySem.W.kitx_float I.kIn True.intro e (fun z=>nomatch z) h
 |@lst a xs ea=>
  cases (show u=Value.ref a from rx)
  obtain⟨_,_,n,_,h1⟩:=(show x4_ X.prog X.w H s.heap a (.lst xs)from I.hok a _ ea)
  exact Zx Ue I.kIn ⟨_,h1,rfl⟩ e (fun z=>nomatch z) h
 |@frz a ob xs ea=>
  cases (show u=Value.ref a from rx)
  obtain⟨_,_,_,n,_,h1⟩:=(show x4_ X.prog X.w H s.heap a (.frz ob (.lst xs))from I.hok a _ ea)
  exact Zx Ue I.kIn ⟨_,h1,rfl⟩ e (fun z=>nomatch z) h
 |@tup a xs ea=>
  cases (show u=Value.ref a from rx)
  obtain⟨_,_,_,p⟩:=(show x4_ X.prog X.w H s.heap a (.tup xs)from I.hok a _ ea)
  obtain⟨o,h1,h2,_⟩:=p;exact Zx Va I.kIn ⟨o,h1,h2⟩ e (fun z=>nomatch z) h
 |@dK a kvs ea=>
  cases (show u=Value.ref a from rx)
  obtain⟨_,_,vs,_,p⟩:=(show x4_ X.prog X.w H s.heap a (.dK kvs)from I.hok a _ ea)
  obtain⟨o,es,ep,h1,h2,_⟩:=p;exact Zx Yv I.kIn ⟨o,h1,h2.1⟩ e (fun z=>nomatch z) h
 |@dT a C kvs ea=>
  cases (show u=Value.ref a from rx)
  obtain⟨_,_,xs,_,o,es,ep,h1,h2,_⟩:=(show x4_ X.prog X.w H s.heap a (.dT C kvs)from I.hok a _ ea)
  exact Zx Yv I.kIn ⟨o,h1,h2.1⟩ e (fun z=>nomatch z) h
 |@ins a C dx fs ea cl ha hn htk hm=>
  cases (show u=Value.ref a from rx)
  obtain⟨mA,O,_⟩:=b3I I.hok ea;obtain⟨od,J,_⟩:=O.look;exact Zx (PySem.W.kitx_own (cl.get _) cl.hd ha hn htk hm) I.kIn J e (fun z=>nomatch z) h
end
structure Room(k:Nat)(A:Around):Prop where
 hd:A.handled=none
 dp:A.depth+3 * k+5<recursionLimit
 un:A.units+16 * k+200<cLine
theorem Room.mono{j k:Nat}{A:Around}(r:Room k A)(h:j≤k):Room j A:=⟨r.hd,by have:=r.dp;omega,by have:=r.un;omega⟩
theorem Room.deeper{k:Nat}{A:Around}(r:Room (k+1) A)(env:Env):Room k (A.deeper env):=
 ⟨r.hd,by have:=r.dp;show A.depth+1+3 * k+5<_;omega,by have:=r.un;show A.units+3+16 * k+200<_;omega⟩
theorem Room.depth{k:Nat}{A:Around}(r:Room k A):A.depth<recursionLimit:=by have:=r.dp;omega
theorem Room.units{k:Nat}{A:Around}(r:Room k A):A.units+64<cLine:=by have:=r.un;omega
def a8A:TA:=fun _ H Q=>Q [] H
def a5Q(ta:TE)(tr:TA):TA:=fun σ H Q=>ta σ H fun x H1=>tr σ H1 fun xs H2=>Q (x::xs) H2
section
variable{X:Cx}{e:Expr}{es:List Expr}{te:TE}{t:TA}{pos:Pos}
theorem a2I:PA X [] a8A:=fun _ _ _ _ H Q I h=>Calls.spliced_nil ⟨[],H,I,.nil,h⟩
theorem a0Y(ha:PE X e te)(hr:PA X es t)(hs:starEach (e::es) X.env=(false,eval e X.env)::starEach es X.env:=by rfl):PA X (e::es) (a5Q te t):=by
 intro pos pins s σ H Q I h;rw[hs];show wpAny _ _ (spliced ((false,eval e X.env)::backTo pos (starEach es X.env))) _ _ s;refine Calls.spliced_cons (thn (ha pins s σ H _ I h) fun u s1 ⟨x,H1,I1,r1,q1⟩=>?_)
 exact thn (hr pos pins s1 σ H1 _ I1 q1) fun us s2 ⟨xs,H2,I2,r2,q2⟩=>⟨x::xs,H2,I2,.cons r1 r2,q2⟩
def a8B(t:TA):TE:=fun σ H Q=>t σ H fun xs H1=>xs.length≤sizeLine/\∀p,H1 p=none->Q (.ref p) (upd H1 p (.tup xs))
def b3J(t:TA):TE:=fun σ H Q=>t σ H fun xs H1=>xs.length≤sizeLine/\∀p,H1 p=none->Q (.ref p) (upd H1 p (.lst xs))
theorem a8C{x1}(h:PA X es t):PE X (.Tuple es x1 pos) (a8B t):=by
 intro pins s σ H Q I hq;refine wpAny_Tuple_spliced (thn (h pos pins s σ H _ I hq) fun us s1 ⟨xs,H1,I1,r,z,q⟩=>⟨by rw[←r.length];exact z,?_⟩)
 have hf:H1 s1.heap.objs.size=none:=I1.hok.fresh (Qm _)
 refine⟨.ref s1.heap.objs.size,upd H1 s1.heap.objs.size (.tup xs),I1.laid (t':=s1.toks) (fun b u e=>Qx _ e) (Qm _) ?_,rfl,q _ hf⟩
 exact⟨z,us,r,⟨_,Qb _ rfl,rfl,rfl,_,rfl⟩⟩
theorem b3K(h:PA X es t):PE X (.List es pos) (b3J t):=by
 intro pins s σ H Q I hq;refine wpAny_List_spliced (thn (h pos pins s σ H _ I hq) fun us s1 ⟨xs,H1,I1,r,z,q⟩=>⟨by rw[←r.length];exact z,?_⟩)
 have hf:H1 s1.heap.objs.size=none:=I1.hok.fresh (Qm _)
 refine⟨.ref s1.heap.objs.size,upd H1 s1.heap.objs.size (.lst xs),I1.laid (t':=s1.toks) (fun b u e=>Qx _ e) (Qm _) ?_,rfl,q _ hf⟩
 exact⟨z,us,0,r,Qb _ rfl⟩
end
abbrev Sp:=List V->Hp->VK->XK->Prop
abbrev CXT:=List Env->Hp->Shared->XK->OE
structure Env0(P:Program)(w:World)(K:Qq)(mg:OU)(base:Heap)(A:Around)(outer:List Env)(s:Shared)(H:Hp):Prop where
 frames:A.frames=some outer
 mod:Mod K mg base
 bs:∀b o,base.get? b=some o->s.heap.get? b=some o/\H b=none
 bsz:base.objs.size≤s.heap.objs.size
 funs:s.heap.FunFrames base outer
 frf:∀b∈frs outer,H b=none
 hok:HOk P w H s.heap
 bare:AllBare s.gens
def CE(outer:List Env)(P:Program)(w:World)(H:Hp)(s:Shared)(Q:VK)(u:Value)(s':Shared):Prop:=
 ∃v H',s'.os=s.os/\AllBare s'.gens/\Un (frs outer) [] H H' s.heap s'.heap/\HOk P w H' s'.heap/\q6_ v u/\Q v H'
def CR(CX:CXT)(outer:List Env)(P:Program)(w:World)(H:Hp)(s:Shared)(Q:VK)(E:XK)(r:Result)(s':Shared):Prop:=
 match r with
 |.ok (.ret u)=>CE outer P w H s Q u s'
 |.ok _=>False
 |.error e=>CX outer H s E e s'
structure FnOk(P:Program)(w:World)(K:Qq)(mg:OU)(base:Heap)(CX:CXT)(k:Nat)(f:Addr)(fd:FuncData)(ps:List Str)(sp:Sp):Prop where
 len:∀vs H Q E,sp vs H Q E->vs.length=ps.length
 run:∀(A:Around) (outer:List Env) (s:Shared) (H:Hp) (args:Args) (us:List Value) (vs:List V) (Q:VK) (E:XK),Room k A->Env0 P w K mg base A outer s H->BindsTo s fd args (ps.zip us)->q3_ vs us->sp vs H Q E->
  codeAny (model P w) A (.call (.ref f) args) (CR CX outer P w H s Q E) s
section
variable{X:Cx}{pins:OX}{σ:St}{H:Hp}{s s':Shared}
theorem Inv.env0(I:Inv X pins σ H s):Env0 X.prog X.w X.K X.mg X.base X.A X.stack s H:=
 ⟨I.ok.frames,I.ok.mod,I.bs,Zo I.ok.bsz I.sz,I.stack,I.stkFree,I.hok,I.bare⟩
theorem Inv.after{Q:VK}{u:Value}(I:Inv X pins σ H s)(h:CE X.stack X.prog X.w H s Q u s'):EP X pins σ Q u s':=by
 obtain⟨v,H',os,bare,un,hok,r,q⟩:=h;obtain⟨hh,g,d,t,os'⟩:=s';obtain rfl:os'=s.os:=os;exact⟨v,H',I.call (h':=hh) (g':=g) (d':=d) (t':=t) (ch:=[]) un hok bare (fun b z=>absurd z (by simp)),r,q⟩
end
def a8D(sp:Sp)(dvs:List V)(E:XK)(t:TA):TE:=fun σ H Q=>t σ H fun vs H1=>sp (vs++dvs) H1 Q E
def a0e(K:Qq)(fd:FuncData)(ps:List Str)(ds:List Value):Prop:=
 ∀(s:Shared) (us:List Value),K.In s.heap->(us++ds).length=ps.length->BindsTo s fd ⟨us,[]⟩ (ps.zip (us++ds))
theorem a0e.all{K:Qq}{fd:FuncData}{ps:List Str}(h:∀us:List Value,us.length=ps.length->bindArgs fd ⟨us,[]⟩=pure (ps.zip us)):a0e K fd ps []:=fun s us _ hl=>by
 rw[Yl]at hl ⊢;exact .of_eq (h us hl)
def a4r(CX:CXT)(X:Cx)(E:XK):Prop:=∀(pins:OX) (σ:St) (H:Hp) (s:Shared) (e:Value) (s':Shared),Inv X pins σ H s->CX X.stack H s E e s'->X.xe e s'
section
variable{X:Cx}{CX:CXT}{k:Nat}{f C:Addr}{fd:FuncData}{ps:List Str}{sp:Sp}{dvs:List V}{ds:List Value}{E:XK}{x m:Str}{p pos apos:Pos}{e o:Expr}{es:List Expr}{ta:TE}{t:TA}
theorem b3L{pins:OX}{σ:St}{H:Hp}{s:Shared}{Q:VK}{us:List Value}{vs:List V}(F:FnOk X.prog X.w X.K X.mg X.base CX k f fd ps sp)(hr:Room k X.A)(hb:a0e X.K fd ps ds)(hd:q3_ dvs ds)(hx:a4r CX X E)
  (I:Inv X pins σ H s)(r:q3_ vs us)(h:sp (vs++dvs) H Q E):wpAny (model X.prog X.w) X.A (call (.ref f) us) (EP X pins σ Q) X.xe s:=by
 have r2:q3_ (vs++dvs) (us++ds):=r.append hd
 have hl:(us++ds).length=ps.length:=by rw[←r2.length];exact F.len _ _ _ _ h
 refine wpAny_call (codeAny_mono (F.run X.A X.stack s H ⟨us,[]⟩ (us++ds) (vs++dvs) Q E hr I.env0 (hb s us I.kIn hl) r2 h) fun r s' hq=>?_)
 cases r with
 |error e=>exact hx pins σ H s e s' I hq
 |ok fl=>
  cases fl with
  |ret u=>exact I.after hq
  |next=>exact False.elim hq
  |brk=>exact False.elim hq
  |cont=>exact False.elim hq
theorem a5R(F:FnOk X.prog X.w X.K X.mg X.base CX k f fd ps sp)(hr:Room k X.A)(hg:Gl X x)(hm:X.mg x=some (.ref f))(hk:PySem.W.keepIn X.K (.ref f)=true)(hb:a0e X.K fd ps ds)(hd:q3_ dvs ds)(hx:a4r CX X E)
  (ha:PA X (e::es) t)(hdb:(x==("__debug__":Str))=false:=by decide)(he:starEach (e::es) X.env=(false,eval e X.env)::starEach es X.env:=by rfl)(hpl:(backTo pos (starEach es X.env)).any (·.1)=false:=by rfl):
  PE X (.Call (.Name x p) (e::es) [] pos) (a8D sp dvs E t):=by
 intro pins s σ H Q I h;refine Ul (a8n I hg hm ?_ hdb);refine PySem.W.callWith_K (h₀:=X.base) I.ok.mod.kin hk (thn (ha pos pins s σ H _ I h) fun us s1 ⟨vs,H1,I1,r,q⟩=>⟨I1.kIn,?_⟩) he hpl
 exact b3L F hr hb hd hx I1 r q
structure Mk(K:Qq)(C f:Addr):Prop where
 makes:PySem.W.makesIn K C=true
 init:PySem.W.findIn K (.ref C) "__init__"=some (some (.ref f))
 fn:PySem.W.isFn K (.ref f)=true
 kp:PySem.W.keepIn K (.ref C)=true
end
section
variable{X:Cx}{CX:CXT}{k:Nat}{f C:Addr}{fd:FuncData}{ps ks:List Str}{sp:Sp}{E:XK}{x m:Str}{p pos apos kpos:Pos}{e o:Expr}{es:List Expr}{kws:List Keyword}{te ta:TE}{t tk:TA}{nm:Option Str}
structure KBinds(K:Qq)(fd:FuncData)(ps ks:List Str)(g:List Value->List Value->List Value)(gV:List V->List V->List V):Prop where
 to:∀(s:Shared) (us ws:List Value),K.In s.heap->(g us ws).length=ps.length->BindsTo s fd ⟨us,ks.zip ws⟩ (ps.zip (g us ws))
 rel:∀{vs:List V}{us:List Value}{zs:List V}{ws:List Value},q3_ vs us->q3_ zs ws->q3_ (gV vs zs) (g us ws)
variable{g:List Value->List Value->List Value}{gV:List V->List V->List V}
end
structure FnScope(N P:List Str)(sc:Scope):Prop where
 kind:sc.kind=.function
 co:sc.isCoroutine=false
 gen:sc.isGenerator=false
 nd:N.Nodup
 pre:N.take P.length=P
 par:∀x∈P,sc.names.lookup x=some .local∨sc.names.lookup x=some .cell
 nofree:∀y∈sc.names,y.2≠.free
theorem a8E{kindOf:Str->Option NameKind}{x:Str}:∀{binds:List (Str×Value)}{m:OU},(∀v,(x,v)∉binds)->bindL kindOf binds m x=m x
 |[],_,_=>rfl
 |(n,v)::r,m,h=>by
  unfold bindL;rw[a8E fun w hw=>h w (Qa _ hw)]
  split
  ·have:x≠n:=by rintro rfl;exact h v Zv
   simp[this]
  ·rfl
theorem a8F{kindOf:Str->Option NameKind}{x:Str}:∀{binds:List (Str×Value)}{m:OU},(∀v,(x,v)∉binds)->bindC kindOf binds m x=m x
 |[],_,_=>rfl
 |(n,v)::r,m,h=>by
  unfold bindC;rw[a8F fun w hw=>h w (Qa _ hw)]
  split
  ·rfl
  ·have:x≠n:=by rintro rfl;exact h v Zv
   simp[this]
theorem a8G{kindOf:Str->Option NameKind}{x:Str}{v:Value}:∀{P:List Str}{vs:List Value}{i:Nat}{m:OU},P.Nodup->P[i]? =some x->vs[i]? =some v->kindOf x=some .local->
  bindL kindOf (P.zip vs) m x=some v
 |[],_,_,_,_,h,_,_=>by simp at h
 |_::_,[],_,_,_,_,h,_=>by simp at h
 |p::P,w::vs,0,m,nd,h1,h2,hk=>by
  simp at h1 h2;subst h1;subst h2
  show bindL kindOf ((p,w)::P.zip vs) m p=_;unfold bindL;rw[a8E fun v hv=>(Jd.mp nd).1 (Xh hv).1,Qc hk]
  simp
 |p::P,w::vs,i+1,m,nd,h1,h2,hk=>by
  show bindL kindOf ((p,w)::P.zip vs) m x=_;unfold bindL;exact a8G (i:=i) (Jd.mp nd).2 (by simpa using h1) (by simpa using h2) hk
theorem a8H{kindOf:Str->Option NameKind}{x:Str}{v:Value}:∀{P:List Str}{vs:List Value}{i:Nat}{m:OU},P.Nodup->P[i]? =some x->vs[i]? =some v->kindOf x≠some .local->
  bindC kindOf (P.zip vs) m x=some v
 |[],_,_,_,_,h,_,_=>by simp at h
 |_::_,[],_,_,_,_,h,_=>by simp at h
 |p::P,w::vs,0,m,nd,h1,h2,hk=>by
  simp at h1 h2;subst h1;subst h2
  show bindC kindOf ((p,w)::P.zip vs) m p=_;unfold bindC;rw[a8F fun v hv=>(Jd.mp nd).1 (Xh hv).1,Qs hk]
  simp
 |p::P,w::vs,i+1,m,nd,h1,h2,hk=>by
  show bindC kindOf ((p,w)::P.zip vs) m x=_;unfold bindC;exact a8H (i:=i) (Jd.mp nd).2 (by simpa using h1) (by simpa using h2) hk
def start(N:List Str)(vs:List V):St:=vs.map some++List.replicate (N.length-vs.length) none
def a2d(CX:CXT)(P:Program)(w:World)(K:Qq)(mg:OU)(base:Heap)(N:List Str)(qual:Str)(scope:Scope)(f:Addr)(cd:Value)(A:Around)(outer:List Env)(s:Shared)(H:Hp)(E:XK):Cx where
 prog:=P
 w:=w
 K:=K
 mg:=mg
 base:=base
 A:=A.deeper (envOfC qual scope s.heap.objs.size f cd)
 N:=N
 s₀:=s
 H₀:=H
 env:=envOfC qual scope s.heap.objs.size f cd
 outer:=outer
 stack:=envOfC qual scope s.heap.objs.size f cd::outer
 ex:=[]
 calm:=true
 fn:=fun _=>true
 pn:=[]
 xe:=fun e s'=>wpAny (model P w) (A.deeper (envOfC qual scope s.heap.objs.size f cd)) (leaving (envOfC qual scope s.heap.objs.size f cd) e) (fun _ s''=>CX outer H s E e s'') (fun e' s''=>CX outer H s E e' s'') s'
theorem a8I{sc:Scope}{n:Nat}{x:Str}(h:sc.names.lookup x=some .cell):∃c,(cellsFrom n sc.names []).lookup x=some c:=by
 have q:=Uq sc.names n [] (.inl h)
 exact Jf.mp q
theorem b3M{CX:CXT}{P:Program}{w:World}{K:Qq}{mg:OU}{base:Heap}{N ps:List Str}{qual:Str}{scope:Scope}{f:Addr}{cd:Value}{A:Around}{outer:List Env}{s s1:Shared}{H:Hp}{E:XK}{us:List Value}{vs:List V}
  (S:FnScope N ps scope)(hd:A.handled=none)(e0:Env0 P w K mg base A outer s H)(hl:vs.length=ps.length)(r:q3_ vs us)
  (x:InCallC s s.heap.objs.size (bindL (envOfC qual scope s.heap.objs.size f cd).kindOf (ps.zip us) fun _=>none) (cellsFrom (s.heap.objs.size+1) scope.names []) (bindC (envOfC qual scope s.heap.objs.size f cd).kindOf (ps.zip us) fun _=>none) s1):
  Inv (a2d CX P w K mg base N qual scope f cd A outer s H E) [] (start N vs) H s1:=by
 have hpl:ps.length≤N.length:=by have:=Yq List.length S.pre;rw[Vv]at this;omega
 obtain⟨h1,tk,rfl,hk⟩:=x.done;have noA:∀b:Addr,b∉(a2d CX P w K mg base N qual scope f cd A outer s H E).ex:=fun b z=>absurd (show b∈([]:List Addr)from z) (by simp)
 refine⟨⟨e0.mod,S.kind,rfl,rfl,Qm _,fun y z c h1 h2=>?_,fun y hy=>?_,fun y c _ h=>?_,fun _=>hd,Around.frames_deeper e0.frames,.inr ⟨rfl,rfl⟩,fun b z=>absurd z (noA b),e0.bs,e0.bsz,fun b _ _=>noA b,fun b z=>absurd z (noA b),e0.funs,e0.frf⟩,
  rfl,e0.bare,Un.kept hk,⟨_,x.toInCall.ns,fun i y v h1 h2 h3=>?_⟩,fun y c h=>⟨_,x.cell y c h⟩,e0.hok.fresh (Qm _),fun y c h=>?_,fun p hp=>absurd (show p∈([]:OX)from hp) (by simp),e0.hok.kept hk,?_⟩
 ·exact name_of_addr x.apart (Zu h1) (Zu h2)
 ·have hy:scope.names.lookup y=some .cell∨scope.names.lookup y=some .free:=hy
  rcases hy with hy|hy
  ·exact a8I hy
  ·exact absurd rfl (S.nofree _ (Zu hy))
 ·exact Jg (x.above y c (Zu h))
 ·have hi:i<vs.length:=by
   unfold start at h2
   by_cases hi:i<vs.length
   ·exact hi
   ·rw[List.getElem?_append_right (by simpa using hi)]at h2
    rw[Ut]at h2;split at h2<;>cases h2
  have ha:vs[i]? =some v:=by
   unfold start at h2;rw[Yc (by simpa using hi),Zj]at h2
   cases e:vs[i]? with
   |none=>rw[e]at h2;cases h2
   |some a=>rw[e]at h2;cases h2;rfl
  obtain⟨u,hu,rv⟩:=r.get ha;have hp:ps[i]? =some y:=by
   rw[←S.pre,List.getElem?_take_of_lt (by omega)];exact h1
  have ndP:ps.Nodup:=by rw[←S.pre];exact S.nd.sublist (List.take_sublist _ _)
  refine⟨u,rv,?_⟩
  rcases S.par y (Jp hp)with k|k
  ·exact .inl ⟨k,a8G ndP hp hu k⟩
  ·obtain⟨c,e⟩:=a8I (n:=s.heap.objs.size+1) k
   refine .inr ⟨.inl k,c,e,?_⟩;have q:=x.cell y c e;rw[a8H ndP hp hu (by show scope.names.lookup y≠_;rw[k];decide)]at q
   exact q
 ·exact e0.hok.fresh (Jg (x.above y c (Zu h)))
 ·unfold start
  show _=N.length;rw[Qt,Qk,Ym]
  omega
theorem b3N{CX:CXT}{P:Program}{w:World}{K:Qq}{mg:OU}{base:Heap}{k:Nat}{f:Addr}{name qual:Str}{params:Arguments}{body:List Stmt}{scope:Scope}{dV kV doc pm cdv ct oc:Value}{an od:Option Addr}
  {osl:Array (Option Value)}{N ps:List Str}{sp:Sp}(lk:K.lookup f=some ⟨oc,od,.func (PySem.W.fnOf name qual params body scope dV kV doc pm an cdv ct),osl⟩)(hcd:PySem.W.codeIn K cdv qual=true)(S:FnScope N ps scope)
  (len:∀vs H Q E,sp vs H Q E->vs.length=ps.length)
  (hbody:∀(A:Around) (outer:List Env) (s:Shared) (H:Hp) (vs:List V) (Q:VK) (E:XK),Room k (A.deeper (envOfC qual scope s.heap.objs.size f cdv))->sp vs H Q E->
   ∃t,PSs (a2d CX P w K mg base N qual scope f cdv A outer s H E) body t/\t {nx:=fun _ H'=>Q .non H',rt:=Q} (start N vs) H):
  FnOk P w K mg base CX (k+1) f (PySem.W.fnOf name qual params body scope dV kV doc pm an cdv ct) ps sp:=by
 refine⟨len,fun A outer s H args us vs Q E hr e0 hb r hsp=>?_⟩
 have hl:=len _ _ _ _ hsp
 have KX:K.In s.heap:=e0.mod.kin.keeps fun b o e=>(e0.bs b o e).1
 have lim:s.heap.NoLimit:=e0.mod.nolimit.keeps fun b o e=>(e0.bs b o e).1
 have hkind:∀y∈ps.zip us,scope.names.lookup y.1=some .local∨(scope.names.lookup y.1=some .cell/\((cellsFrom (s.heap.objs.size+1) scope.names []).lookup y.1).isSome=true):=fun⟨n,v⟩ hy=>by
  rcases S.par n (Xh hy).1 with q|q
  ·exact .inl q
  ·exact .inr ⟨q,Uq _ _ _ (.inl q)⟩
 refine codeAny_call_function hr.depth (KX _ _ lk) rfl S.co S.gen rfl (PySem.W.codeRec_of KX hcd) (hb _ _ _ _ ?_);refine wpAny_newFunctionEnv_cells S.kind hkind fun env he s1 x=>?_
 subst he;refine⟨lim.keeps x.toInCall.keep,codeAny_func ?_⟩;obtain⟨t,ht,hq⟩:=hbody A outer s H vs Q E (hr.deeper _) hsp;have I:Inv (a2d CX P w K mg base N qual scope f cdv A outer s H E) [] (start N vs) H s1:=b3M S hr.hd e0 hl r x;refine Zq (ht [] s1 (start N vs) H _ I hq) (fun fl s' hs=>?_) fun e s' hs=>hs
 have fin:∀{σ':St}{H':Hp}{v:V}{u:Value},Inv (a2d CX P w K mg base N qual scope f cdv A outer s H E) [] σ' H' s'->q6_ v u->Q v H'->CE outer P w H s Q u s':=
  fun{σ' H' v u} J rv q=>⟨v,H',J.os,J.bare,J.base,J.hok,rv,q⟩
 cases fl with
 |ret u=>
  obtain⟨v,σ',H',J,rv,q⟩:=hs;exact fin J rv q
 |next=>
  obtain⟨σ',H',J,q⟩:=hs;exact fin (v:=V.non) (u:=Value.none) J rfl q
 |brk=>
  obtain⟨_,_,_,q⟩:=hs;exact False.elim q
 |cont=>
  obtain⟨_,_,_,q⟩:=hs;exact False.elim q
section
variable{X:Cx}{x:Str}{p pos:Pos}{e:Expr}{es:List Expr}{t:TA}{id T:String}{r:List V->Hp->VK->Prop}
def tCB(r:List V->Hp->VK->Prop)(t:TA):TE:=fun σ H Q=>t σ H fun vs H1=>r vs H1 Q
theorem a5S(hc:a0d X (.builtin id) r)(hg:Gl X x)(hm:X.mg x=none)(hv:bootBuiltins x=some (.builtin id))(ha:PA X (e::es) t)(hn:x≠"__name__":=by decide)(hdb:(x==("__debug__":Str))=false:=by decide)
  (he:starEach (e::es) X.env=(false,eval e X.env)::starEach es X.env:=by rfl)(hpl:(backTo pos (starEach es X.env)).any (·.1)=false:=by rfl):PE X (.Call (.Name x p) (e::es) [] pos) (tCB r t):=by
 intro pins s σ H Q I h;refine Ul (a2b I hg hm hv ?_ hn hdb);exact PyProof.Rows.callWith_builtin1 (thn (ha pos pins s σ H _ I h) fun us s1 ⟨vs,H1,I1,r1,q1⟩=>hc pins s1 σ H1 vs us Q I1 r1 q1) he hpl
theorem b3O(hc:a0d X (.type T) r)(hg:Gl X x)(hm:X.mg x=none)(hv:bootBuiltins x=some (.type T))(ha:PA X (e::es) t)(hn:x≠"__name__":=by decide)(hdb:(x==("__debug__":Str))=false:=by decide)
  (he:starEach (e::es) X.env=(false,eval e X.env)::starEach es X.env:=by rfl)(hpl:(backTo pos (starEach es X.env)).any (·.1)=false:=by rfl):PE X (.Call (.Name x p) (e::es) [] pos) (tCB r t):=by
 intro pins s σ H Q I h;refine Ul (a2b I hg hm hv ?_ hn hdb);exact Up (thn (ha pos pins s σ H _ I h) fun us s1 ⟨vs,H1,I1,r1,q1⟩=>hc pins s1 σ H1 vs us Q I1 r1 q1) he hpl
end
end L2
namespace HT
open PySem PyProof.Rows
def lexLt:List Int->List Int->Bool
 |[],[]=>false
 |[],_::_=>true
 |_::_,[]=>false
 |x::xs,y::ys=>if x=y then lexLt xs ys else decide (x<y)
theorem lexLt_cons(x y:Int)(xs ys:List Int):lexLt (x::xs) (y::ys)=if x=y then lexLt xs ys else decide (x<y):=rfl
theorem lexLt_nil_nil:lexLt [] []=false:=rfl
theorem lexLt_nil_cons(y:Int)(ys:List Int):lexLt [] (y::ys)=true:=rfl
theorem lexLt_cons_nil(x:Int)(xs:List Int):lexLt (x::xs) []=false:=rfl
theorem eqAt_int(A:Around)(s:Shared)(a:Int)(t:Tok)(c:Int)(u:Tok):∃e,SeqAt.EqAt A s (.int a t) (.int c u) e/\(e=true↔a=c):=
 ⟨(a==c),SeqAt.EqAt.int_int a t c u,by simp⟩
theorem rcLt_int(A:Around)(s:Shared)(a:Int)(t:Tok)(c:Int)(u:Tok)(prog:Program)(w:World)(E:OE)(Q:OE)(h:Q (.bool (decide (a<c))) s):
  wpAny (model prog w) A (richCompare .Lt (.int a t) (.int c u)) Q E s:=
 (PyProof.Rows.lt_int h:wpAny (model prog w) A (compareOp .Lt (.int a t) (.int c u)) Q E s)
section
open PySem.SeqAt
open PySem.AutoSeq1 (wpAny_loadPart')
open PySem.MeetsSeq PySem.MeetsSeq2 PySem.MeetsSeq3
theorem tuple_lt_ints(l b:Addr)(items items2:Array Value)(n n2:Nat)(dd dd2:Option Addr)(sl sl2:Array (Option Value))(ns ms:List Int)(hi:IntsAre items.toList ns)(hj:IntsAre items2.toList ms):
  Meets (Builtin.«tuple.__lt__» ⟨[.ref l,.ref b],[]⟩)
   (fun _ R s=>s.heap.get? l=some {cls:=.type "tuple",dict:=dd,data:=.seq items n,slots:=sl}/\s.heap.get? b=some {cls:=.type "tuple",dict:=dd2,data:=.seq items2 n2,slots:=sl2}/\
    R (.ok (.ret (.bool (lexLt ns ms)))) s):=
 .of_wp fun prog w A R s h=>by
  obtain⟨hp,g,d,tk,os⟩:=s;obtain⟨hl,hb,h⟩:=h;have f2:=AutoSeq1.sub_tuple_tuple;have z1:items.size=ns.length:=by rw[←hi.length];simp
  have z2:items2.size=ms.length:=by rw[←hj.length];simp
  wp_walk using Zc hl,Zc hb,wpAny_forIn_list _ (fun rest b s'=>b.1=none/\s'=⟨hp,g,d,tk,os⟩/\∃(vs ws:List Value) (ns' ms':List Int),rest=vs.zip ws/\
   IntsAre vs ns'/\IntsAre ws ms'/\ns'.length+items2.size=ms'.length+items.size/\R (.ok (.ret (.bool (lexLt ns' ms')))) ⟨hp,g,d,tk,os⟩) _
  case turn=>
   rintro⟨y,x⟩ rest b s' ⟨hb',rfl,vs,ws,ns',ms',hz,hvi,hwi,hlen,hR⟩;cases hvi with
   |nil=>rw[List.zip_nil_left]at hz;cases hz
   |cons a t hvi'=>
    cases hwi with
    |nil=>rw[List.zip_nil_right]at hz;cases hz
    |cons c u hwi'=>
     rw[Jr]at hz;injection hz with hyx hrest
     injection hyx with hy hx
     subst hy hx;rw[lexLt_cons]at hR;simp only[Zp]at hlen;obtain⟨e,he,hiff⟩:=eqAt_int A.in1 ⟨hp,g,d,tk,os⟩ a t c u;refine Qz (he prog w _ _ ?_);cases e with
     |true=>
      rw[Qc (hiff.mp rfl)]at hR
      wp_walk
      exact⟨rfl,rfl,_,_,_,_,hrest,hvi',hwi',by omega,hR⟩
     |false=>
      rw[Qs (fun q=>absurd (hiff.mpr q) Zg)]at hR
      have hri:=rcLt_int A.in1 ⟨hp,g,d,tk,os⟩ a t c u prog w
      wp_walk using hri
      exact⟨_,rfl,by simpa using hR⟩
  case fin=>
   rintro⟨b1,b2⟩ s' ⟨hb',rfl,vs,ws,ns',ms',hz,hvi,hwi,hlen,hR⟩;simp only at hb';subst hb';have hv:lexLt ns' ms'=decide (items.size<items2.size):=by
    cases hvi with
    |nil=>
     cases hwi with
     |nil=>
      simp only[Jj]at hlen;rw[lexLt_nil_nil];exact(Qr (by omega)).symm
     |cons c u hw=>
      simp only[Jj,Zp]at hlen;rw[lexLt_nil_cons];exact(Zs (by omega)).symm
    |cons a t hv=>
     cases hwi with
     |nil=>
      simp only[Jj,Zp]at hlen;rw[lexLt_cons_nil];exact(Qr (by omega)).symm
     |cons c u hw=>
      rw[Jr]at hz;cases hz
   rw[hv]at hR
   wp_walk
   exact⟨_,rfl,by simpa [Builtin.Tuple.tupleCompareSizes]using hR⟩
  case h=>
   exact⟨rfl,rfl,items.toList,items2.toList,ns,ms,rfl,hi,hj,by omega,h⟩
end
section
variable{prog:Program}{w:World}{A:Around}{E:OE}{s:Shared}
theorem lt_tupInts{l b:Addr}{items items2:Array Value}{ns ms:List Int}{Q:OE}(hl:IsTup s.heap l items)(hb:IsTup s.heap b items2)(hi:IntsAre items.toList ns)(hj:IntsAre items2.toList ms)
  (hu:A.units<cLine)(h:Q (.bool (lexLt ns ms)) s):wpAny (model prog w) A (compareOp .Lt (.ref l) (.ref b)) Q E s:=by
 obtain⟨⟨cls,dd,data,sl⟩,ho,hc,n,hd⟩:=id hl;obtain⟨⟨cls2,dd2,data2,sl2⟩,ho2,hc2,n2,hd2⟩:=id hb;simp only at hc hd hc2 hd2;subst hc hd hc2 hd2;exact richCompare_meets_room (op:=.Lt) ⟨_,ho,rfl⟩ ⟨_,ho2,rfl⟩ PySem.F.slot_tuple_lt PySem.F.entry_tuple_lt (PySem.F.args_tuple_lt_2 _ _) (tuple_lt_ints l b items items2 n n2 dd dd2 sl sl2 ns ms hi hj)
  ⟨ho,ho2,show Value.bool (lexLt ns ms)≠Value.notImplemented/\Q (.bool (lexLt ns ms)) s from⟨(fun x=>nomatch x),h⟩⟩ hu
def sIx(n d:Nat):Option Int->Nat
 |none=>d
 |some v=>if v<0 then(v+(n:Int)).toNat else min v.toNat n
theorem sIx_nat(n d k:Nat):sIx n d (some (k:Int))=min k n:=by
 show(if(k:Int)<0 then((k:Int)+(n:Int)).toNat else min (k:Int).toNat n)=min k n
 rw[Qs (by omega),Jw]
theorem sIx_le(n d:Nat)(hd:d≤n)(o:Option Int):sIx n d o≤n:=by
 cases o with
 |none=>exact hd
 |some v=>
  show(if v<0 then(v+(n:Int)).toNat else min v.toNat n)≤n
  by_cases hv:v<0
  ·rw[Qc hv];omega
  ·rw[Qs hv];exact Nat.min_le_right _ _
theorem clip_eq(v:Int)(n d:Nat):(if v<0 then max (v+(n:Int)) 0 else min v (n:Int))=((sIx n d (some v):Nat):Int):=by
 show(if v<0 then max (v+(n:Int)) 0 else min v (n:Int))=(((if v<0 then(v+(n:Int)).toNat else min v.toNat n):Nat):Int)
 by_cases hv:v<0
 ·simp only[Qc hv];omega
 ·simp only[Qs hv];omega
theorem adjust_gen(lo hi:Option Int)(n:Nat):Builtin.Slice.sliceAdjust lo hi 1 (n:Int)=(((sIx n 0 lo:Nat):Int),((sIx n n hi:Nat):Int)):=by
 have h1:¬ ((1:Int)<0):=by omega
 unfold Builtin.Slice.sliceAdjust;simp only[h1,Yw];refine Jb ?_ ?_
 ·cases lo with
  |none=>rfl
  |some v=>exact clip_eq v n 0
 ·cases hi with
  |none=>rfl
  |some v=>exact clip_eq v n n
theorem places_gen(i j:Nat):Builtin.Slice.slicePlaces (i:Int) (j:Int) 1=j-i:=by
 unfold Builtin.Slice.slicePlaces;have h1:(1:Int)>0:=by omega
 simp only[h1,Zh,Int.ediv_one];split<;>omega
theorem slicePart_{v:Value}{o:Option Int}{Q:Option Int->Shared->Prop}(p:IsPart v o)(h:Q o s):wpAny (model prog w) A (Builtin.Slice.slicePartIndex v) Q E s:=by
 cases p with
 |none=>exact slicePart_none h
 |int i t=>exact slicePart_int h
theorem sliceApplied_gen{sl:Addr}{vl vu:Value}{lo hi:Option Int}{n:Nat}{Q:Int×Int×Nat->Shared->Prop}(hs:s.heap.IsSliceOf sl vl vu .none)(pl:IsPart vl lo)(pu:IsPart vu hi)
  (h:Q (((sIx n 0 lo:Nat):Int),1,sIx n n hi-sIx n 0 lo) s):wpAny (model prog w) A (Builtin.Slice.sliceApplied (.ref sl) (pure (n:Int))) Q E s:=by
 obtain⟨os,hos,hcs,hds⟩:=id hs;unfold Builtin.Slice.sliceApplied Builtin.Slice.sliceFields;refine Qz (Qz (Ze hos hds (x:=vl) rfl (Qz (Ze hos hds (x:=vu) rfl (Qz (Ze hos hds (x:=.none) rfl (Qv ?_)))))));refine Qz (slicePart_none ?_);show wpAny _ _ (if((1:Int)==0)=true then _ else _) _ _ s
 rw[Qs (by decide)]
 refine Qz (slicePart_ pl (Qz (slicePart_ pu (Qz (Qv ?_)))));show wpAny _ _ (match Builtin.Slice.sliceAdjust lo hi 1 (n:Int)with|(lo,hi)=>pure (lo,(1:Int),Builtin.Slice.slicePlaces lo hi 1)) _ _ s
 rw[adjust_gen lo hi n];show wpAny _ _ (pure (((sIx n 0 lo:Nat):Int),(1:Int),Builtin.Slice.slicePlaces ((sIx n 0 lo:Nat):Int) ((sIx n n hi:Nat):Int) 1)) _ _ s;rw[places_gen];exact Qv h
theorem pick_gen(xs:Array Value)(i k:Nat):((List.range k).filterMap fun(m:Nat)=>xs[((i:Int)+(m:Int) * 1).toNat]?).toArray=((xs.toList.drop i).take k).toArray:=by
 have e:(fun(m:Nat)=>xs[((i:Int)+(m:Int) * 1).toNat]?)=fun m=>xs[i+m]?:=by
  funext m
  have:((i:Int)+(m:Int) * 1).toNat=i+m:=by omega
  rw[this]
 rw[e];have:=pick_run xs i k;rw[List.filterMap_map]at this;have e2:((fun x=>xs[x]?)∘fun x=>i+x)=fun m=>xs[i+m]?:=rfl
 rw[e2]at this;rw[this]
theorem getItem_tuple_cut{t sl:Addr}{items:Array Value}{vl vu:Value}{lo hi:Option Int}{Q:OE}(ht:IsTup s.heap t items)(hs:s.heap.IsSliceOf sl vl vu .none)(pl:IsPart vl lo)(pu:IsPart vu hi)
  (hw:¬ (sIx items.size 0 lo=0/\sIx items.size items.size hi=items.size))
  (h:Q (.ref s.heap.objs.size) {s with heap:=s.heap.push {cls:=.type "tuple",data:=.seq ((items.toList.drop (sIx items.size 0 lo)).take (sIx items.size items.size hi-sIx items.size 0 lo)).toArray}})
  (hsz:items.size≤sizeLine):wpAny (model prog w) A (getItem (.ref t) (.ref sl)) Q E s:=by
 have htake:sizeOk (.seq ((items.toList.drop (sIx items.size 0 lo)).take (sIx items.size items.size hi-sIx items.size 0 lo)).toArray):=by
  show((items.toList.drop (sIx items.size 0 lo)).take (sIx items.size items.size hi-sIx items.size 0 lo)).toArray.size≤sizeLine;rw[Qp,Vv,List.length_drop,Uf]
  omega
 have hj:sIx items.size items.size hi≤items.size:=sIx_le _ _ (Qm _) hi
 obtain⟨os,hos,hcs,hds⟩:=id hs;have hTs:s.TypeIs (.ref sl) "slice":=⟨os,hos,hcs⟩;unfold getItem
 try with_reducible refine Jv ?_
 first|refine Qz (Qv ?_)|skip
 refine Qz (wpAny_sequenceKey ht.typeIs (by decide) ?_)
 refine Qz (Yx (name:=Str.ofString "__getitem__") ht.typeIs Zm
  (Jh Zm ht.typeIs entry_tuple_getitem ?_ (args_tuple_getitem _ _)))
 show wpAny _ _ (Builtin.Tuple.tupleItemsOf (.ref t)>>=_) _ _ s;refine Qz (tupleItemsOf_ ht ?_);refine Qz (wpAny_typeOf hTs ?_);rw[Qc (by decide)]
 refine Qz (sliceApplied_gen hs pl pu ?_);have hno:¬ ((((sIx items.size 0 lo:Nat):Int)==0&&(1:Int)==1&&(sIx items.size items.size hi-sIx items.size 0 lo)==items.size)=true):=by
  intro q;rw[Qw,Qw]at q;have q1:((sIx items.size 0 lo:Nat):Int)=0:=Vp q.1.1;have q2:sIx items.size items.size hi-sIx items.size 0 lo=items.size:=Vp q.2;exact hw ⟨by omega,by omega⟩
 show wpAny _ _ (if(((sIx items.size 0 lo:Nat):Int)==0&&(1:Int)==1&&(sIx items.size items.size hi-sIx items.size 0 lo)==items.size)=true then _ else _) _ _ s
 rw[Qs hno,pick_gen]
 first
  |exact Qz (m:=Builtin.Tuple.tupleExact _) (Yk (Qv ⟨_,rfl,Qv h⟩) htake)
  |exact Qz (m:=Builtin.Tuple.tupleExact _) (Yk (Qz (Qv (Qv ⟨_,rfl,Qv h⟩))) htake)
  |exact Qz (Qz (m:=Builtin.Tuple.tupleExact _) (Yk (Qv (Qv ⟨_,rfl,Qv h⟩)) htake))
  |exact Qz (Qz (m:=Builtin.Tuple.tupleExact _) (Yk (Qv ⟨_,rfl,Qv h⟩) htake))
end
end HT
namespace L2
open PySem PySem.Spec PyProof.Rows
abbrev TO:=St->Hp->(Option Int->Hp->Prop)->Prop
def PO(X:Cx)(e:Option Expr)(t:TO):Prop:=
 ∀(pins:OX) (s:Shared) (σ:St) (H:Hp) (Q:Option Int->Hp->Prop),Inv X pins σ H s->t σ H Q->
  wpAny (model X.prog X.w) X.A (evalPart e X.env) (fun u s'=>∃o H',Inv X pins σ H' s'/\IsPart u o/\Q o H') X.xe s
def b3P:TO:=fun _ H Q=>Q none H
def b3Q(t:TE):TO:=fun σ H Q=>t σ H fun x H1=>∃i,x=.int i/\Q (some i) H1
theorem a2e{ns:List Int}:∀{us:List Value},q3_ (ns.map V.int) us->IntsAre us ns:=by
 induction ns with
 |nil=>intro us r;rw[Vf]at r;cases r;exact .nil
 |cons n ns ih=>
  intro us r;rw[Qh]at r;cases r with
  |cons r1 r2=>
   obtain⟨t,e⟩:=r1;subst e;exact .cons n t (ih r2)
section
variable{X:Cx}{e:Expr}{te:TE}{lo hi:Option Expr}{tl th:TO}{pos p2:Pos}
theorem b3R:PO X none b3P:=by
 intro pins s σ H Q I h;rw[evalPart_none];exact Qv ⟨none,H,I,.none,h⟩
theorem b3S(h:PE X e te):PO X (some e) (b3Q te):=by
 intro pins s σ H Q I hw;rw[evalPart_some];refine thn (h pins s σ H _ I hw) fun u s1 ⟨x,H1,I1,r1,q1⟩=>?_
 obtain⟨i,rfl,q⟩:=q1;obtain⟨t,rfl⟩:=r1;exact⟨some i,H1,I1,.int i t,q⟩
def SlR(X:Cx)(r:V->Option Int->Option Int->Hp->VK->Prop):Prop:=
 ∀(pins:OX) (s:Shared) (σ:St) (H:Hp) (x:V) (v vl vu:Value) (lo hi:Option Int) (sl:Addr) (Q:VK),Inv X pins σ H s->q6_ x v->s.heap.IsSliceOf sl vl vu .none->IsPart vl lo->IsPart vu hi->r x lo hi H Q->
  ∃T id,typeLookup (.type T) "__getitem__"=pure (some (.builtin id))/\s.TypeIs v T/\wpAny (model X.prog X.w) X.A (getItem v (.ref sl)) (EP X pins σ Q) X.xe s
def tSl(r:V->Option Int->Option Int->Hp->VK->Prop)(te:TE)(tl th:TO):TE:=fun σ H Q=>te σ H fun x H1=>tl σ H1 fun l H2=>th σ H2 fun u H3=>r x l u H3 Q
theorem b3T{r:V->Option Int->Option Int->Hp->VK->Prop}(hr:SlR X r)(he:PE X e te)(hl:PO X lo tl)(hu:PO X hi th):PE X (.Subscript e (.Slice lo hi none p2) pos) (tSl r te tl th):=by
 intro pins s σ H Q I h;refine Subscript_ (thn (he pins s σ H _ I h) fun v s1 ⟨x,H1,I1,r1,q1⟩=>?_)
 refine wpAny_Slice (thn (hl pins s1 σ H1 _ I1 q1) fun vl s2 ⟨l,H2,I2,pl,q2⟩=>thn (hu pins s2 σ H2 _ I2 q2) fun vu s3 ⟨u,H3,I3,pu,q3⟩=>?_)
 rw[evalPart_none];refine Qv ?_
 have I4:Inv X pins σ H3 {s3 with heap:=s3.heap.push {cls:=.type "slice",data:=.fields #[vl,vu,.none]}}:=I3.kept (t':=s3.toks) fun b ob q=>Qx _ q
 obtain⟨T,id,hT,ht,hg⟩:=hr pins {s3 with heap:=s3.heap.push {cls:=.type "slice",data:=.fields #[vl,vu,.none]}} σ H3 x v vl vu l u s3.heap.objs.size Q I4 r1 (Heap.IsSliceOf.new ..) pl pu q3
 show wpAny (model X.prog X.w) X.A (subscriptTail e (.Slice lo hi none p2) v (.ref s3.heap.objs.size)) (EP X pins σ Q) X.xe {s3 with heap:=s3.heap.push {cls:=.type "slice",data:=.fields #[vl,vu,.none]}}
 exact tail_any (ops:=[.ref s3.heap.objs.size,v]) ht hT hg (by with_unfolding_all rfl)
def a2f(xs:List V)(lo hi:Option Int):List V:=(xs.drop (HT.sIx xs.length 0 lo)).take (HT.sIx xs.length xs.length hi-HT.sIx xs.length 0 lo)
theorem b3U(xs:List V)(lo hi:Option Int):(a2f xs lo hi).length≤xs.length:=by
 unfold a2f;rw[Vv,List.length_drop]
 omega
def b3V(K:Qq):V->Option Int->Option Int->Hp->VK->Prop:=fun x lo hi H Q=>∃a xs,x=.ref a/\SqT K H a xs/\
 ¬ (HT.sIx xs.length 0 lo=0/\HT.sIx xs.length xs.length hi=xs.length)/\∀p,H p=none->Q (.ref p) (upd H p (.tup (a2f xs lo hi)))
theorem a8J:SlR X (b3V X.K):=by
 intro pins s σ H x v vl vu lo hi sl Q I rx hs pl pu h;obtain⟨a,xs,rfl,hx,hw,q⟩:=h;cases rx;obtain⟨its,r,ht,hz⟩:=I.tuple hx;have hlen:its.toArray.size=xs.length:=by rw[Qp];exact r.length.symm
 refine⟨"tuple",_,Zm.lookup,ht.typeIs,?_⟩;refine HT.getItem_tuple_cut ht hs pl pu (by rw[hlen];exact hw) ?_ (by rw[hlen];exact hz)
 rw[hlen];refine⟨.ref s.heap.objs.size,_,I.laid (t':=s.toks) (o:=.tup (a2f xs lo hi)) (fun b ob q=>Qx _ q) (Qm _) ?_,rfl,q _ (I.hok.fresh (Qm _))⟩
 exact⟨Zo (b3U xs lo hi) hz,_,(r.drop (HT.sIx xs.length 0 lo)).take (HT.sIx xs.length xs.length hi-HT.sIx xs.length 0 lo),a0z.new _ _⟩
def a4s(K:Qq):R2:=fun x y H Q=>∃a b ns ms,x=.ref a/\y=.ref b/\SqT K H a (ns.map V.int)/\SqT K H b (ms.map V.int)/\Q (.bl (HT.lexLt ns ms)) H
theorem b3W(hu:X.A.units<cLine):OpR X (compareOp .Lt) (a4s X.K):=by
 intro pins s σ H x y v u Q I rx ry h;obtain⟨a,b,ns,ms,rfl,rfl,ha,hb,q⟩:=h;cases rx;cases ry;obtain⟨its,r1,p1,_⟩:=I.tuple ha;obtain⟨its2,r2,p2,_⟩:=I.tuple hb;have i1:IntsAre its.toArray.toList ns:=a2e r1;have i2:IntsAre its2.toArray.toList ms:=a2e r2;exact HT.lt_tupInts p1 p2 i1 i2 hu ⟨.bl (HT.lexLt ns ms),H,I,rfl,q⟩
theorem q3_.nil_iff{xs:List V}{us:List Value}(r:q3_ xs us):us=[]↔xs=[]:=by
 cases r with
 |nil=>simp
 |cons _ _=>simp
end
def ixN(n:Nat)(i:Int):Option Nat:=if 0≤i then(if i<n then some i.toNat else none)else if-(n:Int)≤i then some (i+n).toNat else none
def atI{α:Type}(xs:List α)(i:Int):Option α:=(ixN xs.length i).bind fun j=>xs[j]?
theorem a8K{n:Nat}{i:Int}{j:Nat}(h:ixN n i=some j):seqIndex? i n=some j/\j<n/\ -(n:Int)≤i/\i<n:=by
 unfold ixN at h
 by_cases h0:0≤i
 ·rw[Qc h0]at h
  by_cases h1:i<n
  ·rw[Qc h1]at h
   have e:i.toNat=j:=Za h
   exact⟨by rw[seqIndex_of h0 h1,e],by omega,by omega,h1⟩
  ·rw[Qs h1]at h;cases h
 ·rw[Qs h0]at h
  by_cases h1: -(n:Int)≤i
  ·rw[Qc h1]at h
   have e:(i+n).toNat=j:=Za h
   exact⟨by rw[seqIndex_neg (by omega) h1,e],by omega,h1,by omega⟩
  ·rw[Qs h1]at h;cases h
theorem a5T{α:Type}{xs:List α}{i:Int}{v:α}(h:atI xs i=some v):∃j,seqIndex? i xs.length=some j/\xs[j]? =some v/\j<xs.length/\ -(xs.length:Int)≤i/\i<xs.length:=by
 unfold atI at h;cases e:ixN xs.length i with
 |none=>rw[e]at h;cases h
 |some j=>
  rw[e]at h;obtain⟨h1,h2,h3,h4⟩:=a8K e;exact⟨j,h1,h,h2,h3,h4⟩
def a3v(b:Expr):Prop:=∀o i,subscripted b false o i=operate [o,i] (getItem o i)
def IxR(X:Cx)(r:R2):Prop:=
 ∀(value slice:Expr) (pins:OX) (s:Shared) (σ:St) (H:Hp) (x y:V) (v u:Value) (Q:VK),Inv X pins σ H s->q6_ x v->q6_ y u->r x y H Q->
  subscripted slice false v u=operate [v,u] (getItem v u)->wpAny (model X.prog X.w) X.A (subscriptTail value slice v u) (EP X pins σ Q) X.xe s
def MtR(X:Cx)(id:String)(r:V->List V->Hp->VK->Prop):Prop:=
 ∀(pins:OX) (s:Shared) (σ:St) (H:Hp) (x:V) (xs:List V) (v:Value) (us:List Value) (Q:VK),Inv X pins σ H s->q6_ x v->q3_ xs us->r x xs H Q->
  wpAny (model X.prog X.w) X.A (call (.builtin id) (v::us)) (EP X pins σ Q) X.xe s
section
variable{X:Cx}{a b:Expr}{ta tb:TE}{pos:Pos}
theorem IxR.or{r r':R2}(h:IxR X r)(h':IxR X r'):IxR X (fun x y H Q=>r x y H Q∨r' x y H Q):=by
 intro value slice pins s σ H x y v u Q I rx ry q hs
 rcases q with q|q
 ·exact h value slice pins s σ H x y v u Q I rx ry q hs
 ·exact h' value slice pins s σ H x y v u Q I rx ry q hs
theorem a8L{r:R2}(hr:IxR X r)(ha:PE X a ta)(hb:PE X b tb)(hs:a3v b):PE X (.Subscript a b pos) (tOp r ta tb):=by
 intro pins s σ H Q I h;exact Subscript_ (a5M ha hb I h fun v u s2 x y H2 I2 rx ry q=>hr a b pins s2 σ H2 x y v u Q I2 rx ry q (hs _ _))
def a8M(K:Qq):R2:=fun x y H Q=>∃p xs i v,x=.ref p/\y=.int i/\SqL K H p xs/\atI xs i=some v/\Q v H
def a8N(K:Qq):R2:=fun x y H Q=>∃p xs i v,x=.ref p/\y=.int i/\SqT K H p xs/\atI xs i=some v/\Q v H
def a8O:R2:=fun x y H Q=>∃z i c,x=.str z/\y=.int i/\z.length≤sizeLine/\atI z.cps.toList i=some c/\Q (.str ⟨#[c]⟩) H
theorem a8P:IxR X (a8M X.K):=by
 intro value slice pins s σ H x y v u Q I rx ry h hs;obtain⟨p,xs,i,z,rfl,rfl,hq,he,q⟩:=h;cases rx;obtain⟨t,rfl⟩:=ry;obtain⟨its,r,pl,hz⟩:=I.list hq;obtain⟨j,h1,h2,h3,h4,h5⟩:=a5T he;obtain⟨w,ew,rw'⟩:=r.get h2;have hl:=r.length;have hn:=a3u;have fin:EP X pins σ Q w s:=⟨z,H,I,rw',q⟩
 by_cases h0:0≤i
 ·have hj:i.toNat=j:=by
   rw[seqIndex_of h0 h5]at h1;exact Za h1
  exact item_listR pl.isList h0 (by omega) (by rw[hj];simpa using ew) fin hs
 ·have hj:(i+(its.toArray.size:Int)).toNat=j:=by
   rw[seqIndex_neg (by omega) h4]at h1
   rw[Qp,←hl];exact Za h1
  exact subscriptTail_builtinR (x:=w) pl.isList.typeIs slot_list_getitem.lookup
   (wpAny_getItem_list_neg (Q:=fun r s'=>r=w/\EP X pins σ Q r s') pl.isList (by omega) (by rw[Qp]<;>omega) (by omega) (by rw[hj];simpa using ew) ⟨rfl,fin⟩) hs
theorem b3X:IxR X (a8N X.K):=by
 intro value slice pins s σ H x y v u Q I rx ry h hs;obtain⟨p,xs,i,z,rfl,rfl,hq,he,q⟩:=h;cases rx;obtain⟨t,rfl⟩:=ry;obtain⟨its,r,pl,hz⟩:=I.tuple hq;obtain⟨j,h1,h2,h3,h4,h5⟩:=a5T he;obtain⟨w,ew,rw'⟩:=r.get h2;have hl:=r.length;have hn:=a3u;have fin:EP X pins σ Q w s:=⟨z,H,I,rw',q⟩;exact subscriptTail_builtinR (x:=w) pl.typeIs slot_tuple_getitem.lookup
  (getItem_tuple (j:=j) (Q:=fun r s'=>r=w/\EP X pins σ Q r s') pl (by omega) (by omega) (by rw[Qp,←hl];exact h1) (by simpa using ew) ⟨rfl,fin⟩) hs
theorem b3Y:IxR X a8O:=by
 intro value slice pins s σ H x y v u Q I rx ry h hs;obtain⟨z,i,c,rfl,rfl,hz,he,q⟩:=h;obtain⟨t,rfl⟩:=rx;obtain⟨t',rfl⟩:=ry;obtain⟨j,h1,h2,h3,h4,h5⟩:=a5T he;have hl:z.cps.toList.length=z.length:=by simp[Str.length]
 rw[hl]at h1 h4 h5;have hn:=a3u;exact tail_any (typeIs_str s z t) slot_str_getitem.lookup (getItem_str (c:=c) (by
  have e1:decide (i< -(2^63:Int))=false:=Qr (by omega)
  have e2:decide (i ≥ 2^63)=false:=Qr (by omega)
  rw[e1,e2,Bool.or_false]) (by rw[h1];simpa using h2) ⟨.str ⟨#[c]⟩,H,I.tok _,⟨_,rfl⟩,q⟩) hs
def rIx(K:Qq):R2:=fun x y H Q=>a8M K x y H Q∨a8N K x y H Q∨a8O x y H Q
theorem b3Z:IxR X (rIx X.K):=a8P.or (b3X.or b3Y)
theorem b4a(its:List Value)(n j:Nat)(u:Value):Obj.mapSeq (·.setIfInBounds j u) {cls:=.type "list",data:=.seq its.toArray n}={cls:=.type "list",data:=.seq (its.set j u).toArray n}:=by
 simp[Obj.mapSeq]
theorem Inv.lst{pins:OX}{σ:St}{H:Hp}{s:Shared}{p:Addr}{xs:List V}(I:Inv X pins σ H s)(h:H p=some (.lst xs)):
  ∃(its:List Value) (n:Nat),q3_ xs its/\s.heap.get? p=some {cls:=.type "list",data:=.seq its.toArray n}/\xs.length≤sizeLine:=by
 obtain⟨z,its,n,r,e⟩:=I.hok p _ h;exact⟨its,n,r,e,z⟩
theorem Inv.lstUpd{pins:OX}{σ:St}{H:Hp}{s:Shared}{p:Addr}{xs ys:List V}{its its':List Value}{n n':Nat}{f:Obj->Obj}(I:Inv X pins σ H s)(h:H p=some (.lst xs))
  (ho:s.heap.get? p=some {cls:=.type "list",data:=.seq its.toArray n})(hf:f {cls:=.type "list",data:=.seq its.toArray n}={cls:=.type "list",data:=.seq its'.toArray n'})(r:q3_ ys its')(hz:ys.length≤sizeLine)(t:Nat):
  Inv X pins σ (upd H p (.lst ys)) {s with heap:=s.heap.update p f,toks:=t}:=by
 have e:(s.heap.update p f).get? p=some {cls:=.type "list",data:=.seq its'.toArray n'}:=by
  rw[Heap.get?_update_self f ho (by rw[hf]<;>rfl),hf]
 refine I.write (x:=p) (e:=p) (by rw[h];trivial) (.inl rfl) (fun b u hb q=>(Heap.get?_update_other _ _ (Zn hb)).trans q) ⟨_,e⟩ ?_
 exact⟨hz,its',n',r,e⟩
def b4b:V->V->V->Hp->(Hp->Prop)->Prop:=fun o i v H Q=>∃p xs k j,o=.ref p/\i=.int k/\H p=some (.lst xs)/\ixN xs.length k=some j/\Q (upd H p (.lst (xs.set j v)))
theorem b4c:a5H X b4b:=by
 intro pins s σ H o i v ov iv u Q I ro ri rv h;obtain⟨p,xs,k,j,rfl,rfl,hp,hj,q⟩:=h;cases ro;obtain⟨t,rfl⟩:=ri;obtain⟨its,n,r,ho,hz⟩:=I.lst hp;obtain⟨h1,h2,h3,h4⟩:=a8K hj;have hl:=r.length;have hn:=a3u;have I':Inv X pins σ (upd H p (.lst (xs.set j v))) {s with heap:=s.heap.update p (Obj.mapSeq (·.setIfInBounds j u))}:=
  I.lstUpd hp ho (b4a its n j u) (r.set rv j) (by rw[Zl];exact hz) s.toks
 by_cases h0:0≤k
 ·have hk:k.toNat=j:=by
   rw[seqIndex_of h0 h4]at h1;exact Za h1
  exact PySem.W.ki_setAt ho h0 (by omega) (by rw[Qp,←hl];exact h4) (by rw[hk];exact⟨_,I',q⟩)
 ·have hk:(k+(its.toArray.size:Int)).toNat=j:=by
   rw[seqIndex_neg (by omega) h3]at h1
   rw[Qp,←hl];exact Za h1
  exact PySem.W.ki_setBack ho (by omega) (by rw[Qp,←hl];exact h3) (by omega) (by rw[hk];exact⟨_,I',q⟩)
def a0Z:V->Bool
 |.non=>true
 |.bl _=>true
 |.int _=>true
 |.str _=>true
 |_=>false
def eqV:V->V->Bool
 |.non,.non=>true
 |.bl a,.bl b=>a==b
 |.bl a,.int b=>(if a then 1 else 0)==b
 |.int a,.bl b=>a==(if b then 1 else 0)
 |.int a,.int b=>a==b
 |.str a,.str b=>a==b
 |_,_=>false
theorem b4d{A:Around}{s:Shared}{y x:V}{u v:Value}(ry:q6_ y u)(rx:q6_ x v)(fy:a0Z y=true)(fx:a0Z x=true):SeqAt.EqAt A s u v (eqV y x):=by
 cases y with
 |non=>
  cases ry;cases x with
  |non=>cases rx;exact SeqAt.EqAt.same _
  |bl b=>cases rx;exact SeqAt.EqAt.none_bool b
  |int b=>obtain⟨t,rfl⟩:=rx;exact SeqAt.EqAt.none_int b t
  |str b=>obtain⟨t,rfl⟩:=rx;exact SeqAt.EqAt.none_str b t
  |_=>exact absurd (show false=true from fx) Zg
 |bl a=>
  cases ry;cases x with
  |non=>cases rx;exact SeqAt.EqAt.bool_none a
  |bl b=>cases rx;exact SeqAt.EqAt.bool_bool a b
  |int b=>obtain⟨t,rfl⟩:=rx;exact SeqAt.EqAt.bool_int a b t
  |str b=>obtain⟨t,rfl⟩:=rx;exact SeqAt.EqAt.bool_str a b t
  |_=>exact absurd (show false=true from fx) Zg
 |int a=>
  obtain⟨t',rfl⟩:=ry;cases x with
  |non=>cases rx;exact SeqAt.EqAt.int_none a t'
  |bl b=>cases rx;exact SeqAt.EqAt.int_bool a t' b
  |int b=>obtain⟨t,rfl⟩:=rx;exact SeqAt.EqAt.int_int a t' b t
  |str b=>obtain⟨t,rfl⟩:=rx;exact SeqAt.EqAt.int_str a t' b t
  |_=>exact absurd (show false=true from fx) Zg
 |str a=>
  obtain⟨t',rfl⟩:=ry;cases x with
  |non=>cases rx;exact SeqAt.EqAt.str_none a t'
  |bl b=>cases rx;exact SeqAt.EqAt.str_bool a t' b
  |int b=>obtain⟨t,rfl⟩:=rx;exact SeqAt.EqAt.str_int a t' b t
  |str b=>obtain⟨t,rfl⟩:=rx;exact SeqAt.EqAt.str_str a t' b t
  |_=>exact absurd (show false=true from fx) Zg
 |_=>exact absurd (show false=true from fy) Zg
def eqU(x:V)(u:Value):Bool:=match u with
 |.none=>eqV .non x
 |.bool b=>eqV (.bl b) x
 |.int i _=>eqV (.int i) x
 |.str z _=>eqV (.str z) x
 |_=>false
theorem a8Q{x y:V}{u:Value}(r:q6_ y u)(f:a0Z y=true):eqU x u=eqV y x:=by
 cases y with
 |non=>cases r;rfl
 |bl b=>cases r;rfl
 |int i=>obtain⟨t,rfl⟩:=r;rfl
 |str z=>obtain⟨t,rfl⟩:=r;rfl
 |_=>exact absurd (show false=true from f) Zg
theorem a3w{x:V}:∀{xs:List V}{us:List Value},q3_ xs us->xs.all a0Z=true->us.any (eqU x)=xs.any fun y=>eqV y x
 |_,_,.nil,_=>rfl
 |y::xs,u::us,.cons r t,f=>by
  rw[Xq,Qw]at f;rw[Xz,Xz,a8Q r f.1,a3w t f.2]
theorem a3x{A:Around}{s:Shared}{x:V}{v:Value}(rx:q6_ x v)(fx:a0Z x=true):∀{xs:List V}{us:List Value},q3_ xs us->xs.all a0Z=true->∀u∈us,SeqAt.EqAt A s u v (eqU x u)
 |_,_,.nil,_=>fun u hu=>by cases hu
 |y::xs,u::us,.cons r t,f=>fun u' hu=>by
  rw[Xq,Qw]at f
  rcases Qn.mp hu with rfl|hu
  ·rw[a8Q r f.1];exact b4d r rx f.1 fx
  ·exact a3x rx fx t f.2 u' hu
def inV(x:V)(xs:List V):Bool:=xs.any fun y=>eqV y x
def rIn(K:Qq)(neg:Bool):R2:=fun x y H Q=>∃p xs,y=.ref p/\(SqL K H p xs∨SqT K H p xs)/\a0Z x=true/\xs.all a0Z=true/\Q (.bl (if neg then !inV x xs else inV x xs)) H
theorem a8R:OpR X (compareOp .In) (rIn X.K false):=by
 intro pins s σ H x y v u Q I rx ry h;obtain⟨p,xs,rfl,hq,fx,fs,q⟩:=h;cases ry
 rcases hq with hq|hq
 ·obtain⟨its,r,pl,hz⟩:=I.list hq
  refine SeqAt.in_listAt (eqU x) pl.isList (fun w hw=>a3x rx fx r fs w (by simpa using hw)) ⟨.bl _,H,I,rfl,?_⟩
  rw[show its.toArray.any (eqU x)=its.any (eqU x) by simp,a3w r fs]
  exact q
 ·obtain⟨its,r,pl,hz⟩:=I.tuple hq
  refine SeqAt.in_tupleAt (eqU x) pl (fun w hw=>a3x rx fx r fs w (by simpa using hw)) ⟨.bl _,H,I,rfl,?_⟩
  rw[show its.toArray.any (eqU x)=its.any (eqU x) by simp,a3w r fs]
  exact q
theorem b4e:OpR X (compareOp .NotIn) (rIn X.K true):=by
 intro pins s σ H x y v u Q I rx ry h;obtain⟨p,xs,rfl,hq,fx,fs,q⟩:=h;cases ry
 rcases hq with hq|hq
 ·obtain⟨its,r,pl,hz⟩:=I.list hq
  refine SeqAt.notIn_listAt (eqU x) pl.isList (fun w hw=>a3x rx fx r fs w (by simpa using hw)) ⟨.bl _,H,I,rfl,?_⟩
  rw[show its.toArray.any (eqU x)=its.any (eqU x) by simp,a3w r fs]
  exact q
 ·obtain⟨its,r,pl,hz⟩:=I.tuple hq
  refine SeqAt.notIn_tupleAt (eqU x) pl (fun w hw=>a3x rx fx r fs w (by simpa using hw)) ⟨.bl _,H,I,rfl,?_⟩
  rw[show its.toArray.any (eqU x)=its.any (eqU x) by simp,a3w r fs]
  exact q
theorem a1F:a0d X (.builtin "len") (fun xs H Q=>∃p ys,xs=[.ref p]/\(SqL X.K H p ys∨SqT X.K H p ys)/\Q (.int ys.length) H):=by
 intro pins s σ H xs us Q I r h;obtain⟨p,ys,rfl,hq,q⟩:=h;obtain⟨u,rfl,rx⟩:=a1E r;cases rx;have hn:=a3u
 rcases hq with hq|hq
 ·obtain⟨its,r',pl,hz⟩:=I.list hq
  have hlen:=r'.length
  exact Calls.call_len_list pl.isList (by simp only[Qp]<;>omega) ⟨.int ys.length,H,I.tok _,⟨s.toks+1,by rw[Qp,hlen]⟩,q⟩
 ·obtain⟨its,r',pl,hz⟩:=I.tuple hq
  have hlen:=r'.length
  exact len_tuple pl (by simp only[Qp]<;>omega) ⟨.int ys.length,H,I.tok _,⟨s.toks+1,by rw[Qp,hlen]⟩,q⟩
theorem a8S:a0d X (.type "tuple") (fun xs H Q=>∃p ys,xs=[.ref p]/\((SqL X.K H p ys/\∀l,H l=none->Q (.ref l) (upd H l (.tup ys)))∨(SqT X.K H p ys/\Q (.ref p) H))):=by
 intro pins s σ H xs us Q I r h;obtain⟨p,ys,rfl,h⟩:=h;obtain⟨u,rfl,rx⟩:=a1E r;cases rx
 rcases h with⟨hq,q⟩|⟨hq,q⟩
 ·obtain⟨its,r',pl,hz⟩:=I.list hq
  have hlen:=r'.length
  refine call_tuple_list pl.isList (fun h' kp=>?_) (by simp only[Qp]<;>omega)
  have I1:Inv X pins σ H {s with heap:=h'}:=I.kept (t':=s.toks) kp
  have I2:Inv X pins σ (upd H h'.objs.size (.tup ys)) {s with heap:=h'.push {cls:=.type "tuple",data:=.seq its.toArray}}:=
   I1.laid (t':=s.toks) (fun b o e=>Qx _ e) (Qm _) (show x4_ X.prog X.w _ _ _ (.tup ys)from⟨hz,its,r',a0z.new _ _⟩)
  exact⟨.ref h'.objs.size,_,I2,rfl,q _ (I1.hok.fresh (Qm _))⟩
 ·obtain⟨its,r',pl,hz⟩:=I.tuple hq
  exact call_tuple_same pl ⟨.ref p,H,I,rfl,q⟩
def tyV(K:Qq)(T:String)(x:V)(H:Hp):Prop:=match x with
 |.str _=>T="str"
 |.int _=>T="int"
 |.ref p=>(T="list"/\ ∃xs,SqL K H p xs)∨(T="tuple"/\ ∃o,K.lookup p=some o/\o.cls=.type "tuple"/\o.dict=none)∨
   (T="dict"/\((∃kvs,H p=some (.dK kvs))∨ ∃C kvs,H p=some (.dT C kvs)))∨(T="set"/\ ∃S n,H p=some (.set S n))
 |_=>False
theorem b4f{pins:OX}{σ:St}{H:Hp}{s:Shared}{T:String}{x:V}{v:Value}(I:Inv X pins σ H s)(r:q6_ x v)(ty:tyV X.K T x H):
  s.TypeIs v T/\∀a,v=.ref a->∃ob,s.heap.get? a=some ob/\ob.dict=none:=by
 cases x with
 |str z=>
  obtain⟨t,rfl⟩:=r;cases (show T="str" from ty)
  exact⟨typeIs_str s z t,fun _ e=>nomatch e⟩
 |int i=>
  obtain⟨t,rfl⟩:=r;cases (show T="int" from ty)
  exact⟨typeIs_int s i t,fun _ e=>nomatch e⟩
 |ref p=>
  cases r
  rcases ty with⟨rfl,xs,hq⟩|⟨rfl,o,hk,hc,hd⟩|⟨rfl,hk⟩|⟨rfl,S,n,hk⟩
  ·obtain⟨its,_,pl,_⟩:=I.list hq
   refine⟨pl.isList.typeIs,fun a e=>?_⟩
   cases e;obtain⟨o,n,e,c,hd,_⟩:=pl;exact⟨o,e,hd⟩
  ·refine⟨⟨o,I.kIn p o hk,hc⟩,fun a e=>?_⟩
   cases e;exact⟨o,I.kIn _ o hk,hd⟩
  ·have z:∃o,s.heap.get? p=some o/\o.ExactDict:=by
    rcases hk with⟨kvs,hk⟩|⟨C,kvs,hk⟩
    ·obtain⟨_,_,_,_,o,_,_,e,ex,_⟩:=I.hok p _ hk
     exact⟨o,e,ex⟩
    ·obtain⟨_,_,_,_,o,_,_,e,ex,_⟩:=I.hok p _ hk
     exact⟨o,e,ex⟩
   obtain⟨o,e,ex⟩:=z;refine⟨⟨o,e,ex.1⟩,fun a e2=>?_⟩
   cases e2;exact⟨o,e,ex.2.1⟩
  ·obtain⟨o,_,_,_,e,ex,_⟩:=I.hok p _ hk
   refine⟨⟨o,e,ex.1⟩,fun a e2=>?_⟩
   cases e2;exact⟨o,e,ex.2.1⟩
 |_=>exact False.elim ty
def tBM(K:Qq)(T:String)(r:V->List V->Hp->VK->Prop)(to:TE)(t:TA):TE:=fun σ H Q=>to σ H fun x H1=>tyV K T x H1/\t σ H1 fun xs H2=>r x xs H2 Q
variable{o e:Expr}{es:List Expr}{to:TE}{t:TA}{name:Str}{apos cpos:Pos}{T id:String}{r:V->List V->Hp->VK->Prop}
theorem b4g(pa:PlainAttrs T)(slot:Slot T name id)(hty:typeOf (.builtin id)=pure (.type "method_descriptor"))(hm:MtR X id r)(ho:PE X o to)(ha:PA X (e::es) t)
  (hbase:attributeBase o name X.env (eval o X.env)=eval o X.env:=by rfl)
  (hfew:((backTo cpos (starEach (e::es) X.env)).all (fun x=>!x.1)&&(backToKw cpos (keywordEach [] X.env)).all (fun x=>x.1.isSome)
   &&decide ((e::es).length+([]:List Keyword).length+(if([]:List Keyword).isEmpty then 0 else 1)<30))=true:=by rfl)
  (hline:(apos.endLine==cpos.line)=true:=by rfl)(hs:starEach (e::es) X.env=(false,eval e X.env)::starEach es X.env:=by rfl)(hplain:(backTo cpos (starEach es X.env)).any (·.1)=false:=by rfl):
  PE X (.Call (.Attribute o name apos) (e::es) [] cpos) (tBM X.K T r to t):=by
 intro pins s σ H Q I h;refine wpAny_Call_method_late hbase hfew hline rfl (thn (ho pins s σ H _ I h) fun v s1 ⟨x,H1,I1,r1,ty,q1⟩=>?_)
 obtain⟨h1,h2⟩:=b4f I1 r1 ty;refine⟨T,id,pa,slot,hty,h1,h2,?_⟩;have hA:=ha cpos pins s1 σ H1 _ I1 q1;rw[hs]at hA ⊢;refine Calls.callWith_builtin (by show(false||(backTo cpos (starEach es X.env)).any (·.1))=false;rw[hplain]<;>rfl) (Calls.evalArgs_plain ?_)
 exact thn hA fun us s2 ⟨vs,H2,I2,r2,q2⟩=>hm pins s2 σ H2 x vs v us Q I2 r1 r2 q2
end
def MtM(X:Cx)(id:String)(r:V->List V->Hp->VK->Prop):Prop:=
 ∀(pins:OX) (s:Shared) (σ:St) (H:Hp) (x:V) (xs:List V) (v:Value) (us:List Value) (Q:VK),Inv X pins σ H s->q6_ x v->q3_ xs us->r x xs H Q->
  wpAny (model X.prog X.w) X.A (call (.builtin id) (v::us)) (EP X pins σ Q) X.xe s
theorem q3_.one:∀{x:V}{us:List Value},q3_ [x] us->∃u,us=[u]/\q6_ x u
 |_,_,.cons r .nil=>⟨_,rfl,r⟩
theorem q3_.reverse{xs:List V}{us:List Value}(h:q3_ xs us):q3_ xs.reverse us.reverse:=by
 induction h with
 |nil=>exact .nil
 |cons r t ih=>rw[Xv,Xv];exact q3_.append ih (.cons r .nil)
theorem q3_.rep{xs:List V}{us:List Value}(h:q3_ xs us):∀k:Nat,q3_ (List.replicate k xs).flatten (List.replicate k us).flatten
 |0=>.nil
 |k+1=>by
  rw[Zr,Zr,Uk,Uk];exact q3_.append h (q3_.rep h k)
theorem a8T(its:List Value):∀(k:Nat) (acc:List Value),
  List.foldl (fun x1 x2=>x1++x2) acc.toArray (List.replicate k its.toArray)=(acc++(List.replicate k its).flatten).toArray
 |0,acc=>by simp
 |k+1,acc=>by
  have e:acc.toArray++its.toArray=(acc++its).toArray:=by simp
  have e2:(acc++its)++(List.replicate k its).flatten=acc++(List.replicate (k+1) its).flatten:=by
   rw[Zr,Uk,Uo]
  rw[←e2,←a8T its k (acc++its),←e,Zr,List.foldl_cons]
section
variable{X:Cx}{pins:OX}{σ:St}{H:Hp}{s:Shared}{l b:Addr}{xs ys zs:List V}
theorem Inv.lset{its its':List Value}{n:Nat}{f:Array Value->Array Value}{t':Nat}(I:Inv X pins σ H s)(hH:H l=some (.lst xs))
  (e:s.heap.get? l=some {cls:=.type "list",data:=.seq its.toArray n})(hf:f its.toArray=its'.toArray)(hv:q3_ ys its')(hz:ys.length≤sizeLine):
  Inv X pins σ (upd H l (.lst ys)) {s with heap:=s.heap.update l (Obj.mapSeq f),toks:=t'}:=by
 have q:=PySem.IsL.update e f
 rw[hf]at q;refine I.write (x:=l) (e:=l) (by rw[hH];exact trivial) (.inl rfl) (fun b' u hb hu=>(Heap.get?_update_other s.heap (Obj.mapSeq f) (Zn hb)).trans hu) ⟨_,q⟩ ?_
 exact⟨hz,its',_,hv,q⟩
theorem Inv.lnew{its:List Value}{t':Nat}(I:Inv X pins σ H s)(hv:q3_ ys its)(hz:ys.length≤sizeLine):
  Inv X pins σ (upd H s.heap.objs.size (.lst ys)) {s with heap:=s.heap.push {cls:=.type "list",data:=.seq its.toArray},toks:=t'}:=
 I.laid (fun _ _ q=>Qx _ q) (Qm _) ⟨hz,its,0,hv,Qb _ rfl⟩
theorem Inv.fresh(I:Inv X pins σ H s):H s.heap.objs.size=none:=I.hok.fresh (Qm _)
theorem Inv.lstM(I:Inv X pins σ H s)(hH:H l=some (.lst xs)):xs.length≤sizeLine/\∃(its:List Value) (n:Nat),q3_ xs its/\xs.length=its.length/\s.heap.get? l=some {cls:=.type "list",data:=.seq its.toArray n}:=by
 obtain⟨z,its,n,r,e⟩:=I.hok l _ hH;exact⟨z,its,n,r,r.length,e⟩
end
section
variable{X:Cx}
def b4h:V->List V->Hp->VK->Prop:=fun x vs H Q=>∃l xs y,x=.ref l/\vs=[y]/\H l=some (.lst xs)/\xs.length<sizeLine/\Q .non (upd H l (.lst (xs++[y])))
theorem a8U:MtM X "list.append" b4h:=by
 intro pins s σ H x vs v us Q I rx rv h;obtain⟨l,xs,y,rfl,rfl,hH,hz,q⟩:=h;cases rx;obtain⟨u,rfl,ru⟩:=rv.one;obtain⟨z,its,n,r,hl,e⟩:=I.lstM hH;refine call_meets F.slot_list_append ⟨_,e,rfl⟩ F.entry_list_append (F.args_list_append_2 _ _) (PySem.list_append l its.toArray n u (by rw[Qp];omega)) ⟨e,?_⟩
 refine⟨.non,_,I.lset (its':=its++[u]) hH e (by simp) (r.append (.cons ru .nil)) ?_,rfl,q⟩
 rw[Qt,List.length_singleton]
 omega
theorem a8V{α:Type}(xs:List α)(k:Nat):(List.replicate k xs).flatten.length=k * xs.length:=by
 induction k with
 |zero=>simp
 |succ k ih=>rw[Zr,Uk,Qt,ih,Nat.succ_mul,Nat.add_comm]
end
section
variable{prog:Program}{w:World}{A:Around}{E:OE}{s:Shared}
set_option maxRecDepth 100000 in
end
section
variable{X:Cx}
end
end L2
namespace Att
open PySem PySem.W PySem.Calls PyProof.Rows
theorem ints_of_wellAll{P:Params}{h:Heap}:∀(ns:List Int) (vs:List Value),WellAll P h vs (ns.map WData.int)->IntsAre vs ns:=by
 intro ns
 induction ns with
 |nil=>
  intro vs w;rw[Vf]at w;cases w;exact .nil
 |cons n ns ih=>
  intro vs w;rw[Qh]at w;cases w with
  |cons a b=>
   cases a;exact .cons _ _ (ih _ b)
theorem script_of{l:OpenLaw}{n:Nat}(hn:l.most=some n){P:Params}{h:Heap}{args:List WData}{vals:List Value}
  (hpre:l.row.toRowW.claim.pre args=true)(hwl:WellAll P h vals args):
  ∃a vs ns,vals=[Value.ref a]/\args=[WData.list (ns.map WData.int)]/\h.get? a=some {cls:=.type "list",data:=.seq vs.toArray}/\IntsAre vs ns/\ns.length≤n:=by
 have hsh:WShape.hasAll [] args [.list .int]=true:=(pre_splitW hpre).1
 have hc:l.pre.holds [] {args:=args}=true:=(pre_splitW hpre).2
 obtain⟨d,r,rfl,h1,h2⟩:=hasAllW_cons hsh;obtain rfl:=hasAllW_nil h2;obtain⟨xs,rfl,h3⟩:=hasW_list h1;obtain⟨ns,rfl⟩:=items_int h3;have hlen:ns.length≤n:=by
  unfold OpenLaw.pre at hc;have h4:(WTm.not (.lt (.lit (.int (n:Int))) (.len (.arg 0)))).holds [] {args:=[.list (ns.map .int)]}=true:=by
   have h4:=(holds_andW hc).1
   rw[hn]at h4;exact h4
  have h5:=condW_of h4 (w_not (w_lt w_lit (w_len_list (w_arg rfl))))
  rw[Qk]at h5;refine Nat.le_of_not_lt fun q=>?_
  have q':(n:Int)<((ns.length:Nat):Int):=by omega
  first
   |(rw[Zs q']at h5;exact absurd h5 (by decide))
   |(simp at h5;omega)
 cases hwl with
 |cons w1 w2=>
  cases w2;cases w1 with
  |list ho hall=>exact⟨_,_,ns,rfl,rfl,ho,ints_of_wellAll ns _ hall,hlen⟩
theorem post_true(l:OpenLaw)(args:List WData):l.row.toRowW.claim.post args (.bool true) args=true:=
 postW_of (r:=l.row.toRowW) (X:=(true==true))
  (show WShape.has [] (.bool true) .bool=true by first|rfl|decide|simp[WShape.has,WShape.arms,WShape.armsAll])
  (show(WTm.eq .res (.lit (.bool true))).value [] {args:=args,res:=some (.bool true),after:=args}=some (.bool (true==true))from w_eq_bool (w_res rfl) w_lit) rfl
theorem attach_call{l:OpenLaw}{n:Nat}{q:Program}{loose:List Str}{XP:(OU)->Heap->Prop}{YP:World->Heap->Prop}{d:DefRec}
  (hn:l.most=some n)(hdf:d.params.defaults=[])
  (call:∀(w:World) (s₀ s₁:Shared) (mg mb:OU) (fa:Addr) (o:Obj) (pm cd doc:Value) (a:Addr) (vs:List Value) (ns:List Int),
   Ground q loose [] XP w s₀ mg mb s₁.heap->YP w s₁.heap->
   s₁.heap.get? fa=some o->o.data=.func (docDef d.name d.params d.body d.scope pm cd doc)->s₁.heap.CodeRec cd d.name->mg d.name=some (.ref fa)->
   s₁.heap.get? a=some {cls:=.type "list",data:=.seq vs.toArray}->IntsAre vs ns->ns.length≤n->s₁.gens= #[]->
   codeAny (model l.prog w) callerA (.call (.ref fa) ⟨[.ref a],[]⟩) (fun r s'=>r=.ok (.ret (.bool true))/\OldK s₁.heap s'.heap/\s'.os=s₁.os/\AllBare s'.gens) s₁):
  WalkO q loose XP YP l.row.toRowW d [] (fun f vs=>PySem.call f vs):=by
 intro w s₀ s₁ mg mb G Y fa o pm cd doc dV kV ho hd hcd hD hmg hg args vals as hpre hlay hrd hwl hlo;obtain rfl:dV=.none:=Dflts.none hD hdf;obtain rfl:kV=.none:=Dflts.noKw hD;obtain⟨a,vs,ns,rfl,rfl,hobj,hints,hlen⟩:=script_of hn hpre hwl;refine enter_call (codeAny_mono (call w s₀ s₁ mg mb fa o pm cd doc a vs ns G Y ho (fd_plain hd) hcd hmg hobj hints hlen hg) fun r s' hq=>?_)
 obtain⟨rfl,h2,h3,h4⟩:=hq;exact⟨.inl ⟨.bool true,.bool true,[],rfl,fun _=>rfl,.bool true,post_true l _,fun _=>⟨List.Pairwise.nil,fun _ hm=>(nomatch hm)⟩⟩,h2,h3,h4⟩
section
variable{prog:Program}{w:World}{A:Around}{E:OE}{s:Shared}{K:Frag}
end
end Att
namespace L2
open PySem PySem.Spec PyProof.Rows
theorem a8W:∀{vs:List Value}{ns:List Int},IntsAre vs ns->q3_ (ns.map V.int) vs
 |_,_,.nil=>.nil
 |_,_,.cons n t h=>.cons ⟨t,rfl⟩ (a8W h)
def a5U(H:Hp):Prop:=∀b,H b=none∨ ∃o xs,H b=some (.frz o (.lst xs))
theorem b4i{P:Program}{w:World}{K:Qq}{mg mb:OU}{CX:CXT}{k:Nat}{fa a:Addr}{fd:FuncData}{x:Str}{sp:Sp}{s₁:Shared}{vs:List Value}{ns:List Int}
  (KX:K.In s₁.heap)(hns:s₁.heap.Ns mainGlobals mg)(hb:s₁.heap.Ns builtinsNs mb)(hbb:∀x:Str,x≠"__name__"->mb x=bootBuiltins x)(hlim:s₁.heap.NoLimit)(hg:s₁.gens= #[])
  (ha:s₁.heap.get? a=some {cls:=.type "list",data:=.seq vs.toArray})(hi:IntsAre vs ns)(hl:ns.length≤sizeLine)(hr:Room k callerA)
  (F:∀base:Heap,K.In base->base.Ns mainGlobals mg->FnOk P w K mg base CX k fa fd [x] sp)(hbind:∀(s:Shared) (u:Value),BindsTo s fd ⟨[u],[]⟩ [(x,u)])
  (hsp:∀H:Hp,a5U H->SqL K H a (ns.map V.int)->sp [.ref a] H (fun v _=>v=.bl true) fun _ _ _=>False)
  (hCX:∀H e s',CX [] H s₁ (fun _ _ _=>False) e s'->False):
  codeAny (model P w) callerA (.call (.ref fa) ⟨[.ref a],[]⟩) (fun r s'=>r=.ok (.ret (.bool true))/\OldK s₁.heap s'.heap/\s'.os=s₁.os/\AllBare s'.gens) s₁:=by
 have rv:=a8W hi
 have lenV:=hi.length
 have core:∀H:Hp,a5U H->SqL K H a (ns.map V.int)->HOk P w H s₁.heap->(∀b,H b≠none->b=a)->(H a≠none->K.lookup a=none)->
   codeAny (model P w) callerA (.call (.ref fa) ⟨[.ref a],[]⟩) (fun r s'=>r=.ok (.ret (.bool true))/\OldK s₁.heap s'.heap/\s'.os=s₁.os/\AllBare s'.gens) s₁:=by
  intro H hO hS hok hA hK;have base_of:∀{b:Addr}{o:Obj},s₁.heap.get? b=some o->H b=none->(a1l s₁.heap H).get? b=some o:=fun e n=>b2s e n
  have noA:∀{b:Addr}{o:Obj}{es:Array DictEntry}{ep:Nat},s₁.heap.get? b=some o->o.data=.dict es ep->H b=none:=fun{b o es ep} e d=>by
   cases q:H b with
   |none=>rfl
   |some u=>
    have e':b=a:=hA b (by rw[q];simp)
    subst e';rw[ha]at e;cases e;have d':Data.seq vs.toArray _=Data.dict es ep:=d;cases d'
  have nsK:∀{b:Addr}{m:OU},s₁.heap.Ns b m->(a1l s₁.heap H).Ns b m:=fun{b m} ⟨o,es,ep,e,d,r⟩=>⟨o,es,ep,base_of e (noA e d),d,r⟩
  have hKb:K.In (a1l s₁.heap H):=fun b o e=>base_of (KX b o e) (by
   cases q:H b with
   |none=>rfl
   |some u=>
    have e':b=a:=hA b (by rw[q];simp)
    subst e';rw[hK (by rw[q];simp)]at e;cases e)
  have hM:Mod K mg (a1l s₁.heap H):=⟨hKb,nsK hns,⟨mb,nsK hb,hbb⟩,let ⟨mc,h1,h2⟩:=hlim;⟨mc,nsK h1,h2⟩⟩
  have e0:Env0 P w K mg (a1l s₁.heap H) callerA [] s₁ H:=⟨rfl,hM,fun b o e=>b2t e,Nat.le_of_eq (b2r _ _),trivial,fun b hb=>absurd (show b∈([]:List Addr)from hb) (by simp),hok,.of_eq hg⟩
  refine codeAny_mono ((F _ hKb (nsK hns)).run callerA [] s₁ H ⟨[.ref a],[]⟩ [.ref a] [.ref a] _ _ hr e0 (hbind s₁ (.ref a)) (.cons rfl .nil) (hsp H hO hS)) fun r s' h=>?_
  cases r with
  |error e=>exact(hCX H e s' h).elim
  |ok fl=>
   cases fl with
   |next=>exact False.elim h
   |brk=>exact False.elim h
   |cont=>exact False.elim h
   |ret u=>
    obtain⟨v,H',os,bare,un,hok',r',q⟩:=h;have q':v=.bl true:=q;subst q';obtain rfl:u=Value.bool true:=r';refine⟨rfl,OldK.of_keep fun b o e=>?_,os,bare⟩
    cases q:H b with
    |none=>exact un.keep b o e q (by intro z;exact absurd (show b∈([]:List Addr)from z) (by simp)) (by simp)
    |some u=>
     rcases hO b with z|⟨ob,xs,z⟩
     ·rw[q]at z;cases z
     ·have z2:=un.frzs b ob _ z
      obtain⟨e1,_⟩:=hok b _ z;obtain⟨e2,_⟩:=hok' b _ z2;rw[e]at e1;cases e1;exact e2
 cases hk:K.lookup a with
 |some o=>
  have e:=KX a o hk
  rw[ha]at e;cases e;refine core (fun _=>none) (fun _=>.inl rfl) (.inr ⟨_,vs.toArray,_,hk,rfl,rfl,rfl,by rw[Qp,lenV];exact hl,by simpa using rv⟩) (fun b u z=>by have z':(none:Option HO)=some u:=z;cases z') (fun b z=>absurd rfl z) fun z=>absurd rfl z
 |none=>
  refine core (fun b=>if b=a then some (.frz {cls:=.type "list",data:=.seq vs.toArray} (.lst (ns.map V.int)))else none) (fun b=>?_) (.inl (.inr ⟨{cls:=.type "list",data:=.seq vs.toArray},Qc rfl⟩)) (fun b u z=>?_) (fun b z=>?_) fun _=>hk
  ·by_cases hb:b=a
   ·exact .inr ⟨_,_,Qc hb⟩
   ·exact .inl (Qs hb)
  ·by_cases hb:b=a
   ·have z':=(Qc hb).symm.trans z
    cases z';subst hb;exact⟨ha,by rw[Qk];exact hl,vs,_,rv,ha⟩
   ·have z':=(Qs hb).symm.trans z
    cases z'
  ·by_cases hb:b=a
   ·exact hb
   ·exact absurd (Qs hb) z
theorem b4j{l:PySem.W.OpenLaw}{n k:Nat}{q:Program}{loose:List Str}{XP:(OU)->Heap->Prop}{YP:World->Heap->Prop}{d:DefRec}{K:Params->Qq}{CX:World->CXT}{sp:World->Sp}{x:Str}
  (hn:l.most=some n)(hn2:n≤sizeLine)(hdf:d.params.defaults=[])(hr:Room k callerA)
  (hY:∀(w:World) (h:Heap),YP w h->(K w.params).In h)
  (F:∀(w:World) (mg:OU) (fa:Addr) (h:Heap),(K w.params).In h->h.Ns mainGlobals mg->mg d.name=some (.ref fa)->
   ∃fd:FuncData,(∀(s:Shared) (u:Value),BindsTo s fd ⟨[u],[]⟩ [(x,u)])/\
    ∀base:Heap,(K w.params).In base->base.Ns mainGlobals mg->FnOk l.prog w (K w.params) mg base (CX w) k fa fd [x] (sp w))
  (hsp:∀(w:World) (H:Hp) (a:Addr) (ns:List Int),ns.length≤n->a5U H->SqL (K w.params) H a (ns.map V.int)->sp w [.ref a] H (fun v _=>v=.bl true) fun _ _ _=>False)
  (hCX:∀(w:World) (H:Hp) (s:Shared) (e:Value) (s':Shared),CX w [] H s (fun _ _ _=>False) e s'->False):
  PySem.W.WalkO q loose XP YP l.row.toRowW d [] (fun f vs=>PySem.call f vs):=by
 refine Att.attach_call hn hdf fun w s₀ s₁ mg mb fa o pm cd doc a vs ns G Y ho hd hcd hmg hobj hints hlen hg=>?_
 have KX:=hY w _ Y
 obtain⟨fd,hb,hF⟩:=F w mg fa _ KX G.T.g hmg;exact b4i KX G.T.g G.T.b G.T.builtins G.T.nolimit hg hobj hints (Zo hlen hn2) hr hF hb (fun H hO hS=>hsp w H a ns hlen hO hS) fun H e s'=>hCX w H s₁ e s'
def a2g(s:Stmt):Arguments:=match s with
 |.FunctionDef _ a _ _ _ _ _ _ _ _=>a
 |_=>{posonlyargs:=[],args:=[],vararg:=none,kwonlyargs:=[],kw_defaults:=[],kwarg:=none,defaults:=[]}
def a1m(s:Stmt):List Stmt:=match s with
 |.FunctionDef _ _ b _ _ _ _ _ _ _=>b
 |_=>[]
def y7_(s:Stmt):Scope:=match s with
 |.FunctionDef _ _ _ _ _ _ sc _ _ _=>sc
 |_=>{kind:=.function,names:=[],isGenerator:=false,isCoroutine:=false}
abbrev CX0:CXT:=fun _ _ _ _ _ _=>False
abbrev E0:XK:=fun _ _ _=>False
theorem a5V{X:Cx}:a4r CX0 X E0:=fun _ _ _ _ _ _ _ h=>h.elim
structure Fun(K:Qq)(x qual:Str)(st:Stmt)(f:Addr)(fd:FuncData):Prop where
 ex:∃(oc:Value) (od:Option Addr) (kV doc pm:Value) (an:Option Addr) (cdv ct:Value) (osl:Array (Option Value)),
  fd=PySem.W.fnOf x qual (a2g st) (a1m st) (y7_ st) .none kV doc pm an cdv ct/\K.lookup f=some ⟨oc,od,.func fd,osl⟩/\PySem.W.codeIn K cdv qual=true
 kp:PySem.W.keepIn K (.ref f)=true
section
variable{P:Program}{w:World}{K:Qq}{mg:OU}{base:Heap}
theorem Fun.ok{x qual:Str}{st:Stmt}{f:Addr}{fd:FuncData}{N ps:List Str}{k:Nat}{sp:Sp}(F:Fun K x qual st f fd)(S:FnScope N ps (y7_ st))(len:∀vs H Q E,sp vs H Q E->vs.length=ps.length)
  (hbody:∀(cdv:Value) (A:Around) (outer:List Env) (s:Shared) (H:Hp) (vs:List V) (Q:VK) (E:XK),Room k (A.deeper (envOfC qual (y7_ st) s.heap.objs.size f cdv))->sp vs H Q E->
   ∃t,PSs (a2d CX0 P w K mg base N qual (y7_ st) f cdv A outer s H E).nox (a1m st) t/\t {nx:=fun _ H'=>Q .non H',rt:=Q} (start N vs) H):FnOk P w K mg base CX0 (k+1) f fd ps sp:=by
 obtain⟨oc,od,kV,doc,pm,an,cdv,ct,osl,rfl,lk,hcd⟩:=F.ex;refine b3N lk hcd S len fun A outer s H vs Q E hr hsp=>?_
 obtain⟨t,h,q⟩:=hbody cdv A outer s H vs Q E hr hsp;exact⟨t,h.nox,q⟩
theorem Fun.binds{x qual:Str}{st:Stmt}{f:Addr}{fd:FuncData}{ps:List Str}(F:Fun K x qual st f fd)
  (h:∀(kV doc pm:Value) (an:Option Addr) (cdv ct:Value) (us:List Value),us.length=ps.length->bindArgs (PySem.W.fnOf x qual (a2g st) (a1m st) (y7_ st) .none kV doc pm an cdv ct) ⟨us,[]⟩=pure (ps.zip us)):a0e K fd ps []:=by
 obtain⟨oc,od,kV,doc,pm,an,cdv,ct,osl,rfl,lk,hcd⟩:=F.ex;exact .all (h kV doc pm an cdv ct)
theorem b4k{x qual:Str}{st:Stmt}{f:Addr}{oc:Value}{od an:Option Addr}{osl:Array (Option Value)}{kV doc pm cdv ct:Value}(l:K.lookup f=some ⟨oc,od,.func (PySem.W.fnOf x qual (a2g st) (a1m st) (y7_ st) .none kV doc pm an cdv ct),osl⟩)
  (c:PySem.W.codeIn K cdv qual=true)(k:PySem.W.keepIn K (.ref f)=true):Fun K x qual st f (PySem.W.fnOf x qual (a2g st) (a1m st) (y7_ st) .none kV doc pm an cdv ct):=⟨⟨oc,od,kV,doc,pm,an,cdv,ct,osl,rfl,l,c⟩,k⟩
end
theorem a4t{n:Nat}(h:n≤1000):n<sizeLine:=Ve h (by decide)
section
variable{X:Cx}
theorem pv(i:Nat){x:Str}{pos:Pos}(hN:X.N[i]? =some x:=by rfl)(hv:Vis X.env.scope x:=by first|exact Or.inl rfl|exact Or.inr (Or.inl rfl)|exact Or.inr (Or.inr rfl))(hd:(x==("__debug__":Str))=false:=by decide)
  (hcd:(x==("__classdict__":Str))=false:=by decide):PE X (.Name x pos) (a0o i):=b2w hN hv hd hcd
end
section
variable{κ:Type}[DecidableEq κ]
def a0A(kvs:List (κ×V))(k:κ):Option V:=(kvs.find? fun kv=>decide (kv.1=k)).map (·.2)
def a1a(kvs:List (κ×V))(k:κ)(v:V):List (κ×V):=
 if(kvs.any fun kv=>decide (kv.1=k))=true then kvs.map (fun kv=>if kv.1=k then(kv.1,v)else kv)else kvs++[(k,v)]
theorem a4u{p:κ×V}{r:List (κ×V)}{k:κ}(e:p.1=k):a0A (p::r) k=some p.2:=by simp[a0A,Vh,e]
theorem a4v{p:κ×V}{r:List (κ×V)}{k:κ}(e:¬ p.1=k):a0A (p::r) k=a0A r k:=by simp[a0A,Vh,e]
theorem a5W(k:κ):∀kvs:List (κ×V),(kvs.any fun kv=>decide (kv.1=k))=(a0A kvs k).isSome
 |[]=>rfl
 |p::r=>by
  rw[Xz]
  by_cases e:p.1=k
  ·simp only[a4u e,Zs e,Bool.true_or,Option.isSome_some]
  ·rw[a4v e,Qr e,Xj];exact a5W k r
theorem b4l(kvs:List (κ×V))(k:κ)(v:V):(a1a kvs k v).length≤kvs.length+1:=by
 unfold a1a;split
 ·rw[Qk];omega
 ·rw[Qt,Zp,Jj];omega
end
theorem a0X.isSome_eq{o:Option V}{u:Option Value}(r:a0X o u):o.isSome=u.isSome:=by
 cases o with
 |none=>cases u with
  |none=>rfl
  |some _=>exact(show False from r).elim
 |some _=>cases u with
  |none=>exact(show False from r).elim
  |some _=>rfl
theorem b4m{P:Program}{w:World}{k:Key}{u:Value}(r:q6_ (kV k) u):(u6_ P w).is k u=true:=by
 cases k with
 |inl i=>obtain⟨t,e⟩:=(show∃t,u=Value.int i t from r);subst e;exact b2o P w i t
 |inr x=>obtain⟨t,e⟩:=(show∃t,u=Value.str x t from r);subst e;exact b2p P w x t
theorem a5X{P:Program}{w:World}:∀{ks:List Key}{us:List Value},q3_ (ks.map kV) us->ItemsAre (u6_ P w) ks us
 |[],_,r=>by rw[Vf]at r;cases r;exact .nil
 |k::ks,_,r=>by
  rw[Qh]at r;cases r with
  |cons h t=>exact .cons (b4m h) (a5X t)
abbrev KT(C:Addr->List Key->Prop)(H:Hp):List (List Key×V)->List (List Key×Addr×Value)->Prop:=Paired fun p q=>p.1=q.1/\(H q.2.1=some (.tup (p.1.map kV))∨C q.2.1 p.1)/\q6_ p.2 q.2.2
theorem KT.val{C:Addr->List Key->Prop}{H:Hp}{kvs:List (List Key×V)}{xs:List (List Key×Addr×Value)}(r:KT C H kvs xs)(k:List Key):a0X (a0A kvs k) ((atKey xs k).map (·.2)):=by
 induction r with
 |nil=>exact True.intro
 |@cons p q ps qs h t ih=>
  obtain⟨h1,_,h2⟩:=h
  by_cases e:p.1=k
  ·have e':q.1=k:=h1.symm.trans e
   have b:atKey (q::qs) k=some q.2:=by simp[atKey,Vh,e']
   rw[a4u e,b];exact h2
  ·have e':¬ q.1=k:=fun z=>e (h1.trans z)
   have b:atKey (q::qs) k=atKey qs k:=by simp[atKey,Vh,e']
   rw[a4v e,b];exact ih
theorem KT.repl{C:Addr->List Key->Prop}{H:Hp}{kvs:List (List Key×V)}{xs:List (List Key×Addr×Value)}(r:KT C H kvs xs)(k:List Key){y:V}{u:Value}(ry:q6_ y u):
  KT C H (kvs.map fun kv=>if kv.1=k then(kv.1,y)else kv) (xs.map (putAt k u)):=by
 induction r with
 |nil=>exact .nil
 |@cons p q ps qs h t ih=>
  rw[Qh,Qh];refine .cons ?_ ih;obtain⟨h1,h2,h3⟩:=h;unfold putAt
  by_cases e:p.1=k
  ·rw[Qc e,Qc (h1.symm.trans e)];exact⟨h1,h2,ry⟩
  ·rw[Qs e,Qs (fun z=>e (h1.trans z))];exact⟨h1,h2,h3⟩
theorem KT.put{C:Addr->List Key->Prop}{H:Hp}{kvs:List (List Key×V)}{xs:List (List Key×Addr×Value)}(r:KT C H kvs xs)(k:List Key){b:Addr}{y:V}{u:Value}(hb:H b=some (.tup (k.map kV))∨C b k)(ry:q6_ y u):
  KT C H (a1a kvs k y) (storedH xs k b u):=by
 have e:(kvs.any fun kv=>decide (kv.1=k))=(atKey xs k).isSome:=by
  rw[a5W,(r.val k).isSome_eq,Xw]
 unfold a1a storedH;rw[e]
 by_cases q:(atKey xs k).isSome=true
 ·rw[Qc q,Qc q];exact r.repl k ry
 ·rw[Qs q,Qs q];exact Paired.snoc r ⟨rfl,hb,ry⟩
theorem KT.keeps{C:Addr->List Key->Prop}{H H':Hp}{kvs:List (List Key×V)}{xs:List (List Key×Addr×Value)}(r:KT C H kvs xs)(ht:∀b ys,H b=some (.tup ys)->H' b=some (.tup ys)):KT C H' kvs xs:=
 Paired.mapP r fun _ _ z=>⟨z.1,z.2.1.imp (ht _ _) id,z.2.2⟩
section
variable{P:Program}{w:World}{H:Hp}{h:Heap}{a:Addr}
theorem b4n{ks:List Key}(ok:HOk P w H h)(e:H a=some (.tup (ks.map kV))):(tupleKind (u6_ P w)).is h ks a:=by
 obtain⟨_,its,r,o,h1,h2,_,n,h3⟩:=(show x4_ P w H h a (.tup (ks.map kV))from ok a _ e)
 exact⟨o,its.toArray,n,h1,h2,h3,by simpa using a5X r⟩
end
section
variable{X:Cx}{pins:OX}{σ:St}{H:Hp}{s:Shared}{a:Addr}{y v:V}{u r:Value}{o:Option V}{A:Around}{E:OE}
theorem b4o{h':Heap}{t':Nat}{ob:HO}(I:Inv X pins σ H s)(mu:Mut (H a))(hs:Heap.SameBut a s.heap h')(he:∃q,h'.get? a=some q)(new:x4_ X.prog X.w (upd H a ob) h' a ob):
  Inv X pins σ (upd H a ob) {s with heap:=h',toks:=t'}:=
 I.write (x:=a) (e:=a) mu (.inl rfl) (fun b q hb z=>(hs.2 b hb).trans z) he new
end
def b4p(i:Expr):Prop:=∀ov iv,subscripted i false ov iv=operate [ov,iv] (getItem ov iv)
theorem a8X{prog:Program}{w:World}{A:Around}{E:OE}{s:Shared}{env:Env}{value slice:Expr}{pos:Pos}{T id:String}{Q:OE}
  (hl:typeLookup (.type T) "__getitem__"=pure (some (.builtin id)))(hs:b4p slice)
  (h:wpAny (model prog w) A (eval value env) (fun o s₁=>wpAny (model prog w) A (eval slice env) (fun i s₂=>s₂.TypeIs o T/\wpAny (model prog w) A (getItem o i) Q E s₂) E s₁) E s):
  wpAny (model prog w) A (eval (.Subscript value slice pos) env) Q E s:=by
 refine Subscript_ (Zq h (fun o s₁ h₁=>Zq h₁ (fun i s₂ h₂=>?_) fun _ _ x=>x) fun _ _ x=>x)
 obtain⟨hT,h₂⟩:=h₂;unfold subscriptTail;refine Qz ?_
 rw[getitemInPython_of_ne hT.not_modules];refine Qz (wpAny_specialOf hT hl ?_);have fin:wpAny (model prog w) A (subscripted slice false o i) (fun r s₃=>wpAny (model prog w) A (letTemporaryGo value o r>>=fun _=>pure r) Q E s₃) E s₂:=by
  rw[hs o i];exact wpAny_operating (Zq h₂ (fun r s₃ h₃=>Qz (wpAny_letTemporaryGo (Qv h₃))) fun _ _ x=>x)
 first
  |exact Qv (Qz fin)
  |exact Qz (Qv (Qz fin))
  |exact Qz fin
theorem Inv.big(I:Inv X pins σ H s):sysModules<s.heap.objs.size:=by
 have h:mainGlobals<s.heap.objs.size:=(I.mod.glob.keeps I.bk).lt
 exact Uy (by decide) h
end L2
namespace L2.Mir
open PySem PySem.Spec PyProof.Rows
inductive Ob where
 |exc (n:Str)|fn (n:Str)|dk (kvs:List (Key×Key))|dt (kvs:List (Str×List Int))
 deriving Inhabited
inductive D where
 |non|bl (b:Bool)|int (i:Int)|str (x:Str)|tup (ds:List D)|lst (ds:List D)|emp|obj (o:Ob)|dct (ks:OI) (vs:List D)
 deriving Inhabited
def b4q(K:Qq)(t:Value):Prop:=∀T∈(["tuple","list","int","bool","str"]:List String),PySem.W.kitOne K t (.type T)=some false
def SqU(K:Qq)(G:Hp)(a:Addr)(xs:List V):Prop:=G a=some (.tup xs)∨ ∃(o:Obj) (its:Array Value) (n:Nat),K.lookup a=some o/\o.cls=.type "tuple"/\o.dict=none/\o.data=.seq its n/\its.size≤sizeLine/\q3_ xs its.toList
theorem SqU.t{K:Qq}{G:Hp}{a:Addr}{xs:List V}(h:SqU K G a xs):SqT K G a xs:=h.imp (fun e=>.inl e) id
def a2J(K:Qq)(G:Hp):List (Key×V)->List (Str×List Int)->Prop
 |[],[]=>True
 |p::ps,q::qs=>p.1=.inr q.1/\(∃a,p.2=.ref a/\SqU K G a (q.2.map V.int))/\a2J K G ps qs
 |_,_=>False
def a4w(K:Qq)(G:Hp)(v:V):Ob->Prop
 |.exc n=>∃a C HP,v=.ref a/\PySem.W.nsIn K mainGlobals n=some (some (.ref C))/\G a=some (.ext HP)/\PySem.W.KitX K (.ref a) (.ref C) HP/\b4q K (.ref C)
 |.fn n=>∃f,v=.ref f/\PySem.W.nsIn K mainGlobals n=some (some (.ref f))/\PySem.W.KitX K (.ref f) (.type "function") (fun _=>True)
 |.dk kvs=>∃a,v=.ref a/\G a=some (.dK (kvs.map fun p=>(p.1,kV p.2)))
 |.dt kvs=>∃a ps,v=.ref a/\G a=some (.dK ps)/\a2J K G ps kvs
abbrev k0_(k:List Int):List Key:=k.map Sum.inl
def k4_(K:Qq):Addr->List Key->Prop:=fun b k=>SqU K (fun _=>none) b (k.map kV)
mutual
def Rep(K:Qq)(G:Hp):V->D->Prop
 |v,.non=>v=.non
 |v,.bl b=>v=.bl b
 |v,.int i=>v=.int i
 |v,.str x=>v=.str x/\x.length≤sizeLine
 |v,.tup ds=>∃a xs,v=.ref a/\SqU K G a xs/\z6_ K G xs ds
 |v,.lst ds=>∃a xs,v=.ref a/\SqL K G a xs/\z6_ K G xs ds
 |v,.emp=>∃a kvs,v=.ref a/\G a=some (.dK kvs)
 |v,.obj o=>a4w K G v o
 |v,.dct ks vs=>∃a kvs,v=.ref a/\G a=some (.dT (k4_ K) kvs)/\kvs.map (·.1)=ks.map k0_/\z6_ K G (kvs.map (·.2)) vs
def z6_(K:Qq)(G:Hp):List V->List D->Prop
 |xs,[]=>xs=[]
 |xs,d::ds=>∃x r,xs=x::r/\Rep K G x d/\z6_ K G r ds
end
def Le(G G':Hp):Prop:=∀b o,G b=some o->G' b=some o
theorem Le.refl{G:Hp}:Le G G:=fun _ _ e=>e
theorem Le.trans{G G1 G2:Hp}(a:Le G G1)(b:Le G1 G2):Le G G2:=fun x o e=>b x o (a x o e)
theorem Le.upd{G:Hp}{a:Addr}{o:HO}(h:G a=none):Le G (upd G a o):=fun b u e=>by rw[q8_ (g9_ e h)];exact e
theorem Le.sqU{K:Qq}{G G':Hp}(l:Le G G'){a:Addr}{xs:List V}(h:SqU K G a xs):SqU K G' a xs:=h.imp (fun e=>l _ _ e) id
theorem Le.sqT{K:Qq}{G G':Hp}(l:Le G G'){a:Addr}{xs:List V}(h:SqU K G a xs):SqT K G' a xs:=(l.sqU h).t
theorem Le.sqT'{K:Qq}{G G':Hp}(l:Le G G'){a:Addr}{xs:List V}(h:SqT K G a xs):SqT K G' a xs:=by
 rcases h with h|h
 ·rcases h with h|⟨o,h⟩
  ·exact .inl (.inl (l _ _ h))
  ·exact .inl (.inr ⟨o,l _ _ h⟩)
 ·exact .inr h
theorem Le.sqL{K:Qq}{G G':Hp}(l:Le G G'){a:Addr}{xs:List V}(h:SqL K G a xs):SqL K G' a xs:=by
 rcases h with h|h
 ·rcases h with h|⟨o,h⟩
  ·exact .inl (.inl (l _ _ h))
  ·exact .inl (.inr ⟨o,l _ _ h⟩)
 ·exact .inr h
theorem a2J.mono{K:Qq}{G G':Hp}(l:Le G G'):∀{ps:List (Key×V)}{qs:List (Str×List Int)},a2J K G ps qs->a2J K G' ps qs
 |[],[],_=>trivial
 |_::_,_::_,⟨h1,⟨a,h2,h3⟩,h4⟩=>⟨h1,⟨a,h2,l.sqU h3⟩,a2J.mono l h4⟩
theorem a4w.mono{K:Qq}{G G':Hp}(l:Le G G'){v:V}:∀{o:Ob},a4w K G v o->a4w K G' v o
 |.exc n,⟨a,C,HP,h1,h2,h3,h4⟩=>⟨a,C,HP,h1,h2,l _ _ h3,h4⟩
 |.fn n,h=>h
 |.dk kvs,⟨a,h1,h2⟩=>⟨a,h1,l _ _ h2⟩
 |.dt kvs,⟨a,ps,h1,h2,h3⟩=>⟨a,ps,h1,l _ _ h2,h3.mono l⟩
mutual
theorem Rep.mono{K:Qq}{G G':Hp}(l:Le G G'):∀(d:D) {v:V},Rep K G v d->Rep K G' v d
 |.non,_,h=>by simpa only[Rep]using h
 |.bl b,_,h=>by simpa only[Rep]using h
 |.int i,_,h=>by simpa only[Rep]using h
 |.str x,_,h=>by simpa only[Rep]using h
 |.tup ds,_,h=>by
  simp only[Rep]at h ⊢;obtain⟨a,xs,e,q,r⟩:=h;exact⟨a,xs,e,l.sqU q,z6_.mono l ds r⟩
 |.lst ds,_,h=>by
  simp only[Rep]at h ⊢;obtain⟨a,xs,e,q,r⟩:=h;exact⟨a,xs,e,l.sqL q,z6_.mono l ds r⟩
 |.emp,_,h=>by
  simp only[Rep]at h ⊢;obtain⟨a,kvs,e,q⟩:=h;exact⟨a,kvs,e,l _ _ q⟩
 |.obj o,_,h=>by
  simp only[Rep]at h ⊢;exact h.mono l
 |.dct ks vs,_,h=>by
  simp only[Rep]at h ⊢;obtain⟨a,kvs,e,q,k,r⟩:=h;exact⟨a,kvs,e,l _ _ q,k,z6_.mono l vs r⟩
theorem z6_.mono{K:Qq}{G G':Hp}(l:Le G G'):∀(ds:List D) {xs:List V},z6_ K G xs ds->z6_ K G' xs ds
 |[],_,h=>by simpa only[z6_]using h
 |d::ds,_,h=>by
  simp only[z6_]at h ⊢;obtain⟨x,r,e,q,t⟩:=h;exact⟨x,r,e,Rep.mono l d q,z6_.mono l ds t⟩
end
theorem repL_nil{K:Qq}{G:Hp}:z6_ K G [] []:=by simp only[z6_]
theorem repL_cons{K:Qq}{G:Hp}{x:V}{xs:List V}{d:D}{ds:List D}(h:Rep K G x d)(t:z6_ K G xs ds):z6_ K G (x::xs) (d::ds):=by
 simp only[z6_];exact⟨x,xs,rfl,h,t⟩
theorem z6_.length{K:Qq}{G:Hp}:∀{ds:List D}{xs:List V},z6_ K G xs ds->xs.length=ds.length
 |[],_,h=>by simp only[z6_]at h;subst h;rfl
 |d::ds,_,h=>by
  simp only[z6_]at h;obtain⟨x,r,e,q,t⟩:=h;subst e
  simp[z6_.length t]
theorem z6_.append{K:Qq}{G:Hp}:∀{ds es:List D}{xs ys:List V},z6_ K G xs ds->z6_ K G ys es->z6_ K G (xs++ys) (ds++es)
 |[],_,_,_,h,t=>by simp only[z6_]at h;subst h;exact t
 |d::ds,_,_,_,h,t=>by
  simp only[z6_]at h;obtain⟨x,r,e,q,u⟩:=h;subst e;exact repL_cons q (z6_.append u t)
theorem z6_.get{K:Qq}{G:Hp}:∀{ds:List D}{xs:List V}{i:Nat}{d:D},z6_ K G xs ds->ds[i]? =some d->∃x,xs[i]? =some x/\Rep K G x d
 |[],_,i,d,h,e=>by simp at e
 |d::ds,_,i,d',h,e=>by
  simp only[z6_]at h;obtain⟨x,r,e1,q,t⟩:=h;subst e1;cases i with
  |zero=>simp at e;subst e;exact⟨x,rfl,q⟩
  |succ i=>simpa using z6_.get (i:=i) t (by simpa using e)
theorem z6_.get'{K:Qq}{G:Hp}{ds:List D}{xs:List V}{i:Nat}{x:V}(h:z6_ K G xs ds)(e:xs[i]? =some x):∃d,ds[i]? =some d/\Rep K G x d:=by
 have hl:=h.length
 have hi:i<xs.length:=(Qg.mp e).1
 obtain⟨x',e',r⟩:=h.get (i:=i) (d:=ds[i]'(by omega)) (by simp)
 rw[e]at e';cases e';exact⟨_,by simp,r⟩
theorem z6_.take{K:Qq}{G:Hp}:∀{ds:List D}{xs:List V}(n:Nat),z6_ K G xs ds->z6_ K G (xs.take n) (ds.take n)
 |_,_,0,_=>by simp[repL_nil]
 |[],_,n+1,h=>by simp only[z6_]at h;subst h;simp[repL_nil]
 |d::ds,_,n+1,h=>by
  simp only[z6_]at h;obtain⟨x,r,e,q,t⟩:=h;subst e;exact repL_cons q (t.take n)
theorem z6_.drop{K:Qq}{G:Hp}:∀{ds:List D}{xs:List V}(n:Nat),z6_ K G xs ds->z6_ K G (xs.drop n) (ds.drop n)
 |_,_,0,h=>h
 |[],_,n+1,h=>by simp only[z6_]at h;subst h;simp[repL_nil]
 |d::ds,_,n+1,h=>by
  simp only[z6_]at h;obtain⟨x,r,e,q,t⟩:=h;subst e;exact t.drop n
theorem z6_.reverse{K:Qq}{G:Hp}:∀{ds:List D}{xs:List V},z6_ K G xs ds->z6_ K G xs.reverse ds.reverse
 |[],_,h=>by simp only[z6_]at h;subst h;simp[repL_nil]
 |d::ds,_,h=>by
  simp only[z6_]at h;obtain⟨x,r,e,q,t⟩:=h;subst e;simp only[Xv];exact t.reverse.append (repL_cons q repL_nil)
theorem z6_.set{K:Qq}{G:Hp}:∀{ds:List D}{xs:List V}{x:V}{d:D}(n:Nat),z6_ K G xs ds->Rep K G x d->z6_ K G (xs.set n x) (ds.set n d)
 |[],_,_,_,n,h,_=>by simp only[z6_]at h;subst h;simp[repL_nil]
 |d::ds,_,_,_,0,h,q'=>by
  simp only[z6_]at h;obtain⟨x,r,e,q,t⟩:=h;subst e;exact repL_cons q' t
 |d::ds,_,_,_,n+1,h,q'=>by
  simp only[z6_]at h;obtain⟨x,r,e,q,t⟩:=h;subst e;exact repL_cons q (t.set n q')
inductive Mu where
 |l (ds:List D)|d (ks:OI) (vs:List D)
 deriving Inhabited
inductive W where
 |nil|dat (d:D)|own (ds:List D)|par (ds:List D)|ownD (ks:OI) (vs:List D)|parD (ks:OI) (vs:List D)
 deriving Inhabited
abbrev Env':=List W
abbrev OZ:=D->Env'->Option Env'
def W.mut:W->Option Mu
 |.own ds=>some (.l ds)
 |.par ds=>some (.l ds)
 |.ownD ks vs=>some (.d ks vs)
 |.parD ks vs=>some (.d ks vs)
 |_=>none
def W.mutL:W->Option (List D)
 |.own ds=>some ds
 |.par ds=>some ds
 |_=>none
def W.mutD:W->Option (OI×List D)
 |.ownD ks vs=>some (ks,vs)
 |.parD ks vs=>some (ks,vs)
 |_=>none
def W.put:W->List D->W
 |.own _,ds=>.own ds
 |.par _,ds=>.par ds
 |w,_=>w
def W.isOwn:W->Bool
 |.own _=>true
 |.ownD _ _=>true
 |_=>false
def W.isPar:W->Bool
 |.par _=>true
 |.parD _ _=>true
 |_=>false
def W.putM(w:W):Mu->W
 |.l ds=>if w.isOwn then .own ds else if w.isPar then .par ds else w
 |.d ks vs=>if w.isOwn then .ownD ks vs else if w.isPar then .parD ks vs else w
theorem W.mutL_of{w:W}{ds:List D}(h:w.mutL=some ds):w.mut=some (.l ds):=by cases w<;>first|(cases h;rfl)|cases h
theorem W.mutD_of{w:W}{ks:OI}{vs:List D}(h:w.mutD=some (ks,vs)):w.mut=some (.d ks vs):=by cases w<;>first|(cases h;rfl)|cases h
theorem W.put_eq{w:W}{ds:List D}(h:w.mutL=some ds)(ds':List D):w.put ds'=w.putM (.l ds'):=by cases w<;>first|rfl|cases h
theorem W.putM_mut{w:W}{m:Mu}(h:w.mut=some m)(m':Mu):(w.putM m').mut=some m':=by
 cases w<;>cases m'<;>first|rfl|cases h
theorem W.putM_own{w:W}{m:Mu}(h:w.mut=some m)(m':Mu):(w.putM m').isOwn=w.isOwn:=by
 cases w<;>cases m'<;>first|rfl|cases h
theorem W.putM_par{w:W}{m:Mu}(h:w.mut=some m)(m':Mu):(w.putM m').isPar=w.isPar:=by
 cases w<;>cases m'<;>first|rfl|cases h
def Owned(σ:St)(env:Env')(a:Addr):Prop:=∃(i:Nat) (w:W) (m:Mu),env[i]? =some w/\w.mut=some m/\σ[i]? =some (some (V.ref a))
theorem own_mut{w:W}(h:w.isOwn=true):∃m,w.mut=some m:=by cases w<;>first|exact⟨_,rfl⟩|cases h
theorem par_mut{w:W}(h:w.isPar=true):∃m,w.mut=some m:=by cases w<;>first|exact⟨_,rfl⟩|cases h
def NT(o:HO):Prop:=∀ps,o≠.tbl ps
theorem nt_lst{xs:List V}:NT (.lst xs):=fun _ z=>by cases z
theorem nt_tup{xs:List V}:NT (.tup xs):=fun _ z=>by cases z
def lamQ(q:Str):Str:=(q++".<locals>.")++"<lambda>"
def tabQ(K:Qq)(P:Addr)(q:Str):Bool:=K.all fun p=>match p.2 with
 |⟨.type "code",_,.fields vs,_⟩=>(match (vs[11]? :Option Value)with|some (.ref P')=>P' !=P|_=>true)||(match vs.toList with|_::.str n _::_=>n==q|_=>false)
 |_=>true
def LamC(K:Qq)(P a:Addr):HO:=.ext fun h=>∀q,tabQ K P q=true->h.CodeRec (.ref a) (lamQ q)
def TabsOk(K:Qq)(H:Hp):Prop:=∀P ps,H P=some (.tbl ps)->TriplesOk ps.toList/\∀pos v,codeAmong pos ps.toList=some v->∃a,v=.ref a/\H a=some (LamC K P a)
theorem TabsOk.mono{K:Qq}{H H':Hp}(t:TabsOk K H)(h1:∀P ps,H' P=some (.tbl ps)->H P=some (.tbl ps))(h2:∀a φ,H a=some (.ext φ)->H' a=some (.ext φ)):TabsOk K H':=fun P ps e=>by
 obtain⟨q1,q2⟩:=t P ps (h1 P ps e);refine⟨q1,fun pos v e=>?_⟩
 obtain⟨a,e1,e2⟩:=q2 pos v e;exact⟨a,e1,h2 _ _ e2⟩
theorem TabsOk.upd{K:Qq}{H:Hp}(t:TabsOk K H){a:Addr}{o:HO}(no:NT o)(h:∀φ,H a≠some (.ext φ)):TabsOk K (upd H a o):=
 t.mono (fun P ps e=>by
  by_cases hb:P=a
  ·subst hb;rw[y6_]at e;cases e;exact absurd rfl (no ps)
  ·rw[q8_ hb]at e;exact e) fun b φ e=>by
  by_cases hb:b=a
  ·subst hb;exact absurd e (h φ)
  ·rw[q8_ hb];exact e
def RepM(K:Qq)(G:Hp)(o:HO):Mu->Prop
 |.l ds=>∃xs,o=.lst xs/\z6_ K G xs ds
 |.d ks vs=>∃kvs,o=.dT (k4_ K) kvs/\kvs.map (·.1)=ks.map k0_/\z6_ K G (kvs.map (·.2)) vs
theorem RepM.mono{K:Qq}{G G':Hp}(l:Le G G'){o:HO}:∀{m:Mu},RepM K G o m->RepM K G' o m
 |.l ds,⟨xs,e,r⟩=>⟨xs,e,z6_.mono l ds r⟩
 |.d ks vs,⟨kvs,e,k,r⟩=>⟨kvs,e,k,z6_.mono l vs r⟩
theorem RepM.nt{K:Qq}{G:Hp}{o:HO}:∀{m:Mu},RepM K G o m->NT o
 |.l ds,⟨xs,e,r⟩=>by subst e;exact nt_lst
 |.d ks vs,⟨kvs,e,k,r⟩=>by subst e;exact fun _ z=>by cases z
theorem RepM.ne{K:Qq}{G:Hp}{o:HO}{m:Mu}(r:RepM K G o m):∀φ,o≠.ext φ:=by
 cases m with
 |l ds=>obtain⟨xs,e,_⟩:=r;subst e;exact fun _ z=>by cases z
 |d ks vs=>obtain⟨xs,e,_⟩:=r;subst e;exact fun _ z=>by cases z
structure Rel(K:Qq)(B:OA)(G:Hp)(σ:St)(env:Env')(H:Hp):Prop where
 sub:Le G H
 len:env.length=σ.length
 dat:∀(i:Nat) (d:D),env[i]? =some (.dat d)->∃v,σ[i]? =some (some v)/\Rep K G v d
 own:∀(i:Nat) (w:W) (m:Mu),env[i]? =some w->w.mut=some m->∃a o,σ[i]? =some (some (V.ref a))/\H a=some o/\RepM K G o m/\G a=none
 inj:∀(i j:Nat) (w w':W) (ds es:Mu) (a:Addr),env[i]? =some w->w.mut=some ds->env[j]? =some w'->w'.mut=some es->σ[i]? =some (some (V.ref a))->σ[j]? =some (some (V.ref a))->i=j
 fresh:∀(i:Nat) (w:W) (a:Addr),env[i]? =some w->w.isOwn=true->σ[i]? =some (some (V.ref a))-> ¬ B a
 old:∀b,B b->H b≠none
 tabs:TabsOk K H
 gnt:∀b o,G b=some o->NT o
structure Ev(K:Qq)(B:OA)(G:Hp)(σ:St)(env:Env')(H:Hp)(G':Hp)(σ':St)(env':Env')(H':Hp):Prop where
 rel:Rel K B G' σ' env' H'
 same:Le G G'
 keep:∀b o,¬ Owned σ env b->NT o->H b=some o->H' b=some o
 live:∀b,H b≠none->H' b≠none
 stay:∀b,H b≠none-> ¬ Owned σ env b->G b=none->G' b=none
 sub:∀a,Owned σ' env' a->Owned σ env a∨H a=none
 par:∀(i:Nat) (w:W),env'[i]? =some w->w.isPar=true->σ'[i]? =σ[i]? /\ ∃w0,env[i]? =some w0/\w0.isPar=true
 slen:σ'.length=σ.length
theorem Ev.refl{K:Qq}{B:OA}{G:Hp}{σ:St}{env:Env'}{H:Hp}(r:Rel K B G σ env H):Ev K B G σ env H G σ env H:=
 ⟨r,Le.refl,fun _ _ _ _ e=>e,fun _ e=>e,fun _ _ _ e=>e,fun _ e=>.inl e,fun _ w e h=>⟨rfl,w,e,h⟩,rfl⟩
theorem Ev.trans{K:Qq}{B:OA}{G G1 G2:Hp}{σ σ1 σ2:St}{env env1 env2:Env'}{H H1 H2:Hp}(a:Ev K B G σ env H G1 σ1 env1 H1)(b:Ev K B G1 σ1 env1 H1 G2 σ2 env2 H2):Ev K B G σ env H G2 σ2 env2 H2 where
 rel:=b.rel
 same:=a.same.trans b.same
 keep:=fun x o n t e=>b.keep x o (fun z=>(a.sub x z).elim n fun q=>by rw[e]at q;cases q) t (a.keep x o n t e)
 live:=fun x e=>b.live x (a.live x e)
 stay:=fun x e n g=>b.stay x (a.live x e) (fun z=>(a.sub x z).elim n fun q=>e q) (a.stay x e n g)
 sub:=fun x z=>(b.sub x z).elim (fun q=>a.sub x q) fun q=>.inr (by
  cases h:H x with
  |none=>rfl
  |some o=>exact absurd q (a.live x (by rw[h];simp)))
 par:=fun i w e h=>by
  obtain⟨h1,d1,e1,p1⟩:=b.par i w e h;obtain⟨h2,d2,e2,p2⟩:=a.par i d1 e1 p1;exact⟨h1.trans h2,d2,e2,p2⟩
 slen:=b.slen.trans a.slen
theorem Rel.ownL{K:Qq}{B:OA}{G:Hp}{σ:St}{env:Env'}{H:Hp}(r:Rel K B G σ env H)(i:Nat)(w:W)(ds:List D)(e1:env[i]? =some w)(e2:w.mutL=some ds):∃a xs,σ[i]? =some (some (V.ref a))/\H a=some (.lst xs)/\z6_ K G xs ds/\G a=none:=by
 obtain⟨a,o,h1,h2,⟨xs,rfl,h3⟩,h4⟩:=r.own i w (.l ds) e1 (W.mutL_of e2);exact⟨a,xs,h1,h2,h3,h4⟩
theorem Rel.ownD{K:Qq}{B:OA}{G:Hp}{σ:St}{env:Env'}{H:Hp}(r:Rel K B G σ env H)(i:Nat)(w:W)(ks:OI)(vs:List D)(e1:env[i]? =some w)(e2:w.mutD=some (ks,vs)):∃a kvs,σ[i]? =some (some (V.ref a))/\H a=some (.dT (k4_ K) kvs)/\kvs.map (·.1)=ks.map k0_/\z6_ K G (kvs.map (·.2)) vs/\G a=none:=by
 obtain⟨a,o,h1,h2,⟨kvs,rfl,h3,h4⟩,h5⟩:=r.own i w (.d ks vs) e1 (W.mutD_of e2);exact⟨a,kvs,h1,h2,h3,h4,h5⟩
abbrev Mo(α:Type):=Env'->Option (α×Env')
section
variable(K:Qq)(B:OA)
def TD(m:Mo D):TE:=fun σ H Q=>∃G env d env',Rel K B G σ env H/\m env=some (d,env')/\∀v G' H',Ev K B G σ env H G' σ env' H'->Rep K G' v d->Q v H'
def TL(m:Mo (List D)):TE:=fun σ H Q=>∃G env ds env',Rel K B G σ env H/\m env=some (ds,env')/\∀a xs G' H',Ev K B G σ env H G' σ env' H'->H a=none-> ¬ Owned σ env' a->H' a=some (.lst xs)->G' a=none->z6_ K G' xs ds->Q (.ref a) H'
def TTm(m:Mo Bool):TT:=fun σ H Q=>∃G env b env',Rel K B G σ env H/\m env=some (b,env')/\∀G' H',Ev K B G σ env H G' σ env' H'->Q b H'
inductive Ar where
 |d (d:D)|sl (i:Nat)
 deriving Inhabited
def RepA(G:Hp)(σ:St):List V->List Ar->Prop
 |xs,[]=>xs=[]
 |xs,.d d::as=>∃x r,xs=x::r/\Rep K G x d/\RepA G σ r as
 |xs,.sl i::as=>∃x r,xs=x::r/\σ[i]? =some (some x)/\RepA G σ r as
def TAm(m:Mo (List Ar)):TA:=fun σ H Q=>∃G env as env',Rel K B G σ env H/\m env=some (as,env')/\∀vs G' H',Ev K B G σ env H G' σ env' H'->RepA K G' σ vs as->Q vs H'
def TDs(m:Mo (List D)):TA:=fun σ H Q=>∃G env ds env',Rel K B G σ env H/\m env=some (ds,env')/\∀vs G' H',Ev K B G σ env H G' σ env' H'->z6_ K G' vs ds->Q vs H'
inductive Fl where
 |nx|bk|ct|ret (d:D)|retL (ds:List D)
def Post(G:Hp)(σ:St)(env:Env')(H:Hp)(env':Env')(D:Ends):Fl->Prop
 |.nx=>∀σ' G' H',Ev K B G σ env H G' σ' env' H'->D.nx σ' H'
 |.bk=>∀σ' G' H',Ev K B G σ env H G' σ' env' H'->D.bk σ' H'
 |.ct=>∀σ' G' H',Ev K B G σ env H G' σ' env' H'->D.ct σ' H'
 |.ret d=>∀v σ' G' H',Ev K B G σ env H G' σ' env' H'->Rep K G' v d->D.rt v H'
 |.retL ds=>∀a xs σ' G' H',Ev K B G σ env H G' σ' env' H'-> ¬ B a-> ¬ Owned σ' env' a->H' a=some (.lst xs)->G' a=none->z6_ K G' xs ds->D.rt (.ref a) H'
def TSm(m:Mo Fl):TS:=fun D σ H=>∃G env fl env',Rel K B G σ env H/\m env=some (fl,env')/\Post K B G σ env H env' D fl
theorem Post.after{G G1:Hp}{σ σ1:St}{env env1 env':Env'}{H H1:Hp}{D:Ends}{fl:Fl}(k:Post K B G σ env H env' D fl)(ev:Ev K B G σ env H G1 σ1 env1 H1):Post K B G1 σ1 env1 H1 env' D fl:=by
 cases fl with
 |nx=>exact fun σ2 G2 H2 ev2=>k σ2 G2 H2 (ev.trans ev2)
 |bk=>exact fun σ2 G2 H2 ev2=>k σ2 G2 H2 (ev.trans ev2)
 |ct=>exact fun σ2 G2 H2 ev2=>k σ2 G2 H2 (ev.trans ev2)
 |ret d=>exact fun v σ2 G2 H2 ev2=>k v σ2 G2 H2 (ev.trans ev2)
 |retL d=>exact fun a xs σ2 G2 H2 ev2=>k a xs σ2 G2 H2 (ev.trans ev2)
end
abbrev ED(X:Cx)(B:OA)(e:Expr)(m:Mo D):Prop:=PE X e (TD X.K B m)
abbrev EL(X:Cx)(B:OA)(e:Expr)(m:Mo (List D)):Prop:=PE X e (TL X.K B m)
abbrev ET(X:Cx)(B:OA)(e:Expr)(m:Mo Bool):Prop:=PT X e (TTm X.K B m)
abbrev EAr(X:Cx)(B:OA)(es:List Expr)(m:Mo (List Ar)):Prop:=PA X es (TAm X.K B m)
abbrev EDs(X:Cx)(B:OA)(es:List Expr)(m:Mo (List D)):Prop:=PA X es (TDs X.K B m)
abbrev ES(X:Cx)(B:OA)(s:Stmt)(m:Mo Fl):Prop:=PS X s (TSm X.K B m)
abbrev ESs(X:Cx)(B:OA)(s:List Stmt)(m:Mo Fl):Prop:=PSs X s (TSm X.K B m)
theorem pe_imp{X:Cx}{e:Expr}{t t':TE}(h:PE X e t)(i:∀σ H Q,t' σ H Q->t σ H Q):PE X e t':=fun pins s σ H Q I q=>h pins s σ H Q I (i σ H Q q)
theorem pt_imp{X:Cx}{e:Expr}{t t':TT}(h:PT X e t)(i:∀σ H Q,t' σ H Q->t σ H Q):PT X e t':=fun pins s σ H Q I q=>h pins s σ H Q I (i σ H Q q)
theorem pw_imp{X:Cx}{e:Expr}{t t':TT}(h:PW X e t)(i:∀σ H Q,t' σ H Q->t σ H Q):PW X e t':=fun wh pins s σ H Q I q=>h wh pins s σ H Q I (i σ H Q q)
theorem pa_imp{X:Cx}{e:List Expr}{t t':TA}(h:PA X e t)(i:∀σ H Q,t' σ H Q->t σ H Q):PA X e t':=fun pos pins s σ H Q I q=>h pos pins s σ H Q I (i σ H Q q)
theorem ps_imp{X:Cx}{e:Stmt}{t t':TS}(h:PS X e t)(i:∀D σ H,t' D σ H->t D σ H):PS X e t':=fun pins s σ H D I q=>h pins s σ H D I (i D σ H q)
theorem pss_imp{X:Cx}{e:List Stmt}{t t':TS}(h:PSs X e t)(i:∀D σ H,t' D σ H->t D σ H):PSs X e t':=fun pins s σ H D I q=>h pins s σ H D I (i D σ H q)
section
variable{K:Qq}{B:OA}{G G':Hp}{σ σ':St}{env env':Env'}{H H':Hp}
theorem Rel.gnone(r:Rel K B G σ env H){p:Addr}(h:H p=none):G p=none:=by
 cases e:G p with
 |none=>rfl
 |some o=>rw[r.sub p o e]at h;cases h
theorem Rel.unowned(r:Rel K B G σ env H){p:Addr}(h:H p=none):¬ Owned σ env p:=by
 rintro⟨i,w,ds,e1,e2,e3⟩;obtain⟨a,xs,e4,e5,_⟩:=r.own i w ds e1 e2;rw[e3]at e4;cases e4;rw[h]at e5;cases e5
theorem a5Y{G:Hp}{p:Addr}{o:HO}(h:∀b o,G b=some o->NT o)(no:NT o):∀b u,upd G p o b=some u->NT u:=fun b u e=>by
 by_cases hb:b=p
 ·subst hb;rw[y6_]at e;cases e;exact no
 ·rw[q8_ hb]at e;exact h b u e
theorem Rel.alloc(r:Rel K B G σ env H){p:Addr}{o:HO}(h:H p=none)(no:NT o:=by intro _ z;cases z):Ev K B G σ env H (upd G p o) σ env (upd H p o):=by
 have gp:=r.gnone h
 refine⟨⟨fun b u e=>?_,r.len,fun i d e=>?_,fun i w ds e1 e2=>?_,r.inj,r.fresh,fun b e=>?_,r.tabs.upd no (fun φ z=>by rw[h]at z;cases z),a5Y r.gnt no⟩,Le.upd gp,fun b u _ _ e=>?_,fun b e=>?_,fun b e _ g=>?_,fun a z=>.inl z,fun i w e hp=>⟨rfl,w,e,hp⟩,rfl⟩
 ·by_cases hb:b=p
  ·subst hb;rw[y6_]at e ⊢;exact e
  ·rw[q8_ hb]at e ⊢;exact r.sub b u e
 ·obtain⟨v,e1,e2⟩:=r.dat i d e
  exact⟨v,e1,Rep.mono (Le.upd gp) d e2⟩
 ·obtain⟨a,xs,e3,e4,e5,e6⟩:=r.own i w ds e1 e2
  have ha:a≠p:=g9_ e4 h
  exact⟨a,xs,e3,by rw[q8_ ha];exact e4,e5.mono (Le.upd gp),by rw[q8_ ha];exact e6⟩
 ·by_cases hb:b=p
  ·subst hb;rw[y6_];simp
  ·rw[q8_ hb];exact r.old b e
 ·rw[q8_ (g9_ e h)];exact e
 ·by_cases hb:b=p
  ·subst hb;rw[y6_];simp
  ·rw[q8_ hb];exact e
 ·have hb:b≠p:=fun z=>e (z ▸ h)
  rw[q8_ hb];exact g
theorem Rel.allocM(r:Rel K B G σ env H){p:Addr}{o:HO}(h:H p=none)(no:NT o:=by intro _ z;cases z):Ev K B G σ env H G σ env (upd H p o):=by
 refine⟨⟨fun b u e=>?_,r.len,r.dat,fun i w ds e1 e2=>?_,r.inj,r.fresh,fun b e=>?_,r.tabs.upd no (fun φ z=>by rw[h]at z;cases z),r.gnt⟩,Le.refl,fun b u _ _ e=>?_,fun b e=>?_,fun b e _ g=>g,fun a z=>.inl z,fun i w e hp=>⟨rfl,w,e,hp⟩,rfl⟩
 ·rw[q8_ (g9_ (r.sub b u e) h)];exact r.sub b u e
 ·obtain⟨a,xs,e3,e4,e5,e6⟩:=r.own i w ds e1 e2
  exact⟨a,xs,e3,by rw[q8_ (g9_ e4 h)];exact e4,e5,e6⟩
 ·by_cases hb:b=p
  ·subst hb;rw[y6_];simp
  ·rw[q8_ hb];exact r.old b e
 ·rw[q8_ (g9_ e h)];exact e
 ·by_cases hb:b=p
  ·subst hb;rw[y6_];simp
  ·rw[q8_ hb];exact e
theorem Ev.frz{a:Addr}{xs:List V}(v:Ev K B G σ env H G' σ' env' H')(ha:H a=none)(no:¬ Owned σ' env' a)(h':H' a=some (.lst xs))(g':G' a=none):
  Ev K B G σ env H (upd G' a (.lst xs)) σ' env' H':=by
 refine⟨⟨fun b u e=>?_,v.rel.len,fun i d e=>?_,fun i w ds e1 e2=>?_,v.rel.inj,v.rel.fresh,v.rel.old,v.rel.tabs,a5Y v.rel.gnt nt_lst⟩,v.same.trans (Le.upd g'),v.keep,v.live,fun b e n g=>?_,v.sub,v.par,v.slen⟩
 ·by_cases hb:b=a
  ·subst hb;rw[y6_]at e;cases e;exact h'
  ·rw[q8_ hb]at e;exact v.rel.sub b u e
 ·obtain⟨x,e1,e2⟩:=v.rel.dat i d e
  exact⟨x,e1,Rep.mono (Le.upd g') d e2⟩
 ·obtain⟨p,ys,e3,e4,e5,e6⟩:=v.rel.own i w ds e1 e2
  have hp:p≠a:=fun z=>no ⟨i,w,ds,e1,e2,by rw[←z];exact e3⟩
  exact⟨p,ys,e3,e4,e5.mono (Le.upd g'),by rw[q8_ hp];exact e6⟩
 ·have hb:b≠a:=fun z=>e (z ▸ ha)
  rw[q8_ hb];exact v.stay b e n g
theorem a5Z{a:Addr}{xs:List V}{ds:List D}(h:G a=some (.lst xs))(r:z6_ K G xs ds):Rep K G (.ref a) (.lst ds):=by
 simp only[Rep];exact⟨a,xs,rfl,.inl (.inl h),r⟩
theorem a2K{a:Addr}{xs:List V}{ds:List D}(h:G a=some (.tup xs))(r:z6_ K G xs ds):Rep K G (.ref a) (.tup ds):=by
 simp only[Rep];exact⟨a,xs,rfl,.inl h,r⟩
theorem Rel.frzSlotM{i:Nat}{w0:W}{m:Mu}{d:D}(r:Rel K B G σ env H)(e:env[i]? =some w0)(em:w0.mut=some m)(hrep:∀G1 a o,G1 a=some o->RepM K G1 o m->Rep K G1 (.ref a) d):
  ∃a o,σ[i]? =some (some (.ref a))/\Rep K (upd G a o) (.ref a) d/\Ev K B G σ env H (upd G a o) σ (env.set i (.dat d)) H:=by
 obtain⟨a,o,e1,e2,e3,e4⟩:=r.own i _ m e em;have rp:Rep K (upd G a o) (.ref a) d:=hrep _ a o y6_ (e3.mono (Le.upd e4));have ow:Owned σ env a:=⟨i,_,m,e,em,e1⟩;have hi:i<env.length:=(Qg.mp e).1;have ne:∀j w es,(env.set i (.dat d))[j]? =some w->w.mut=some es->j≠i/\env[j]? =some w:=fun j w es q1 q2=>by
  by_cases hj:j=i
  ·subst hj;rw[Yb hi]at q1;cases q1;cases q2
  ·rw[Ql (Zn hj)]at q1;exact⟨hj,q1⟩
 refine⟨a,o,e1,rp,⟨⟨fun b u q=>?_,by rw[Zl];exact r.len,fun j d q=>?_,fun j w es q1 q2=>?_,fun j k w w' es fs b q1 q2 q3 q4 q5 q6=>?_,fun j w b q1 qo q2=>?_,r.old,r.tabs,a5Y r.gnt e3.nt⟩,Le.upd e4,fun b o _ _ q=>q,fun b q=>q,fun b q n g=>?_,fun b z=>?_,fun j w q qp=>?_,rfl⟩⟩
 ·by_cases hb:b=a
  ·subst hb;rw[y6_]at q;cases q;exact e2
  ·rw[q8_ hb]at q;exact r.sub b u q
 ·by_cases hj:j=i
  ·subst hj;rw[Yb hi]at q;cases q;exact⟨_,e1,rp⟩
  ·rw[Ql (Zn hj)]at q
   obtain⟨x,q1,q2⟩:=r.dat j d q;exact⟨x,q1,Rep.mono (Le.upd e4) d q2⟩
 ·obtain⟨hj,q⟩:=ne j w es q1 q2
  obtain⟨p,ys,e3',e4',e5',e6'⟩:=r.own j w es q q2;have hp:p≠a:=fun z=>hj (r.inj j i w _ es m a q q2 e em (by rw[e3',z]) e1)
  exact⟨p,ys,e3',e4',e5'.mono (Le.upd e4),by rw[q8_ hp];exact e6'⟩
 ·exact r.inj j k w w' es fs b (ne j w es q1 q2).2 q2 (ne k w' fs q3 q4).2 q4 q5 q6
 ·obtain⟨es,hm⟩:=own_mut qo
  exact r.fresh j w b (ne j _ es q1 hm).2 qo q2
 ·have hb:b≠a:=fun z=>n (z ▸ ow)
  rw[q8_ hb];exact g
 ·obtain⟨j,w,es,q1,q2,q3⟩:=z
  exact .inl ⟨j,w,es,(ne j w es q1 q2).2,q2,q3⟩
 ·obtain⟨es,hm⟩:=par_mut qp
  exact⟨rfl,w,(ne j _ es q hm).2,qp⟩
theorem Rel.frzSlot{i:Nat}{ds:List D}(r:Rel K B G σ env H)(e:env[i]? =some (.own ds)):
  ∃a o,σ[i]? =some (some (.ref a))/\Rep K (upd G a o) (.ref a) (.lst ds)/\Ev K B G σ env H (upd G a o) σ (env.set i (.dat (.lst ds))) H:=
 r.frzSlotM (m:=.l ds) e rfl fun G1 a o h ⟨xs,z,q⟩=>by subst z;exact a5Z h q
theorem Rel.frzSlotD{i:Nat}{ks:OI}{vs:List D}(r:Rel K B G σ env H)(e:env[i]? =some (.ownD ks vs)):
  ∃a o,σ[i]? =some (some (.ref a))/\Rep K (upd G a o) (.ref a) (.dct ks vs)/\Ev K B G σ env H (upd G a o) σ (env.set i (.dat (.dct ks vs))) H:=
 r.frzSlotM (m:=.d ks vs) e rfl fun G1 a o h ⟨kvs,z,q1,q2⟩=>by subst z;simp only[Rep];exact⟨a,kvs,rfl,h,q1,q2⟩
end
def z0_(i:Nat):Mo D:=fun env=>match env[i]? with
 |some (.dat d)=>some (d,env)
 |some (.own ds)=>some (.lst ds,env.set i (.dat (.lst ds)))
 |some (.ownD ks vs)=>some (.dct ks vs,env.set i (.dat (.dct ks vs)))
 |_=>none
def mC(d:D):Mo D:=fun env=>some (d,env)
section
variable{X:Cx}{B:OA}{pos:Pos}
theorem z3_{i:Nat}{x:Str}(h:PE X (.Name x pos) (a0o i)):ED X B (.Name x pos) (z0_ i):=by
 refine pe_imp h fun σ H Q q=>?_
 obtain⟨G,env,d,env',r,e,k⟩:=q;unfold z0_ at e;split at e
 ·rename_i d' e1
  cases e;obtain⟨v,e2,e3⟩:=r.dat i _ e1;exact⟨v,e2,k v G H (.refl r) e3⟩
 ·rename_i ds e1
  cases e;obtain⟨a,xs,e2,e3,e4⟩:=r.frzSlot e1;exact⟨_,e2,k _ _ H e4 e3⟩
 ·rename_i ks vs e1
  cases e;obtain⟨a,xs,e2,e3,e4⟩:=r.frzSlotD e1;exact⟨_,e2,k _ _ H e4 e3⟩
 ·cases e
theorem a4x{e:Expr}{v:V}{d:D}(h:PE X e (tC v))(hd:∀K G,Rep K G v d):ED X B e (mC d):=by
 refine pe_imp h fun σ H Q q=>?_
 obtain⟨G,env,d',env',r,e,k⟩:=q;cases e;exact k v G H (.refl r) (hd _ _)
theorem q4_{i:Int}{j:Nat}:ED X B (.Constant (.int i) j pos) (mC (.int i)):=a4x b2x fun _ _=>by simp only[Rep]
theorem a1G{b:Bool}{j:Nat}:ED X B (.Constant (.bool b) j pos) (mC (.bl b)):=a4x a8m fun _ _=>by simp only[Rep]
theorem b4r{x:Str}{j:Nat}(hx:x.length≤1000):ED X B (.Constant (.str x) j pos) (mC (.str x)):=a4x b2y fun _ _=>by simp only[Rep];exact⟨trivial,Jg (a4t hx)⟩
theorem b4s{x:Str}{i:Int}{t:Tok}(hg:Gl X x)(hm:X.mg x=some (.int i t))(hd:(x==("__debug__":Str))=false:=by decide):ED X B (.Name x pos) (mC (.int i)):=
 a4x (b2z (v:=.int i) hg hm ⟨t,rfl⟩ hd) fun _ _=>by simp only[Rep]
def z5_(f:D->D->Option D)(ma mb:Mo D):Mo D:=fun env=>(ma env).bind fun p=>(mb p.2).bind fun q=>(f p.1 q.1).map fun d=>(d,q.2)
def OpD(X:Cx)(B:OA)(r:R2)(f:D->D->Option D):Prop:=
 ∀(G:Hp) (σ:St) (env:Env') (H:Hp) (x y:V) (a b c:D) (Q:VK),Rel X.K B G σ env H->Rep X.K G x a->Rep X.K G y b->f a b=some c->
  (∀v G' H',Ev X.K B G σ env H G' σ env H'->Rep X.K G' v c->Q v H')->r x y H Q
theorem a4y{r:R2}{f:D->D->Option D}{ma mb:Mo D}(o:OpD X B r f):∀σ H Q,TD X.K B (z5_ f ma mb) σ H Q->tOp r (TD X.K B ma) (TD X.K B mb) σ H Q:=by
 rintro σ H Q ⟨G,env,d,env',rl,e,k⟩;unfold z5_ at e;cases ea:ma env with
 |none=>rw[ea]at e;cases e
 |some p=>
  obtain⟨d1,env1⟩:=p;rw[ea]at e;simp only[Qj]at e;cases eb:mb env1 with
  |none=>rw[eb]at e;cases e
  |some p=>
   obtain⟨d2,env2⟩:=p;rw[eb]at e;simp only[Qj]at e;cases ef:f d1 d2 with
   |none=>rw[ef]at e;cases e
   |some c=>
    rw[ef]at e;cases e;refine⟨G,env,d1,env1,rl,ea,fun v1 G1 H1 v r1=>⟨G1,env1,d2,_,v.rel,eb,fun v2 G2 H2 v' r2=>?_⟩⟩
    exact o G2 σ _ H2 v1 v2 d1 d2 _ Q v'.rel (Rep.mono v'.same _ r1) r2 ef fun v3 G3 H3 v3' r3=>k v3 G3 H3 ((v.trans v').trans v3') r3
theorem v9_{op:Operator}{r:R2}{f:D->D->Option D}{a b:Expr}{ma mb:Mo D}(ho:OpR X (binaryOp op) r)(o:OpD X B r f)(ha:ED X B a ma)(hb:ED X B b mb):ED X B (.BinOp a op b pos) (z5_ f ma mb):=
 pe_imp (a8s ho ha hb) (a4y o)
theorem a4z{op:CmpOp}{r:R2}{f:D->D->Option D}{a b:Expr}{ma mb:Mo D}(ho:OpR X (compareOp op) r)(o:OpD X B r f)(ha:ED X B a ma)(hb:ED X B b mb)(hm:behindInMarks op b=false):ED X B (.Compare a [op] [b] pos) (z5_ f ma mb):=
 pe_imp (b3A ho ha hb hm) (a4y o)
def fI(C:Int->Int->Bool)(g:Int->Int->D):D->D->Option D
 |.int i,.int j=>if C i j then some (g i j)else none
 |_,_=>none
theorem a3y{C:Int->Int->Prop}{c:Int->Int->Bool}{g:Int->Int->V}{g':Int->Int->D}(hc:∀i j,c i j=true->C i j)(hg:∀K G i j,Rep K G (g i j) (g' i j)):OpD X B (rI C g) (fI c g'):=by
 intro G σ env H x y a b d Q rl ra rb e k;cases a<;>cases b<;>first|(exact absurd (show(none:Option D)=some d from e) (by simp))|skip
 rename_i i j;simp only[Rep]at ra rb;subst ra rb;simp only[fI]at e;split at e
 ·rename_i h
  cases e;exact⟨i,j,rfl,rfl,hc i j h,k _ G H (.refl rl) (hg _ _ i j)⟩
 ·cases e
theorem a2L{g:Int->Int->V}{g':Int->Int->D}(hg:∀K G i j,Rep K G (g i j) (g' i j)):OpD X B (rI0 g) (fI (fun _ _=>true) g'):=by
 intro G σ env H x y a b d Q rl ra rb e k;cases a<;>cases b<;>first|(exact absurd (show(none:Option D)=some d from e) (by simp))|skip
 rename_i i j;simp only[Rep]at ra rb;subst ra rb;simp only[fI,Zh]at e;cases e;exact⟨i,j,rfl,rfl,k _ G H (.refl rl) (hg _ _ i j)⟩
theorem OpR.or{f:Value->Value->Sem Value}{r r':R2}(h:OpR X f r)(h':OpR X f r'):OpR X f (fun x y H Q=>r x y H Q∨r' x y H Q):=by
 intro pins s σ H x y v u Q I rx ry q
 rcases q with q|q
 ·exact h pins s σ H x y v u Q I rx ry q
 ·exact h' pins s σ H x y v u Q I rx ry q
def fOr(f g:D->D->Option D):D->D->Option D:=fun a b=>match f a b with
 |some c=>some c
 |none=>g a b
theorem OpD.or{r r':R2}{f g:D->D->Option D}(h:OpD X B r f)(h':OpD X B r' g):OpD X B (fun x y H Q=>r x y H Q∨r' x y H Q) (fOr f g):=by
 intro G σ env H x y a b d Q rl ra rb e k;unfold fOr at e;split at e
 ·rename_i c ec
  cases e;exact .inl (h G σ env H x y a b _ Q rl ra rb ec k)
 ·exact .inr (h' G σ env H x y a b d Q rl ra rb e k)
def a2h(i j:Int):Bool:=(decide (-(2^64)<i)&&decide (i<2^64))||(decide (-(2^64)<j)&&decide (j<2^64))
def a4A(_ j:Int):Bool:=decide (0<j)&&decide (j<1073741824)
def a4B(i j:Int):Bool:=decide (0≤j)&&decide (j≤1000000)&&decide (i.natAbs<2^64)
def a2M:=fI (fun _ _=>true) fun i j=>.int (i-j)
def a6a:=fI a2h fun i j=>.int (i * j)
def a3z:=fI a4A fun i j=>.int (i/j)
def u0_:=fI (fun _ j=>decide (0<j)) fun i j=>.int (i%j)
def a1H:=fI a4B fun i j=>.int (i^j.toNat)
def a8Y:=fI (fun _ _=>true) fun i j=>.int (i+j)
def dLt:=fI (fun _ _=>true) fun i j=>.bl (decide (i<j))
def dLe:=fI (fun _ _=>true) fun i j=>.bl (decide (i≤j))
def dGt:=fI (fun _ _=>true) fun i j=>.bl (decide (j<i))
def dGe:=fI (fun _ _=>true) fun i j=>.bl (decide (j≤i))
theorem a8Z:OpD X B (rI0 fun i j=>.int (i-j)) a2M:=a2L fun _ _ _ _=>by simp only[Rep]
theorem b4t:OpD X B (rI0 fun i j=>.int (i+j)) a8Y:=a2L fun _ _ _ _=>by simp only[Rep]
theorem b4u:OpD X B (rI a2c fun i j=>.int (i * j)) a6a:=a3y (fun i j h=>by simpa [a2c,a2h]using h) fun _ _ _ _=>by simp only[Rep]
theorem a9a:OpD X B (rI a5N fun i j=>.int (i/j)) a3z:=a3y (fun i j h=>by simpa [a5N,a4A]using h) fun _ _ _ _=>by simp only[Rep]
theorem a1I:OpD X B (rI (fun _ j=>0<j) fun i j=>.int (i%j)) u0_:=a3y (fun i j h=>by simpa using h) fun _ _ _ _=>by simp only[Rep]
theorem a9b:OpD X B (rI a5O fun i j=>.int (i^j.toNat)) a1H:=a3y (fun i j h=>by simpa [a5O,a4B,and_assoc]using h) fun _ _ _ _=>by simp only[Rep]
theorem a6b:OpD X B (rI0 fun i j=>.bl (decide (i<j))) dLt:=a2L fun _ _ _ _=>by simp only[Rep]
theorem a9c:OpD X B (rI0 fun i j=>.bl (decide (i≤j))) dLe:=a2L fun _ _ _ _=>by simp only[Rep]
theorem a9d:OpD X B (rI0 fun i j=>.bl (decide (j<i))) dGt:=a2L fun _ _ _ _=>by simp only[Rep]
theorem b4v:OpD X B (rI0 fun i j=>.bl (decide (j≤i))) dGe:=a2L fun _ _ _ _=>by simp only[Rep]
end
section
variable{X:Cx}{B:OA}{pos:Pos}{a b c e:Expr}{ma mb mc:Mo D}{ta tb:Mo Bool}
theorem TD.bind{K:Qq}{m:Mo D}{σ:St}{H:Hp}{Q:VK}{G:Hp}{env env':Env'}{d:D}(r:Rel K B G σ env H)(e:m env=some (d,env'))
  (k:∀v G' H',Ev K B G σ env H G' σ env' H'->Rep K G' v d->Q v H'):TD K B m σ H Q:=⟨G,env,d,env',r,e,k⟩
def asB:D×Env'->Option (Bool×Env')
 |(.bl b,e)=>some (b,e)
 |_=>none
def mT(m:Mo D):Mo Bool:=fun env=>(m env).bind asB
theorem a9e{t:TE}{m:Mo D}(i:∀σ H Q,TD X.K B m σ H Q->t σ H Q)(mono:True):∀σ H Q,TTm X.K B (mT m) σ H Q->(fun σ H (Q:Bool->Hp->Prop)=>t σ H fun x H'=>∃k,x=.bl k/\Q k H') σ H Q:=by
 rintro σ H Q ⟨G,env,b,env',rl,e,k⟩;unfold mT at e;cases em:m env with
 |none=>rw[em]at e;cases e
 |some p=>
  obtain⟨d,env1⟩:=p;rw[em]at e;simp only[Qj]at e;cases d<;>first|(exact absurd (show(none:Option (Bool×Env'))=some (b,env')from e) (by simp))|skip
  cases e;refine i σ H _ (.bind rl em fun v G' H' ev r=>?_)
  simp only[Rep]at r;exact⟨_,r,k G' H' ev⟩
theorem a2i(h:ED X B e ma)(he:∀whole,isTrue e X.env whole=(do let v←whole;standAt e.pos;holding [v] (truthy v)):=by intro _;rfl):ET X B e (mT ma):=
 pt_imp (b2B h he) (a9e (fun _ _ _ q=>q) trivial)
theorem k5_{op:CmpOp}{r:R2}{f:D->D->Option D}(ho:OpR X (compareOp op) r)(o:OpD X B r f)(ha:ED X B a ma)(hb:ED X B b mb)(hm:behindInMarks op b=false):ET X B (.Compare a [op] [b] pos) (mT (z5_ f ma mb)):=
 pt_imp (b3C ho ha hb hm) (a9e (a4y o) trivial)
def u8_(t:Mo Bool):Mo Bool:=fun env=>(t env).map fun p=>(!p.1,p.2)
theorem a3A(h:ET X B a ta):ET X B (.UnaryOp .Not a pos) (u8_ ta):=by
 refine pt_imp (b2H h) ?_
 rintro σ H Q ⟨G,env,b,env',rl,e,k⟩;unfold u8_ at e;cases em:ta env with
 |none=>rw[em]at e;cases e
 |some p=>rw[em]at e;cases e;exact⟨G,env,_,_,rl,em,k⟩
def a2N(t u:Mo Bool):Mo Bool:=fun env=>(t env).bind fun p=>if p.1 then u p.2 else some (false,p.2)
def a0f(t u:Mo Bool):Mo Bool:=fun env=>(t env).bind fun p=>if p.1 then some (true,p.2)else u p.2
theorem b4w:∀σ H Q,TTm X.K B (a2N ta tb) σ H Q->a8o (TTm X.K B ta) (TTm X.K B tb) σ H Q:=by
 rintro σ H Q ⟨G,env,b,env',rl,e,k⟩;unfold a2N at e;cases em:ta env with
 |none=>rw[em]at e;cases e
 |some p=>
  obtain⟨b1,env1⟩:=p;rw[em]at e;simp only[Qj]at e;refine⟨G,env,b1,env1,rl,em,fun G1 H1 ev=>?_⟩
  cases b1 with
  |true=>
   simp only[Zh]at e ⊢;exact⟨G1,env1,b,env',ev.rel,e,fun G2 H2 ev2=>k G2 H2 (ev.trans ev2)⟩
  |false=>
   simp only[Zz,Yw]at e ⊢;cases e;exact k G1 H1 ev
theorem b4x:∀σ H Q,TTm X.K B (a0f ta tb) σ H Q->tOr (TTm X.K B ta) (TTm X.K B tb) σ H Q:=by
 rintro σ H Q ⟨G,env,b,env',rl,e,k⟩;unfold a0f at e;cases em:ta env with
 |none=>rw[em]at e;cases e
 |some p=>
  obtain⟨b1,env1⟩:=p;rw[em]at e;simp only[Qj]at e;refine⟨G,env,b1,env1,rl,em,fun G1 H1 ev=>?_⟩
  cases b1 with
  |false=>
   simp only[Zz,Yw]at e ⊢;exact⟨G1,env1,b,env',ev.rel,e,fun G2 H2 ev2=>k G2 H2 (ev.trans ev2)⟩
  |true=>
   simp only[Zh]at e ⊢;cases e;exact k G1 H1 ev
abbrev EW(X:Cx)(B:OA)(e:Expr)(m:Mo Bool):Prop:=PW X e (TTm X.K B m)
variable{rest:List Expr}
theorem a6c(h:ET X B a ta):EW X B (.BoolOp .And [a] pos) ta:=b2D h
theorem a4C(h:ET X B a ta):EW X B (.BoolOp .Or [a] pos) ta:=b2E h
theorem a6d(h:ET X B a ta)(h2:EW X B (.BoolOp .And (b::rest) pos) tb):EW X B (.BoolOp .And (a::b::rest) pos) (a2N ta tb):=pw_imp (b2F h h2) b4w
theorem a4D(h:ET X B a ta)(h2:EW X B (.BoolOp .Or (b::rest) pos) tb):EW X B (.BoolOp .Or (a::b::rest) pos) (a0f ta tb):=pw_imp (b2G h h2) b4x
theorem a2j(h:EW X B e ta):ET X B e ta:=h.pt
def a1n(m n:Mo D):Mo D:=fun env=>(m env).bind fun p=>match p.1 with
 |.bl true=>n p.2
 |.bl false=>some (.bl false,p.2)
 |_=>none
theorem a3B{op}(h:ED X B a ma):ED X B (.BoolOp op [a] pos) ma:=b2K h
theorem a3C(ha:ED X B a ma)(hb:ED X B (.BoolOp .And (b::rest) pos) mb):ED X B (.BoolOp .And (a::b::rest) pos) (a1n ma mb):=by
 refine pe_imp (b2L ha hb) ?_
 rintro σ H Q ⟨G,env,d,env',rl,e,k⟩;unfold a1n at e;cases em:ma env with
 |none=>rw[em]at e;cases e
 |some p=>
  obtain⟨d1,env1⟩:=p;rw[em]at e;simp only[Qj]at e;refine .bind rl em fun v G1 H1 ev r1=>?_
  split at e
  ·simp only[Rep]at r1
   exact⟨true,r1,by simp only[Zh];exact .bind ev.rel e fun v2 G2 H2 ev2 r2=>k v2 G2 H2 (ev.trans ev2) r2⟩
  ·simp only[Rep]at r1
   cases e;exact⟨false,r1,by simp only[Zz,Yw];exact k _ G1 H1 ev (by simp only[Rep])⟩
  ·cases e
def a6e(m:Mo D):Mo D:=fun env=>(m env).bind fun p=>match p.1 with
 |.bl b=>some (.bl (!b),p.2)
 |_=>none
theorem b4y(ha:ED X B a ma):ED X B (.UnaryOp .Not a pos) (a6e ma):=by
 refine pe_imp (b2M ha) ?_
 rintro σ H Q ⟨G,env,d,env',rl,e,k⟩;unfold a6e at e;cases em:ma env with
 |none=>rw[em]at e;cases e
 |some p=>
  obtain⟨d1,env1⟩:=p;rw[em]at e;simp only[Qj]at e;refine .bind rl em fun v G1 H1 ev r1=>?_
  split at e
  ·rename_i b1
   simp only[Rep]at r1;cases e;exact⟨b1,r1,k _ G1 H1 ev (by simp only[Rep])⟩
  ·cases e
def a4E(m:Mo D):Mo D:=fun env=>(m env).bind fun p=>match p.1 with
 |.int b=>some (.int (-b),p.2)
 |_=>none
theorem a9f(ha:ED X B a ma):ED X B (.UnaryOp .USub a pos) (a4E ma):=by
 refine pe_imp (b3v b3y ha) ?_
 rintro σ H Q ⟨G,env,d,env',rl,e,k⟩;unfold a4E at e;cases em:ma env with
 |none=>rw[em]at e;cases e
 |some p=>
  obtain⟨d1,env1⟩:=p;rw[em]at e;simp only[Qj]at e;refine .bind rl em fun v G1 H1 ev r1=>?_
  split at e
  ·rename_i b1
   simp only[Rep]at r1;cases e;exact⟨b1,r1,k _ G1 H1 ev (by simp only[Rep])⟩
  ·cases e
def a4F(f g:D->D->Option D)(ma mb mc:Mo D):Mo D:=fun env=>(ma env).bind fun p=>(mb p.2).bind fun q=>match f p.1 q.1 with
 |some (.bl true)=>(mc q.2).bind fun r=>(g q.1 r.1).map fun d=>(d,r.2)
 |some (.bl false)=>some (.bl false,q.2)
 |_=>none
theorem b4z{r r':R2}{f g:D->D->Option D}(o:OpD X B r f)(o':OpD X B r' g):∀σ H Q,TD X.K B (a4F f g ma mb mc) σ H Q->a8z r r' (TD X.K B ma) (TD X.K B mb) (TD X.K B mc) σ H Q:=by
 rintro σ H Q ⟨G,env,d,env',rl,e,k⟩;unfold a4F at e;cases ea:ma env with
 |none=>rw[ea]at e;cases e
 |some p=>
  obtain⟨d1,env1⟩:=p;rw[ea]at e;simp only[Qj]at e;cases eb:mb env1 with
  |none=>rw[eb]at e;cases e
  |some p=>
   obtain⟨d2,env2⟩:=p;rw[eb]at e;simp only[Qj]at e;refine .bind rl ea fun v1 G1 H1 ev1 r1=>.bind ev1.rel eb fun v2 G2 H2 ev2 r2=>?_
   split at e
   ·rename_i ef
    refine o G2 σ _ H2 v1 v2 d1 d2 _ _ ev2.rel (Rep.mono ev2.same _ r1) r2 ef fun v3 G3 H3 ev3 r3=>?_
    simp only[Rep]at r3;refine⟨true,r3,?_⟩;simp only[Zh];cases ec:mc env2 with
    |none=>rw[ec]at e;cases e
    |some p=>
     obtain⟨d3,env3⟩:=p;rw[ec]at e;simp only[Qj]at e;cases eg:g d2 d3 with
     |none=>rw[eg]at e;cases e
     |some d4=>
      rw[eg]at e;cases e;refine .bind ev3.rel ec fun v4 G4 H4 ev4 r4=>?_
      exact o' G4 σ _ H4 v2 v4 d2 d3 _ Q ev4.rel (Rep.mono ev4.same _ (Rep.mono ev3.same _ r2)) r4 eg fun v5 G5 H5 ev5 r5=>k v5 G5 H5 ((((ev1.trans ev2).trans ev3).trans ev4).trans ev5) r5
   ·rename_i ef
    cases e;refine o G2 σ _ H2 v1 v2 d1 d2 _ _ ev2.rel (Rep.mono ev2.same _ r1) r2 ef fun v3 G3 H3 ev3 r3=>?_
    simp only[Rep]at r3;refine⟨false,r3,?_⟩;simp only[Zz,Yw];exact k _ G3 H3 ((ev1.trans ev2).trans ev3) (by simp only[Rep])
   ·cases e
theorem b4A{op op':CmpOp}{r r':R2}{f g:D->D->Option D}(ho:OpR X (compareOp op) r)(ho':OpR X (compareOp op') r')(o:OpD X B r f)(o':OpD X B r' g)(ha:ED X B a ma)(hb:ED X B b mb)(hc:ED X B c mc)
  (hm:lastMarks [op,op'] [b,c]=false:=by with_unfolding_all rfl):ED X B (.Compare a [op,op'] [b,c] pos) (a4F f g ma mb mc):=pe_imp (b3D ho ho' ha hb hc hm) (b4z o o')
variable{es:List Expr}{ms:Mo (List D)}{as:Mo (List Ar)}
def z4_:Mo (List D):=fun env=>some ([],env)
def z2_(m:Mo D)(ms:Mo (List D)):Mo (List D):=fun env=>(m env).bind fun p=>(ms p.2).map fun q=>(p.1::q.1,q.2)
theorem q1_:EDs X B [] z4_:=by
 refine pa_imp a2I ?_
 rintro σ H Q ⟨G,env,d,env',rl,e,k⟩;cases e;exact k [] G H (.refl rl) repL_nil
theorem z8_(ha:ED X B e ma)(hr:EDs X B es ms)(hs:starEach (e::es) X.env=(false,eval e X.env)::starEach es X.env:=by rfl):EDs X B (e::es) (z2_ ma ms):=by
 refine pa_imp (a0Y ha hr hs) ?_
 rintro σ H Q ⟨G,env,d,env',rl,e,k⟩;unfold z2_ at e;cases ea:ma env with
 |none=>rw[ea]at e;cases e
 |some p=>
  obtain⟨d1,env1⟩:=p;rw[ea]at e;simp only[Qj]at e;cases eb:ms env1 with
  |none=>rw[eb]at e;cases e
  |some p=>
   obtain⟨d2,env2⟩:=p;rw[eb]at e;cases e;exact .bind rl ea fun v1 G1 H1 ev1 r1=>⟨G1,env1,d2,_,ev1.rel,eb,fun vs G2 H2 ev2 r2=>k _ G2 H2 (ev1.trans ev2) (repL_cons (Rep.mono ev2.same _ r1) r2)⟩
def q2_:Mo (List Ar):=fun env=>some ([],env)
def z7_(m:Mo D)(ms:Mo (List Ar)):Mo (List Ar):=fun env=>(m env).bind fun p=>(ms p.2).map fun q=>(.d p.1::q.1,q.2)
def k7_(i:Nat)(ms:Mo (List Ar)):Mo (List Ar):=fun env=>((env[i]?).bind W.mut).bind fun _=>(ms env).map fun q=>(.sl i::q.1,q.2)
theorem y5_:EAr X B [] q2_:=by
 refine pa_imp a2I ?_
 rintro σ H Q ⟨G,env,d,env',rl,e,k⟩;cases e;exact k [] G H (.refl rl) (by simp only[RepA])
theorem q9_(ha:ED X B e ma)(hr:EAr X B es as)(hs:starEach (e::es) X.env=(false,eval e X.env)::starEach es X.env:=by rfl):EAr X B (e::es) (z7_ ma as):=by
 refine pa_imp (a0Y ha hr hs) ?_
 rintro σ H Q ⟨G,env,d,env',rl,e,k⟩;unfold z7_ at e;cases ea:ma env with
 |none=>rw[ea]at e;cases e
 |some p=>
  obtain⟨d1,env1⟩:=p;rw[ea]at e;simp only[Qj]at e;cases eb:as env1 with
  |none=>rw[eb]at e;cases e
  |some p=>
   obtain⟨d2,env2⟩:=p;rw[eb]at e;cases e;exact .bind rl ea fun v1 G1 H1 ev1 r1=>⟨G1,env1,d2,_,ev1.rel,eb,fun vs G2 H2 ev2 r2=>k _ G2 H2 (ev1.trans ev2) (by simp only[RepA];exact⟨_,_,rfl,Rep.mono ev2.same _ r1,r2⟩)⟩
theorem a1o{i:Nat}{x:Str}{p:Pos}(ha:PE X (.Name x p) (a0o i))(hr:EAr X B es as)(hs:starEach (.Name x p::es) X.env=(false,eval (.Name x p) X.env)::starEach es X.env:=by rfl):EAr X B (.Name x p::es) (k7_ i as):=by
 refine pa_imp (a0Y ha hr hs) ?_
 rintro σ H Q ⟨G,env,d,env',rl,e,k⟩;unfold k7_ at e;cases ew:env[i]? with
 |none=>rw[ew]at e;cases e
 |some w=>
  rw[ew]at e;simp only[Qj]at e;cases em:w.mut with
  |none=>rw[em]at e;cases e
  |some ds=>
   rw[em]at e;simp only[Qj]at e;cases eb:as env with
   |none=>rw[eb]at e;cases e
   |some p=>
    obtain⟨d2,env2⟩:=p;rw[eb]at e;cases e;obtain⟨a',xs,hv,_⟩:=rl.own i w ds ew em;exact⟨_,hv,G,env,d2,_,rl,eb,fun vs G2 H2 ev2 r2=>k _ G2 H2 ev2 (by simp only[RepA];exact⟨_,_,rfl,hv,r2⟩)⟩
end
section
variable{X:Cx}{B:OA}{pos:Pos}{a b c e:Expr}{ma mb mc:Mo D}{ms:Mo (List D)}{es:List Expr}
theorem z9_{α β:Type}{o:Option α}{f:α->Option β}{y:β}(h:o.bind f=some y):∃x,o=some x/\f x=some y:=by
 cases o with
 |none=>cases h
 |some x=>exact⟨x,rfl,h⟩
theorem v5_{α β:Type}{o:Option α}{f:α->β}{y:β}(h:o.map f=some y):∃x,o=some x/\f x=y:=by
 cases o with
 |none=>cases h
 |some x=>exact⟨x,rfl,Za h⟩
def q7_(ms:Mo (List D)):Mo D:=fun env=>(ms env).bind fun p=>if p.1.length≤1000 then some (.tup p.1,p.2)else none
theorem y8_{x1:Nat}(h:EDs X B es ms):ED X B (.Tuple es x1 pos) (q7_ ms):=by
 refine pe_imp (a8C h) ?_
 rintro σ H Q ⟨G,env,d,env',rl,e,k⟩;obtain⟨⟨ds,env1⟩,e1,e2⟩:=z9_ e;dsimp only at e2;split at e2
 ·rename_i hl
  cases e2;refine⟨G,env,ds,_,rl,e1,fun vs G1 H1 ev r1=>⟨by rw[r1.length];exact Jg (a4t hl),fun p hp=>?_⟩⟩
  exact k _ _ _ (ev.trans (ev.rel.alloc hp)) (a2K y6_ (z6_.mono (Le.upd (ev.rel.gnone hp)) _ r1))
 ·cases e2
def w9_(ms:Mo (List D)):Mo (List D):=fun env=>(ms env).bind fun p=>if p.1.length≤1000 then some p else none
theorem a6f{K:Qq}{G G1:Hp}{σ:St}{env env1:Env'}{H H1:Hp}{p:Addr}{xs:List V}{ds:List D}{Q:VK}(ev:Ev K B G σ env H G1 σ env1 H1)(hp:H1 p=none)(r:z6_ K G1 xs ds)
  (k:∀a xs G' H',Ev K B G σ env H G' σ env1 H'->H a=none-> ¬ Owned σ env1 a->H' a=some (.lst xs)->G' a=none->z6_ K G' xs ds->Q (.ref a) H'):Q (.ref p) (upd H1 p (.lst xs)):=by
 refine k p xs G1 _ (ev.trans (ev.rel.allocM hp)) ?_ (ev.rel.unowned hp) y6_ (ev.rel.gnone hp) r;cases h:H p with
 |none=>rfl
 |some o=>exact absurd hp (ev.live p (by rw[h];simp))
theorem a1b(h:EDs X B es ms):EL X B (.List es pos) (w9_ ms):=by
 refine pe_imp (b3K h) ?_
 rintro σ H Q ⟨G,env,d,env',rl,e,k⟩;obtain⟨⟨ds,env1⟩,e1,e2⟩:=z9_ e;dsimp only at e2;split at e2
 ·rename_i hl
  cases e2;exact⟨G,env,_,_,rl,e1,fun vs G1 H1 ev r1=>⟨by rw[r1.length];exact Jg (a4t hl),fun p hp=>a6f ev hp r1 k⟩⟩
 ·cases e2
def mF(m:Mo (List D)):Mo D:=fun env=>(m env).map fun p=>(.lst p.1,p.2)
theorem x7_(h:EL X B e ms):ED X B e (mF ms):=by
 refine pe_imp h ?_
 rintro σ H Q ⟨G,env,d,env',rl,e,k⟩;obtain⟨⟨ds,env1⟩,e1,e2⟩:=v5_ e;cases e2;exact⟨G,env,ds,_,rl,e1,fun a xs G' H' ev ha no h' g' r=>k (.ref a) _ H' (ev.frz ha no h' g') (a5Z y6_ (z6_.mono (Le.upd g') ds r))⟩
theorem a6g{K:Qq}{G:Hp}{xs:List V}{ds:List D}{k:Int}{d:D}(r:z6_ K G xs ds)(h:atI ds k=some d):∃x,atI xs k=some x/\Rep K G x d:=by
 unfold atI at h ⊢;rw[r.length];obtain⟨j,e1,e2⟩:=z9_ h;rw[e1];exact r.get e2
def dIx:D->D->Option D
 |.lst ds,.int k=>atI ds k
 |.tup ds,.int k=>atI ds k
 |_,_=>none
theorem b4B:OpD X B (rIx X.K) dIx:=by
 intro G σ env H x y a b d Q rl ra rb e k;cases a<;>cases b<;>first|(exact absurd (show(none:Option D)=some d from e) (by simp))|skip
 ·simp only[Rep]at ra rb
  obtain⟨p,xs,e1,q,r⟩:=ra;subst e1 rb;obtain⟨v,e3,e4⟩:=a6g r e;exact .inr (.inl ⟨p,xs,_,v,rfl,rfl,rl.sub.sqT q,e3,k v G H (.refl rl) e4⟩)
 ·simp only[Rep]at ra rb
  obtain⟨p,xs,e1,q,r⟩:=ra;subst e1 rb;obtain⟨v,e3,e4⟩:=a6g r e;exact .inl ⟨p,xs,_,v,rfl,rfl,rl.sub.sqL q,e3,k v G H (.refl rl) e4⟩
theorem a9g(ha:ED X B a ma)(hb:ED X B b mb)(hs:a3v b):ED X B (.Subscript a b pos) (z5_ dIx ma mb):=pe_imp (a8L b3Z ha hb hs) (a4y b4B)
def u1_(i:Nat)(mb:Mo D):Mo D:=fun env=>(mb env).bind fun p=>((p.2[i]?).bind W.mutL).bind fun ds=>(dIx (.lst ds) p.1).map fun d=>(d,p.2)
theorem a2k{i:Nat}{x:Str}{p:Pos}(ha:PE X (.Name x p) (a0o i))(hb:ED X B b mb)(hs:a3v b)(hr:∀env d env' w ds,mb env=some (d,env')->env'[i]? =some w->w.mut=some ds->∃w0 ds0,env[i]? =some w0/\w0.mut=some ds0):
  ED X B (.Subscript (.Name x p) b pos) (u1_ i mb):=by
 refine pe_imp (a8L a8P ha hb hs) ?_
 rintro σ H Q ⟨G,env,d,env',rl,e,k⟩;obtain⟨⟨d1,env1⟩,e1,e2⟩:=z9_ e;obtain⟨ds,e3,e4⟩:=z9_ e2;obtain⟨w,e5,e6⟩:=z9_ e3;obtain⟨d2,e7,e8⟩:=v5_ e4;cases e8;obtain⟨w0,ds0,e9,e10⟩:=hr env d1 _ w (.l ds) e1 e5 (W.mutL_of e6);obtain⟨q,xs,h1,_⟩:=rl.own i w0 ds0 e9 e10;refine⟨_,h1,.bind rl e1 fun v G1 H1 ev r1=>?_⟩
 obtain⟨q',ys,h2,h3,h4,h5⟩:=ev.rel.ownL i w ds e5 e6;rw[h1]at h2;cases h2;dsimp only at e7;cases d1<;>first|(exact absurd (show(none:Option D)=some _ from e7) (by simp))|skip
 simp only[Rep]at r1;obtain⟨z,h6,h7⟩:=a6g h4 e7;exact⟨q,ys,_,z,rfl,r1,.inl (.inl h3),h6,k z G1 H1 ev h7⟩
def a0K(X:Cx)(B:OA)(r:List V->Hp->VK->Prop)(f:List D->Option D):Prop:=
 ∀(G:Hp) (σ:St) (env:Env') (H:Hp) (xs:List V) (ds:List D) (c:D) (Q:VK),Rel X.K B G σ env H->z6_ X.K G xs ds->f ds=some c->
  (∀v G' H',Ev X.K B G σ env H G' σ env H'->Rep X.K G' v c->Q v H')->r xs H Q
def mCB(f:List D->Option D)(ms:Mo (List D)):Mo D:=fun env=>(ms env).bind fun p=>(f p.1).map fun d=>(d,p.2)
theorem a9h{r:List V->Hp->VK->Prop}{f:List D->Option D}(o:a0K X B r f):∀σ H Q,TD X.K B (mCB f ms) σ H Q->tCB r (TDs X.K B ms) σ H Q:=by
 rintro σ H Q ⟨G,env,d,env',rl,e,k⟩;obtain⟨⟨ds,env1⟩,e1,e2⟩:=z9_ e;obtain⟨d1,e3,e4⟩:=v5_ e2;cases e4;exact⟨G,env,ds,_,rl,e1,fun vs G1 H1 ev r1=>o G1 σ _ H1 vs ds _ Q ev.rel r1 e3 fun v G2 H2 ev2 r2=>k v G2 H2 (ev.trans ev2) r2⟩
variable{r:List V->Hp->VK->Prop}{f:List D->Option D}{g:List D->Option (List D)}{id T:String}{x:Str}{p:Pos}
theorem w1_(hc:a0d X (.builtin id) r)(o:a0K X B r f)(hg:Gl X x)(hm:X.mg x=none)(hv:bootBuiltins x=some (.builtin id))(ha:EDs X B (e::es) ms)(hn:x≠"__name__":=by decide)(hdb:(x==("__debug__":Str))=false:=by decide)
  (he:starEach (e::es) X.env=(false,eval e X.env)::starEach es X.env:=by rfl)(hpl:(backTo pos (starEach es X.env)).any (·.1)=false:=by rfl):ED X B (.Call (.Name x p) (e::es) [] pos) (mCB f ms):=
 pe_imp (a5S hc hg hm hv ha hn hdb he hpl) (a9h o)
theorem a6h(hc:a0d X (.type T) r)(o:a0K X B r f)(hg:Gl X x)(hm:X.mg x=none)(hv:bootBuiltins x=some (.type T))(ha:EDs X B (e::es) ms)(hn:x≠"__name__":=by decide)(hdb:(x==("__debug__":Str))=false:=by decide)
  (he:starEach (e::es) X.env=(false,eval e X.env)::starEach es X.env:=by rfl)(hpl:(backTo pos (starEach es X.env)).any (·.1)=false:=by rfl):ED X B (.Call (.Name x p) (e::es) [] pos) (mCB f ms):=
 pe_imp (b3O hc hg hm hv ha hn hdb he hpl) (a9h o)
theorem a0p{K:Qq}{G:Hp}{xs:List V}{d:D}(h:z6_ K G xs [d]):∃x,xs=[x]/\Rep K G x d:=by
 simp only[z6_]at h;obtain⟨x,r,e,q,t⟩:=h;subst t;exact⟨x,e,q⟩
theorem a4G{K:Qq}{G:Hp}{xs:List V}{d d':D}(h:z6_ K G xs [d,d']):∃x y,xs=[x,y]/\Rep K G x d/\Rep K G y d':=by
 simp only[z6_]at h;obtain⟨x,r,e,q,y,r2,e2,q2,t⟩:=h;subst t e2;exact⟨x,y,e,q,q2⟩
def D.items:D->Option (List D)
 |.lst ds=>some ds
 |.tup ds=>some ds
 |_=>none
theorem a9i{K:Qq}{G H:Hp}{v:V}{d:D}{ds:List D}(l:Le G H)(r:Rep K G v d)(h:d.items=some ds):∃a xs,v=.ref a/\(SqL K H a xs∨SqT K H a xs)/\z6_ K G xs ds:=by
 cases d<;>first|(exact absurd (show(none:Option (List D))=some ds from h) (by simp))|skip
 ·cases h;simp only[Rep]at r;obtain⟨a,xs,e,q,t⟩:=r;exact⟨a,xs,e,.inr (l.sqT q),t⟩
 ·cases h;simp only[Rep]at r;obtain⟨a,xs,e,q,t⟩:=r;exact⟨a,xs,e,.inl (l.sqL q),t⟩
def k3_:List D->Option D
 |[d]=>d.items.map fun ds=>.int ds.length
 |_=>none
theorem a1J:a0K X B (fun xs H Q=>∃p ys,xs=[.ref p]/\(SqL X.K H p ys∨SqT X.K H p ys)/\Q (.int ys.length) H) k3_:=by
 intro G σ env H xs ds c Q rl r e k
 match ds,e with
 |[d],e=>
  obtain⟨x,rfl,q⟩:=a0p r;obtain⟨ds,e1,e2⟩:=v5_ e;obtain⟨a,ys,rfl,h1,h2⟩:=a9i rl.sub q e1;exact⟨a,ys,rfl,h1,k _ G H (.refl rl) (by rw[←e2,h2.length];simp only[Rep])⟩
def a6i:List D->Option D
 |[d]=>d.items.map fun ds=>.tup ds
 |_=>none
theorem a9j:a0K X B (fun xs H Q=>∃p ys,xs=[.ref p]/\((SqL X.K H p ys/\∀l,H l=none->Q (.ref l) (upd H l (.tup ys)))∨(SqT X.K H p ys/\Q (.ref p) H))) a6i:=by
 intro G σ env H xs ds c Q rl r e k
 match ds,e with
 |[d],e=>
  obtain⟨x,rfl,q⟩:=a0p r;obtain⟨ds,e1,e2⟩:=v5_ e;subst e2;cases d<;>first|(exact absurd (show(none:Option (List D))=some ds from e1) (by simp))|skip
  ·cases e1
   have q0:=q
   simp only[Rep]at q;obtain⟨a,ys,rfl,h1,h2⟩:=q;exact⟨a,ys,rfl,.inr ⟨rl.sub.sqT h1,k _ G H (.refl rl) q0⟩⟩
  ·cases e1
   simp only[Rep]at q;obtain⟨a,ys,rfl,h1,h2⟩:=q;exact⟨a,ys,rfl,.inl ⟨rl.sub.sqL h1,fun l hl=>k _ _ _ (rl.alloc hl) (a2K y6_ (z6_.mono (Le.upd (rl.gnone hl)) _ h2))⟩⟩
end
section
variable{K:Qq}{B:OA}{G G1:Hp}{σ σ1:St}{env env1:Env'}{H H1:Hp}{i:Nat}
theorem k6_{α:Type}{l:List α}{i j:Nat}{a b:α}(h:(l.set i a)[j]? =some b):(j=i/\b=a)∨(j≠i/\l[j]? =some b):=by
 by_cases hj:j=i
 ·subst hj
  have hl:j<l.length:=by
   have:=(Qg.mp h).1;rwa [Zl]at this
  rw[Yb hl]at h;cases h;exact .inl ⟨rfl,rfl⟩
 ·rw[Ql (Zn hj)]at h
  exact .inr ⟨hj,h⟩
theorem a2O{α β:Type}{l:List α}{m:List β}{i:Nat}{a b:α}{c:β}(h:(l.set i a)[i]? =some b)(hl:l.length=m.length):(m.set i c)[i]? =some c:=by
 have:=(Qg.mp h).1;rw[Zl]at this;exact Yb (by omega)
theorem Ev.setDat{v:V}{d:D}(ev:Ev K B G σ env H G1 σ1 env1 H1)(r:Rep K G1 v d):Ev K B G σ env H G1 (σ1.set i (some v)) (env1.set i (.dat d)) H1:=by
 have rl:=ev.rel
 have ne:∀(j:Nat) (w:W) (es:Mu),(env1.set i (.dat d))[j]? =some w->w.mut=some es->j≠i/\env1[j]? =some w:=fun j w es q1 q2=>by
  rcases k6_ q1 with⟨_,z⟩|z
  ·rw[z]at q2;cases q2
  ·exact z
 refine⟨⟨rl.sub,by rw[Zl,Zl];exact rl.len,fun j d' q=>?_,fun j w es q1 q2=>?_,fun j k w w' es fs b q1 q2 q3 q4 q5 q6=>?_,fun j w b q1 qo q2=>?_,rl.old,rl.tabs,rl.gnt⟩,ev.same,ev.keep,ev.live,ev.stay,fun b z=>?_,fun j w q qp=>?_,by rw[Zl];exact ev.slen⟩
 ·rcases k6_ q with⟨z1,z2⟩|⟨z1,z2⟩
  ·subst z1;cases z2
   exact⟨v,a2O q rl.len,r⟩
  ·obtain⟨x,q1,q2⟩:=rl.dat j d' z2
   exact⟨x,by rw[Ql (Zn z1)];exact q1,q2⟩
 ·obtain⟨hj,q⟩:=ne j w es q1 q2
  obtain⟨p,ys,e3,e4⟩:=rl.own j w es q q2;exact⟨p,ys,by rw[Ql (Zn hj)];exact e3,e4⟩
 ·obtain⟨h1,h2⟩:=ne j w es q1 q2
  obtain⟨h3,h4⟩:=ne k w' fs q3 q4;rw[Ql (Zn h1)]at q5;rw[Ql (Zn h3)]at q6;exact rl.inj j k w w' es fs b h2 q2 h4 q4 q5 q6
 ·obtain⟨es,hm⟩:=own_mut qo
  obtain⟨h1,h2⟩:=ne j _ es q1 hm;rw[Ql (Zn h1)]at q2;exact rl.fresh j w b h2 qo q2
 ·obtain⟨j,w,es,q1,q2,q3⟩:=z
  obtain⟨h1,h2⟩:=ne j w es q1 q2;rw[Ql (Zn h1)]at q3;exact ev.sub b ⟨j,w,es,h2,q2,q3⟩
 ·obtain⟨es,hm⟩:=par_mut qp
  obtain⟨h1,h2⟩:=ne j _ es q hm;obtain⟨h3,h4⟩:=ev.par j w h2 qp;exact⟨by rw[Ql (Zn h1)];exact h3,h4⟩
theorem Ev.setOwnM{a:Addr}{o:HO}{m:Mu}{wn:W}(ev:Ev K B G σ env H G1 σ1 env1 H1)(nb:¬ B a)(ha:H a=none)(no:¬ Owned σ1 env1 a)(h1:H1 a=some o)(g1:G1 a=none)(r:RepM K G1 o m)(wm:wn.mut=some m)(wo:wn.isPar=false):
  Ev K B G σ env H G1 (σ1.set i (some (.ref a))) (env1.set i wn) H1:=by
 have rl:=ev.rel
 refine⟨⟨rl.sub,by rw[Zl,Zl];exact rl.len,fun j d' q=>?_,fun j w es q1 q2=>?_,fun j k w w' es fs b q1 q2 q3 q4 q5 q6=>?_,fun j w b q1 qo q2=>?_,rl.old,rl.tabs,rl.gnt⟩,ev.same,ev.keep,ev.live,ev.stay,fun b z=>?_,fun j w q qp=>?_,by rw[Zl];exact ev.slen⟩
 ·rcases k6_ q with⟨z1,z2⟩|⟨z1,z2⟩
  ·rw[←z2]at wm;cases wm
  ·obtain⟨x,q1,q2⟩:=rl.dat j d' z2
   exact⟨x,by rw[Ql (Zn z1)];exact q1,q2⟩
 ·rcases k6_ q1 with⟨z1,z2⟩|⟨z1,z2⟩
  ·subst z1 z2;rw[wm]at q2;cases q2
   exact⟨a,o,a2O q1 rl.len,h1,r,g1⟩
  ·obtain⟨p,ys,e3,e4⟩:=rl.own j w es z2 q2
   exact⟨p,ys,by rw[Ql (Zn z1)];exact e3,e4⟩
 ·rcases k6_ q1 with⟨z1,z2⟩|⟨z1,z2⟩
  ·rcases k6_ q3 with⟨y1,y2⟩|⟨y1,y2⟩
   ·rw[z1,y1]
   ·subst z1
    rw[a2O q1 rl.len]at q5;cases q5;rw[Ql (Zn y1)]at q6;exact absurd ⟨k,w',fs,y2,q4,q6⟩ no
  ·rw[Ql (Zn z1)]at q5
   rcases k6_ q3 with⟨y1,y2⟩|⟨y1,y2⟩
   ·subst y1
    rw[a2O q3 rl.len]at q6;cases q6;exact absurd ⟨j,w,es,z2,q2,q5⟩ no
   ·rw[Ql (Zn y1)]at q6
    exact rl.inj j k w w' es fs b z2 q2 y2 q4 q5 q6
 ·rcases k6_ q1 with⟨z1,z2⟩|⟨z1,z2⟩
  ·subst z1
   rw[a2O q1 rl.len]at q2;cases q2;exact nb
  ·rw[Ql (Zn z1)]at q2
   exact rl.fresh j w b z2 qo q2
 ·obtain⟨j,w,es,q1,q2,q3⟩:=z
  rcases k6_ q1 with⟨z1,z2⟩|⟨z1,z2⟩
  ·subst z1
   rw[a2O q1 rl.len]at q3;cases q3;exact .inr ha
  ·rw[Ql (Zn z1)]at q3
   exact ev.sub b ⟨j,w,es,z2,q2,q3⟩
 ·rcases k6_ q with⟨z1,z2⟩|⟨z1,z2⟩
  ·rw[z2,wo]at qp;cases qp
  ·obtain⟨h3,h4⟩:=ev.par j w z2 qp
   exact⟨by rw[Ql (Zn z1)];exact h3,h4⟩
theorem Ev.setOwn{a:Addr}{xs:List V}{ds:List D}(ev:Ev K B G σ env H G1 σ1 env1 H1)(nb:¬ B a)(ha:H a=none)(no:¬ Owned σ1 env1 a)(h1:H1 a=some (.lst xs))(g1:G1 a=none)(r:z6_ K G1 xs ds):
  Ev K B G σ env H G1 (σ1.set i (some (.ref a))) (env1.set i (.own ds)) H1:=ev.setOwnM (m:=.l ds) nb ha no h1 g1 ⟨xs,rfl,r⟩ rfl rfl
theorem Ev.writeM{a:Addr}{o':HO}{w:W}{m m':Mu}(ev:Ev K B G σ env H G1 σ1 env1 H1)(e1:env1[i]? =some w)(e2:w.mut=some m)(e3:σ1[i]? =some (some (.ref a)))(r:RepM K G1 o' m'):
  Ev K B G σ env H G1 σ1 (env1.set i (w.putM m')) (upd H1 a o'):=by
 have rl:=ev.rel
 obtain⟨a',o0,h1,h2,h3,h4⟩:=rl.own i w m e1 e2;rw[e3]at h1;cases h1;have ow:Owned σ1 env1 a:=⟨i,w,m,e1,e2,e3⟩;have wp:(w.putM m').mut=some m':=W.putM_mut e2 m';have nd:∀d,w.putM m'≠.dat d:=fun d z=>by rw[z]at wp;cases wp
 have oo:Owned σ env a∨H a=none:=ev.sub a ow
 refine⟨⟨fun b u e=>?_,by rw[Zl];exact rl.len,fun j d' q=>?_,fun j v es q1 q2=>?_,fun j k v v' es fs b q1 q2 q3 q4 q5 q6=>?_,fun j v b q1 qo q2=>?_,fun b hb=>?_,rl.tabs.upd r.nt (fun φ z=>by rw[h2]at z;cases z;exact h3.ne φ rfl),rl.gnt⟩,ev.same,fun b o n t e=>?_,fun b e=>?_,ev.stay,fun b z=>?_,fun j v q qp=>?_,ev.slen⟩
 ·have hb:b≠a:=fun z=>by rw[z,h4]at e;cases e
  rw[q8_ hb];exact rl.sub b u e
 ·rcases k6_ q with⟨z1,z2⟩|⟨z1,z2⟩
  ·exact absurd z2.symm (nd d')
  ·exact rl.dat j d' z2
 ·rcases k6_ q1 with⟨z1,z2⟩|⟨z1,z2⟩
  ·subst z1 z2
   rw[wp]at q2;cases q2;exact⟨a,o',e3,y6_,r,h4⟩
  ·obtain⟨p,ys,f1,f2,f3,f4⟩:=rl.own j v es z2 q2
   have hp:p≠a:=fun z=>z1 (rl.inj j i v w es m a z2 q2 e1 e2 (by rw[f1,z]) e3)
   exact⟨p,ys,f1,by rw[q8_ hp];exact f2,f3,f4⟩
 ·have g:∀(n:Nat) (v:W) (es:Mu),(env1.set i (w.putM m'))[n]? =some v->v.mut=some es->∃v0 es0,env1[n]? =some v0/\v0.mut=some es0:=fun n v es y1 y2=>by
   rcases k6_ y1 with⟨z1,z2⟩|⟨z1,z2⟩
   ·rw[z1];exact⟨w,m,e1,e2⟩
   ·exact⟨v,es,z2,y2⟩
  obtain⟨v0,es0,y1,y2⟩:=g j v es q1 q2;obtain⟨v1,es1,y3,y4⟩:=g k v' fs q3 q4;exact rl.inj j k v0 v1 es0 es1 b y1 y2 y3 y4 q5 q6
 ·rcases k6_ q1 with⟨z1,z2⟩|⟨z1,z2⟩
  ·subst z1
   exact rl.fresh j w b e1 (by rw[z2,W.putM_own e2]at qo;exact qo) q2
  ·exact rl.fresh j v b z2 qo q2
 ·by_cases h:b=a
  ·subst h;rw[y6_];simp
  ·rw[q8_ h];exact rl.old b hb
 ·have hb:b≠a:=fun z=>by
   rcases oo with q|q
   ·exact n (z ▸ q)
   ·rw[z,q]at e;cases e
  rw[q8_ hb];exact ev.keep b o n t e
 ·by_cases h:b=a
  ·subst h;rw[y6_];simp
  ·rw[q8_ h];exact ev.live b e
 ·obtain⟨j,v,es,q1,q2,q3⟩:=z
  rcases k6_ q1 with⟨z1,z2⟩|⟨z1,z2⟩
  ·rw[z1,e3]at q3;cases q3
   exact oo
  ·exact ev.sub b ⟨j,v,es,z2,q2,q3⟩
 ·rcases k6_ q with⟨z1,z2⟩|⟨z1,z2⟩
  ·subst z1
   exact ev.par j w e1 (by rw[z2,W.putM_par e2]at qp;exact qp)
  ·exact ev.par j v z2 qp
theorem Ev.write{a:Addr}{xs':List V}{w:W}{ds ds':List D}(ev:Ev K B G σ env H G1 σ1 env1 H1)(e1:env1[i]? =some w)(e2:w.mutL=some ds)(e3:σ1[i]? =some (some (.ref a)))(r:z6_ K G1 xs' ds'):
  Ev K B G σ env H G1 σ1 (env1.set i (w.put ds')) (upd H1 a (.lst xs')):=by
 rw[W.put_eq e2];exact ev.writeM e1 (W.mutL_of e2) e3 ⟨xs',rfl,r⟩
end
section
variable{X:Cx}{B:OA}{pos:Pos}{a b c e:Expr}{ma mb mc:Mo D}{ms:Mo (List D)}{es:List Expr}{st:Stmt}{rest:List Stmt}{s1 s2:Mo Fl}
def mNx:Mo Fl:=fun env=>some (.nx,env)
def q0_(m n:Mo Fl):Mo Fl:=fun env=>(m env).bind fun p=>match p.1 with
 |.nx=>n p.2
 |fl=>some (fl,p.2)
theorem j2_:ESs X B [] mNx:=by
 refine pss_imp b2Q ?_
 rintro D σ H ⟨G,env,fl,env',rl,e,k⟩;cases e;exact k σ G H (.refl rl)
theorem v0_(h1:ES X B st s1)(h2:ESs X B rest s2):ESs X B (st::rest) (q0_ s1 s2):=by
 refine pss_imp (b2R h1 h2) ?_
 rintro D σ H ⟨G,env,fl,env',rl,e,k⟩;obtain⟨⟨fl1,env1⟩,e1,e2⟩:=z9_ e;dsimp only at e2;cases fl1 with
 |nx=>
  dsimp only at e2;exact⟨G,env,.nx,env1,rl,e1,fun σ1 G1 H1 ev=>⟨G1,env1,fl,env',ev.rel,e2,Post.after _ _ k ev⟩⟩
 |bk=>cases e2;exact⟨G,env,.bk,_,rl,e1,k⟩
 |ct=>cases e2;exact⟨G,env,.ct,_,rl,e1,k⟩
 |ret d=>cases e2;exact⟨G,env,.ret d,_,rl,e1,k⟩
 |retL d=>cases e2;exact⟨G,env,.retL d,_,rl,e1,k⟩
theorem v4_(h1:ES X B st s1):ESs X B [st] s1:=b2S h1
def y3_(t:Mo Bool)(m n:Mo Fl):Mo Fl:=fun env=>(t env).bind fun p=>if p.1 then m p.2 else n p.2
theorem j3_{c:Expr}{s t:List Stmt}{tc:Mo Bool}(hc:ET X B c tc)(h1:ESs X B s s1)(h2:ESs X B t s2):ES X B (.If c s t pos) (y3_ tc s1 s2):=by
 refine ps_imp (b2W hc h1 h2) ?_
 rintro D σ H ⟨G,env,fl,env',rl,e,k⟩;obtain⟨⟨b1,env1⟩,e1,e2⟩:=z9_ e;dsimp only at e2;refine⟨G,env,b1,env1,rl,e1,fun G1 H1 ev=>?_⟩
 cases b1 with
 |true=>simp only[Zh]at e2 ⊢;exact⟨G1,env1,fl,env',ev.rel,e2,Post.after _ _ k ev⟩
 |false=>simp only[Zz,Yw]at e2 ⊢;exact⟨G1,env1,fl,env',ev.rel,e2,Post.after _ _ k ev⟩
def a2P:Mo Fl:=fun _=>none
theorem a6j:ES X B st a2P:=by
 refine ps_imp b2Y ?_
 rintro D σ H ⟨G,env,fl,env',rl,e,k⟩;cases e
def y9_(m:Mo D):Mo Fl:=fun env=>(m env).map fun p=>(.ret p.1,p.2)
theorem k1_(h:ED X B e ma):ES X B (.Return (some e) pos) (y9_ ma):=by
 refine ps_imp (a8q h) ?_
 rintro D σ H ⟨G,env,fl,env',rl,e,k⟩;obtain⟨⟨d,env1⟩,e1,e2⟩:=v5_ e;cases e2;exact⟨G,env,d,_,rl,e1,fun v G' H' ev r=>k v σ G' H' ev r⟩
def a1c(m:Mo (List D)):Mo Fl:=fun env=>(m env).map fun p=>(.retL p.1,p.2)
theorem a2Q(h:EL X B e ms):ES X B (.Return (some e) pos) (a1c ms):=by
 refine ps_imp (a8q h) ?_
 rintro D σ H ⟨G,env,fl,env',rl,e,k⟩;obtain⟨⟨d,env1⟩,e1,e2⟩:=v5_ e;cases e2;exact⟨G,env,d,_,rl,e1,fun a xs G' H' ev ha no h' g' r=>k a xs σ G' H' ev (fun z=>rl.old a z ha) no h' g' r⟩
def v1_(i:Nat)(m:Mo D):Mo Fl:=fun env=>(m env).map fun p=>(.nx,p.2.set i (.dat p.1))
def w5_(i:Nat)(m:Mo (List D)):Mo Fl:=fun env=>(m env).map fun p=>(.nx,p.2.set i (.own p.1))
section
variable{i:Nat}{x:Str}{pos':Pos}
theorem x9_(hN:X.N.Nodup)(hi:X.N[i]? =some x)(hx:Loc X.env.scope x)(he:ED X B e ma)(hs:swapsWith e (some (.Name x pos')) pos.line X.env=pure false:=by rfl)(hf:X.fn x=true∨X.env.scope.names.lookup x=some .local:=by first|exact .inl rfl|exact .inr rfl|assumption):
  ES X B (.Assign [.Name x pos'] e pos) (v1_ i ma):=by
 refine ps_imp (a5K hN hi hx he hs hf) ?_
 rintro D σ H ⟨G,env,fl,env',rl,e,k⟩;obtain⟨⟨d,env1⟩,e1,e2⟩:=v5_ e;cases e2;exact⟨G,env,d,_,rl,e1,fun v G' H' ev r=>k _ G' H' (ev.setDat r)⟩
theorem a6k(hN:X.N.Nodup)(hi:X.N[i]? =some x)(hx:Loc X.env.scope x)(he:EL X B e ms)(hs:swapsWith e (some (.Name x pos')) pos.line X.env=pure false:=by rfl)(hf:X.fn x=true∨X.env.scope.names.lookup x=some .local:=by first|exact .inl rfl|exact .inr rfl|assumption):
  ES X B (.Assign [.Name x pos'] e pos) (w5_ i ms):=by
 refine ps_imp (a5K hN hi hx he hs hf) ?_
 rintro D σ H ⟨G,env,fl,env',rl,e,k⟩;obtain⟨⟨d,env1⟩,e1,e2⟩:=v5_ e;cases e2;exact⟨G,env,d,_,rl,e1,fun a xs G' H' ev ha no h' g' r=>k _ G' H' (ev.setOwn (fun z=>rl.old a z ha) ha no h' g' r)⟩
end
def a1p(i:Nat)(m:Mo D):Mo Fl:=fun env=>((env[i]?).bind W.mutL).bind fun _=>(m env).bind fun p=>(p.2[i]?).bind fun w=>w.mutL.bind fun ds=>if ds.length<100000 then some (.nx,p.2.set i (w.put (ds++[p.1])))else none
theorem a4H{i:Nat}{x:Str}{p apos cpos:Pos}(ho:PE X (.Name x p) (a0o i))(ha:EDs X B [e] (z2_ ma z4_))
  (hbase:attributeBase (.Name x p) "append" X.env (eval (.Name x p) X.env)=eval (.Name x p) X.env:=by rfl)
  (hfew:((backTo cpos (starEach [e] X.env)).all (fun x=>!x.1)&&(backToKw cpos (keywordEach [] X.env)).all (fun x=>x.1.isSome)
   &&decide ([e].length+([]:List Keyword).length+(if([]:List Keyword).isEmpty then 0 else 1)<30))=true:=by rfl)
  (hline:(apos.endLine==cpos.line)=true:=by rfl)(hs:starEach [e] X.env=(false,eval e X.env)::starEach [] X.env:=by rfl)(hplain:(backTo cpos (starEach [] X.env)).any (·.1)=false:=by rfl)
  (hsw:swapsWith (.Call (.Attribute (.Name x p) "append" apos) [e] [] cpos) none pos.line X.env=pure false:=by rfl):
  ES X B (.Expr (.Call (.Attribute (.Name x p) "append" apos) [e] [] cpos) pos) (a1p i ma):=by
 refine ps_imp (a8p (b4g PySem.F.plainAttrs_list PySem.F.slot_list_append PySem.F.type_list_append a8U ho ha hbase hfew hline hs hplain) hsw) ?_
 rintro D σ H ⟨G,env,fl,env',rl,e,k⟩;obtain⟨ds0,e0,e⟩:=z9_ e;obtain⟨w0,e00,em0⟩:=z9_ e0;obtain⟨⟨d,env1⟩,e1,e2⟩:=z9_ e;obtain⟨w,e3,e4⟩:=z9_ e2;obtain⟨ds,e5,e6⟩:=z9_ e4;dsimp only at e3 e6;split at e6
 ·rename_i hl
  cases e6;obtain⟨q,xs0,h1,h2,h3,h4⟩:=rl.ownL i w0 ds0 e00 em0;refine⟨_,h1,.inl ⟨rfl,xs0,.inl (.inl h2)⟩,G,env,[d],env1,rl,by show(ma env).bind _=_;rw[e1];rfl,fun vs G1 H1 ev r1=>?_⟩
  obtain⟨v,rfl,rv⟩:=a0p r1;obtain⟨q',xs,g1,g2,g3,g4⟩:=ev.rel.ownL i w ds e3 e5;rw[h1]at g1;cases g1;have hz:xs.length<sizeLine:=by rw[g3.length];exact Uy hl (by decide)
  exact⟨q,xs,v,rfl,rfl,g2,hz,k _ G1 _ (ev.write e3 e5 h1 (g3.append (repL_cons rv repL_nil)))⟩
 ·cases e6
end
section
variable(K:Qq)(B:OA)
def TGm(n:Nat)(g:OZ):TG:=fun v σ H Q=>∃G env d env',Rel K B G σ env H/\Rep K G v d/\g d env=some env'/\∀σ' G' H',Ev K B G σ env H G' σ' env' H'->(∀j,j<n->σ'[j]? =σ[j]?)->Q σ' H'
def b4C(n:Nat)(g:List D->Env'->Option Env'):TGs:=fun vs σ H Q=>∃G env ds env',Rel K B G σ env H/\z6_ K G vs ds/\g ds env=some env'/\∀σ' G' H',Ev K B G σ env H G' σ' env' H'->(∀j,j<n->σ'[j]? =σ[j]?)->Q σ' H'
end
abbrev EG(X:Cx)(B:OA)(n:Nat)(e:Expr)(g:OZ):Prop:=PG X e (TGm X.K B n g)
abbrev EGs(X:Cx)(B:OA)(n:Nat)(es:List Expr)(g:List D->Env'->Option Env'):Prop:=PGs X es (b4C X.K B n g)
theorem a4I{X:Cx}{e:Expr}{t t':TG}(h:PG X e t)(i:∀v σ H Q,t' v σ H Q->t v σ H Q):PG X e t':=fun pins s σ H v u Q I r q=>h pins s σ H v u Q I r (i v σ H Q q)
theorem a9k{X:Cx}{e:List Expr}{t t':TGs}(h:PGs X e t)(i:∀v σ H Q,t' v σ H Q->t v σ H Q):PGs X e t':=fun pins s σ H v u Q I r q=>h pins s σ H v u Q I r (i v σ H Q q)
def gN(i:Nat):OZ:=fun d env=>some (env.set i (.dat d))
def gNl:List D->Env'->Option Env':=fun ds env=>match ds with
 |[]=>some env
 |_=>none
def gCn(g:OZ)(gs:List D->Env'->Option Env'):List D->Env'->Option Env':=fun ds env=>match ds with
 |d::ds=>(g d env).bind (gs ds)
 |[]=>none
def gT(n:Nat)(gs:List D->Env'->Option Env'):OZ:=fun d env=>match d with
 |.tup ds=>if ds.length=n then gs ds env else none
 |_=>none
section
variable{X:Cx}{B:OA}{pos:Pos}{a b c e tg:Expr}{ma mb mc:Mo D}{ms:Mo (List D)}{es:List Expr}{g:OZ}{gs:List D->Env'->Option Env'}
theorem x0_{n i:Nat}{x:Str}(hn:n≤i)(hN:X.N.Nodup)(hi:X.N[i]? =some x)(hx:Loc X.env.scope x)(hf:X.fn x=true∨X.env.scope.names.lookup x=some .local:=by first|exact .inl rfl|exact .inr rfl|assumption):EG X B n (.Name x pos) (gN i):=by
 refine a4I (b2Z hN hi hx hf) ?_
 rintro v σ H Q ⟨G,env,d,env',rl,r,e,k⟩;cases e;exact k _ G H ((Ev.refl rl).setDat r) fun j hj=>Ql (by omega)
theorem a2l{n:Nat}:EGs X B n [] gNl:=by
 refine a9k b3c ?_
 rintro vs σ H Q ⟨G,env,ds,env',rl,r,e,k⟩;unfold gNl at e;split at e
 ·cases e
  simp only[z6_]at r;exact⟨r,k _ G H (.refl rl) fun _ _=>rfl⟩
 ·cases e
theorem a0g{n:Nat}(h1:EG X B n e g)(h2:EGs X B n es gs)(hs:(assignEach (e::es) X.env).map (·.2)=assign e X.env::(assignEach es X.env).map (·.2):=by rfl):EGs X B n (e::es) (gCn g gs):=by
 refine a9k (b3d h1 h2 hs) ?_
 rintro vs σ H Q ⟨G,env,ds,env',rl,r,e,k⟩;unfold gCn at e;split at e
 ·rename_i d ds
  obtain⟨env1,e1,e2⟩:=z9_ e;simp only[z6_]at r;obtain⟨x,xs,e3,r1,r2⟩:=r;exact⟨x,xs,e3,G,env,d,env1,rl,r1,e1,fun σ1 G1 H1 ev y1=>⟨G1,env1,ds,env',ev.rel,z6_.mono ev.same _ r2,e2,fun σ2 G2 H2 ev2 y2=>k σ2 G2 H2 (ev.trans ev2) fun j hj=>(y2 j hj).trans (y1 j hj)⟩⟩
 ·cases e
theorem a2m{nb n k':Nat}(hc:X.calm=true)(h:EGs X B nb es gs)(hn:(assignEach es X.env).length=n:=by rfl)(hst:(assignEach es X.env).findIdx? (·.1)=none:=by rfl):EG X B nb (.Tuple es k' pos) (gT n gs):=by
 refine a4I (b3f hc h hn hst) ?_
 rintro v σ H Q ⟨G,env,d,env',rl,r,e,k⟩;unfold gT at e;split at e
 ·rename_i ds
  split at e
  ·rename_i hl
   simp only[Rep]at r;obtain⟨p,xs,e1,q,t⟩:=r;exact⟨p,xs,e1,rl.sub.sqT q,t.length.trans hl,G,env,ds,env',rl,t,e,k⟩
  ·cases e
 ·cases e
def gS(s:Nat)(mi:Mo D):OZ:=fun d env=>((env[s]?).bind W.mutL).bind fun _=>(mi env).bind fun p=>match p.1 with
 |.int k=>(p.2[s]?).bind fun w=>w.mutL.bind fun ds=>(ixN ds.length k).map fun j=>p.2.set s (w.put (ds.set j d))
 |_=>none
theorem a9l{n s:Nat}{x:Str}{p:Pos}(ho:PE X (.Name x p) (a0o s))(hi:ED X B b mb)
  (ha:∀v,assign (.Subscript (.Name x p) b pos) X.env v=(do
   let ov←holding [v] (eval (.Name x p) X.env)
   let iv←holding [v,ov] (eval b X.env)
   standAt pos
   holding [v,ov,iv] (setItem ov iv v)
   release [v,ov,iv] []):=by intro _;rfl):EG X B n (.Subscript (.Name x p) b pos) (gS s mb):=by
 refine a4I (a8r ho hi b4c ha) ?_
 rintro v σ H Q ⟨G,env,d,env',rl,r,e,k⟩;obtain⟨ds0,e0,e⟩:=z9_ e;obtain⟨w0,e00,em0⟩:=z9_ e0;obtain⟨⟨d1,env1⟩,e1,e2⟩:=z9_ e;dsimp only at e2;split at e2
 ·rename_i kk
  obtain⟨w,e3,e4⟩:=z9_ e2;obtain⟨ds,e5,e6⟩:=z9_ e4;obtain⟨j,e7,e8⟩:=v5_ e6;cases e8;obtain⟨q,xs0,h1,h2,h3,h4⟩:=rl.ownL s w0 ds0 e00 em0;refine⟨_,h1,.bind rl e1 fun iv G1 H1 ev r1=>?_⟩
  simp only[Rep]at r1;obtain⟨q',xs,g1,g2,g3,g4⟩:=ev.rel.ownL s w ds e3 e5;rw[h1]at g1;cases g1;exact⟨q,xs,kk,j,rfl,r1,g2,by rw[g3.length];exact e7,k _ G1 _ (ev.write e3 e5 h1 (g3.set j (Rep.mono ev.same _ r))) fun _ _=>rfl⟩
 ·cases e2
def j8_(m:Mo D)(g:OZ):Mo Fl:=fun env=>(m env).bind fun p=>(g p.1 p.2).map fun e=>(.nx,e)
theorem a3D(he:ED X B e ma)(hg:EG X B 0 tg g)(hs:swapsWithSole [tg] e pos.line X.env=pure false:=by rfl)(hw:swappedStores [tg] e X.env=pure none:=by rfl)
  (h1:(assignEach [tg] X.env).map (·.2)=[assign tg X.env]:=by rfl):ES X B (.Assign [tg] e pos) (j8_ ma g):=by
 refine ps_imp (b3h he hg hs hw h1) ?_
 rintro D σ H ⟨G,env,fl,env',rl,e,k⟩;obtain⟨⟨d1,env1⟩,e1,e2⟩:=z9_ e;obtain⟨env2,e3,e4⟩:=v5_ e2;cases e4;exact .bind rl e1 fun v G1 H1 ev r=>⟨G1,env1,d1,_,ev.rel,r,e3,fun σ2 G2 H2 ev2 _=>k σ2 G2 H2 (ev.trans ev2)⟩
def a1K(i j:Nat)(ms:Mo (List D)):Mo Fl:=fun env=>(ms env).bind fun p=>match p.1 with
 |[d,d']=>some (.nx,(p.2.set i (.dat d)).set j (.dat d'))
 |_=>none
theorem a4J{i j:Nat}{x y:Str}{px py pt pt2:Pos}{kt k2}(hc:X.calm=true)(hN:X.N.Nodup)(hi:X.N[i]? =some x)(hj:X.N[j]? =some y)(hij:i≠j)
  (hx:X.env.scope.names.lookup x=some .local)(hy:X.env.scope.names.lookup y=some .local)(ha:EDs X B [a,b] ms)
  (hw:swappedStores [.Tuple [.Name x px,.Name y py] kt pt] (.Tuple [a,b] k2 pt2) X.env=pure (some [x,y]))
  (hs:swapsWithSole [.Tuple [.Name x px,.Name y py] kt pt] (.Tuple [a,b] k2 pt2) pos.line X.env=pure false:=by rfl):
  ES X B (.Assign [.Tuple [.Name x px,.Name y py] kt pt] (.Tuple [a,b] k2 pt2) pos) (a1K i j ms):=by
 refine ps_imp (b3j hc hN hi hj hij hx hy ha hw hs) ?_
 rintro D σ H ⟨G,env,fl,env',rl,e,k⟩;obtain⟨⟨ds,env1⟩,e1,e2⟩:=z9_ e;dsimp only at e2;split at e2
 ·cases e2
  refine⟨G,env,_,env1,rl,e1,fun vs G1 H1 ev r=>?_⟩
  obtain⟨v,w,rfl,r1,r2⟩:=a4G r;exact⟨v,w,rfl,k _ G1 H1 ((ev.setDat r1).setDat r2)⟩
 ·cases e2
structure ItD(K:Qq)(J:It)(G:Hp)(ds:List D):Prop where
 go:∀i H,Le G H->i<ds.length->J.go i H
 stop:∀i H,Le G H->ds.length≤i->J.stop i H
 yld:∀i H x H' d,Le G H->J.yld i H x H'->ds[i]? =some d->(H'=H/\Rep K G x d)∨ ∃p o,NT o/\H p=none/\H'=upd H p o/\Rep K (upd G p o) x d
end
section
variable(K:Qq)(B:OA)
def TIm(m:Mo (List D)):TI:=fun σ H R=>∃G env ds env',Rel K B G σ env H/\m env=some (ds,env')/\∀J G' H',Ev K B G σ env H G' σ env' H'->ItD K J G' ds->R J H'
end
abbrev EI(X:Cx)(B:OA)(tg e:Expr)(m:Mo (List D)):Prop:=PI X tg e (TIm X.K B m)
theorem a6l{X:Cx}{tg e:Expr}{t t':TI}(h:PI X tg e t)(i:∀σ H R,t' σ H R->t σ H R):PI X tg e t':=fun pins s σ H R I q=>h pins s σ H R I (i σ H R q)
section
variable{X:Cx}{B:OA}{pos:Pos}{a b c e tg:Expr}{ma mb mc:Mo D}{ms:Mo (List D)}{es:List Expr}{g:OZ}{gs:List D->Env'->Option Env'}
def b4D(K:Qq)(tl:TE):TI:=fun σ H R=>tl σ H fun x H1=>∃a,x=.ref a/\(((∃xs,SqL K H1 a xs)/\R (Itl K a) H1)∨((∃xs,SqT K H1 a xs)/\R (Itt K a) H1))
theorem b4E{l:Expr}{tl:TE}(hl:PE X l tl):PI X tg l (b4D X.K tl):=by
 intro pins s σ H R I h;refine thn (hl pins s σ H _ I h) fun v s1 ⟨x,H1,I1,r1,q1⟩=>?_
 obtain⟨a,e,q⟩:=q1;subst e;cases r1
 rcases q with⟨⟨xs,hq⟩,q⟩|⟨⟨xs,hq⟩,q⟩
 ·obtain⟨its,rv,p,hz⟩:=I1.list hq
  refine Uv p.isList ?_
  refine⟨s1.heap.objs.size,[s1.heap.objs.size],_,_,H1,rfl,I1.kept (t':=s1.toks) fun b o e=>Qx _ e,b3m a _,⟨_,Qb _ rfl,rfl,rfl⟩,fun b hb=>?_,q⟩
  have e:b=s1.heap.objs.size:=by simpa using hb
  subst e;exact I1.fpOk (Qm _) (I1.hok.fresh (Qm _))
 ·obtain⟨its,rv,p,hz⟩:=I1.tuple hq
  refine Js (show s1.heap.IsTuple a its.toArray from p) ?_
  refine⟨s1.heap.objs.size,[s1.heap.objs.size],_,_,H1,rfl,I1.kept (t':=s1.toks) fun b o e=>Qx _ e,b3n a _,⟨_,Qb _ rfl,rfl,rfl⟩,fun b hb=>?_,q⟩
  have e:b=s1.heap.objs.size:=by simpa using hb
  subst e;exact I1.fpOk (Qm _) (I1.hok.fresh (Qm _))
def v6_(m:Mo D):Mo (List D):=fun env=>(m env).bind fun p=>p.1.items.map fun ds=>(ds,p.2)
theorem b4F{K:Qq}{G:Hp}{p:Addr}{xs:List V}{ds:List D}(q:SqL K G p xs)(r:z6_ K G xs ds):ItD K (Itl K p) G ds where
 go:=fun i H l hi=>⟨xs,xs[i]'(by rw[r.length];exact hi),l.sqL q,by simp⟩
 stop:=fun i H l hi=>⟨xs,l.sqL q,by rw[r.length];exact hi⟩
 yld:=fun i H x H' d l y e=>by
  obtain⟨rfl,y⟩:=y;obtain⟨x',e1,e2⟩:=r.get e;have:=y xs (l.sqL q);rw[e1]at this;cases this;exact .inl ⟨rfl,e2⟩
theorem b4G{K:Qq}{G:Hp}{p:Addr}{xs:List V}{ds:List D}(q:SqU K G p xs)(r:z6_ K G xs ds):ItD K (Itt K p) G ds where
 go:=fun i H l hi=>⟨xs,xs[i]'(by rw[r.length];exact hi),l.sqT q,by simp⟩
 stop:=fun i H l hi=>⟨xs,l.sqT q,by rw[r.length];exact hi⟩
 yld:=fun i H x H' d l y e=>by
  obtain⟨rfl,y⟩:=y;obtain⟨x',e1,e2⟩:=r.get e;have:=y xs (l.sqT q);rw[e1]at this;cases this;exact .inl ⟨rfl,e2⟩
theorem w2_(h:ED X B e ma):EI X B tg e (v6_ ma):=by
 refine a6l (b4E h) ?_
 rintro σ H R ⟨G,env,ds,env',rl,e,k⟩;obtain⟨⟨d,env1⟩,e1,e2⟩:=z9_ e;obtain⟨ds',e3,e4⟩:=v5_ e2;cases e4;refine .bind rl e1 fun v G1 H1 ev r=>?_
 cases d<;>first|(exact absurd (show(none:Option (List D))=some _ from e3) (by simp))|skip
 ·cases e3
  simp only[Rep]at r;obtain⟨p,xs,e5,q,t⟩:=r;exact⟨p,e5,.inr ⟨⟨xs,ev.rel.sub.sqT q⟩,k _ G1 H1 ev (b4G q t)⟩⟩
 ·cases e3
  simp only[Rep]at r;obtain⟨p,xs,e5,q,t⟩:=r;exact⟨p,e5,.inl ⟨⟨xs,ev.rel.sub.sqL q⟩,k _ G1 H1 ev (b4F q t)⟩⟩
def a0B(lo:Int)(n:Nat):List D:=(List.range n).map fun(i:Nat)=>D.int (lo+i)
theorem b4H{K:Qq}{G:Hp}{lo:Int}{n:Nat}:ItD K (Itr lo n) G (a0B lo n)where
 go:=fun i H l hi=>by
  have h:i<n:=by simpa [a0B]using hi
  exact h
 stop:=fun i H l hi=>by
  have h:n≤i:=by simpa [a0B]using hi
  exact h
 yld:=fun i H x H' d l y e=>by
  obtain⟨rfl,rfl⟩:=y;refine .inl ⟨rfl,?_⟩;unfold a0B at e;rw[Zj]at e;cases hr:(List.range n)[i]? with
  |none=>rw[hr]at e;cases e
  |some j=>
   rw[hr]at e;cases e;obtain⟨h1,h2⟩:=Qg.mp hr
   simp at h2
   subst h2;simp only[Rep]
def a0q(ms:Mo (List D)):Mo (List D):=fun env=>(ms env).bind fun p=>match p.1 with
 |[.int j]=>if-1000000<j/\j<1000000 then some (a0B 0 j.toNat,p.2)else none
 |_=>none
theorem a4K{p:Pos}(hg:Gl X "range")(hm:X.mg "range"=none)(ha:EDs X B [a] ms)(hs:starEach [a] X.env=[(false,eval a X.env)]:=by rfl):EI X B tg (.Call (.Name "range" p) [a] [] pos) (a0q ms):=by
 have h0:=b3r (tg:=tg) (p:=p) (pos:=pos) hg hm ha hs
 refine a6l h0 ?_
 rintro σ H R ⟨G,env,ds,env',rl,e,k⟩;obtain⟨⟨ds',env1⟩,e1,e2⟩:=z9_ e;dsimp only at e2;split at e2
 ·rename_i j
  split at e2
  ·rename_i hj
   cases e2;refine⟨G,env,_,_,rl,e1,fun vs G1 H1 ev r=>?_⟩
   obtain⟨v,rfl,r1⟩:=a0p r;simp only[Rep]at r1;subst r1;exact⟨j,rfl,by omega,by omega,k _ G1 H1 ev b4H⟩
  ·cases e2
 ·cases e2
def loop(g:OZ)(body:Mo Fl):List D->Mo Fl
 |[],env=>some (.nx,env)
 |d::ds,env=>(g d env).bind fun e1=>(body e1).bind fun p=>match p.1 with
  |.nx=>loop g body ds p.2
  |.ct=>loop g body ds p.2
  |.bk=>some (.nx,p.2)
  |.ret d=>some (.ret d,p.2)
  |.retL d=>some (.retL d,p.2)
def w6_(mi:Mo (List D))(g:OZ)(body:Mo Fl):Mo Fl:=fun env=>(mi env).bind fun p=>loop g body p.1 p.2
theorem a0L{iter:Expr}{body:List Stmt}{mi:Mo (List D)}{mbd:Mo Fl}(hp:PassesOwn (model X.prog X.w) X.A X.env X.xe)(hc:X.calm=true)(hi:EI X B tg iter mi)(hg:EG X B 0 tg g)(hb:ESs X B body mbd)
  (hs:∀x,foldedSetIterable iter X.env x=pure x:=by intro _;rfl):ES X B (.For tg iter body [] pos) (w6_ mi g mbd):=by
 refine ps_imp (b3u hp hc hi hg hb hs) ?_
 rintro D σ H ⟨G,env,fl,env',rl,e,k⟩;obtain⟨⟨ds,env1⟩,e1,e2⟩:=z9_ e;dsimp only at e2;refine⟨G,env,ds,env1,rl,e1,fun J G1 H1 ev1 it=>?_⟩
 refine⟨fun i m σ2 H2=>m=ds.length-i/\i≤ds.length/\∃G2 env2,Ev X.K B G σ env H G2 σ2 env2 H2/\Le G1 G2/\loop g mbd (ds.drop i) env2=some (fl,env'),⟨_,rfl,Uz _,G1,env1,ev1,Le.refl,by simpa using e2⟩,?_⟩
 rintro i m σ2 H2 ⟨rfl,hi2,G2,env2,ev2,l2,e3⟩;have lH:Le G1 H2:=l2.trans ev2.rel.sub
 by_cases hlt:i<ds.length
 ·refine .inr ⟨it.go i H2 lH hlt,fun σ' H'=>∃G3 env3,Ev X.K B G σ env H G3 σ' env3 H'/\Le G1 G3/\loop g mbd (ds.drop (i+1)) env3=some (fl,env'),?_,fun x H3 y=>?_⟩
  ·rintro σ' H' ⟨G3,env3,ev3,l3,e4⟩
   exact⟨ds.length-(i+1),by omega,rfl,hlt,G3,env3,ev3,l3,e4⟩
  ·have ed:ds.drop i=ds[i]::ds.drop (i+1):=List.drop_eq_getElem_cons hlt
   rw[ed]at e3;obtain⟨env4,e4,e5⟩:=z9_ e3;obtain⟨⟨fl5,env5⟩,e6,e7⟩:=z9_ e5;have hget:ds[i]? =some ds[i]:=by simp[hlt]
   have st:∃G3,Ev X.K B G σ env H G3 σ2 env2 H3/\Le G1 G3/\Rep X.K G3 x ds[i]:=by
    rcases it.yld i H2 x H3 ds[i] lH y hget with⟨rfl,r⟩|⟨p,o,hno,hp2,rfl,r⟩
    ·exact⟨G2,ev2,l2,Rep.mono l2 _ r⟩
    ·have gp:=ev2.rel.gnone hp2
     refine⟨upd G2 p o,ev2.trans (ev2.rel.alloc hp2 hno),l2.trans (Le.upd gp),Rep.mono (fun b u q=>?_) _ r⟩
     by_cases hb2:b=p
     ·subst hb2;rw[y6_]at q ⊢;exact q
     ·rw[q8_ hb2]at q ⊢;exact l2 b u q
   obtain⟨G3,ev3,l3,r3⟩:=st;refine⟨G3,env2,ds[i],env4,ev3.rel,r3,e4,fun σ4 G4 H4 ev4 _=>?_⟩
   have ev5:=ev3.trans ev4
   refine⟨G4,env4,fl5,env5,ev4.rel,e6,?_⟩;cases fl5 with
   |nx=>exact fun σ6 G6 H6 ev6=>⟨G6,env5,ev5.trans ev6,(l3.trans ev4.same).trans ev6.same,e7⟩
   |ct=>exact fun σ6 G6 H6 ev6=>⟨G6,env5,ev5.trans ev6,(l3.trans ev4.same).trans ev6.same,e7⟩
   |bk=>cases e7;exact fun σ6 G6 H6 ev6=>k σ6 G6 H6 (ev5.trans ev6)
   |ret d=>cases e7;exact fun v σ6 G6 H6 ev6=>k v σ6 G6 H6 (ev5.trans ev6)
   |retL d=>cases e7;exact fun a xs σ6 G6 H6 ev6=>k a xs σ6 G6 H6 (ev5.trans ev6)
 ·have ei:i=ds.length:=by omega
  subst ei;rw[List.drop_length]at e3;cases e3;exact .inl ⟨it.stop _ H2 lH (Qm _),k σ2 G2 H2 ev2⟩
end
inductive Rr where
 |d (d:D)|l (ds:List D)
abbrev Fn:=List W->Option (Rr×List W)
def j9_:OA:=fun _=>False
def a3E(ws:List W):Prop:=∀w∈ws,(∃d,w=.dat d)∨w.isPar=true
def b4I(K:Qq)(G:Hp)(vs:List V)(ws:List W)(H:Hp)(ws':List W)(Q:VK):Rr->Prop
 |.d d=>∀v G' H',Ev K j9_ G (vs.map some) ws H G' (vs.map some) ws' H'->Rep K G' v d->Q v H'
 |.l ds=>∀a xs G' H',Ev K j9_ G (vs.map some) ws H G' (vs.map some) ws' H'->H a=none-> ¬ Owned (vs.map some) ws' a->H' a=some (.lst xs)->G' a=none->z6_ K G' xs ds->Q (.ref a) H'
def SpF(K:Qq)(n:Nat)(f:Fn):Sp:=fun vs H Q _=>∃G ws r ws',ws.length=n/\a3E ws/\Rel K j9_ G (vs.map some) ws H/\f ws=some (r,ws')/\b4I K G vs ws H ws' Q r
def a3F:W->W->W
 |.par _,.par ds=>.par ds
 |.par _,.parD ks vs=>.parD ks vs
 |.parD _ _,.par ds=>.par ds
 |.parD _ _,.parD ks vs=>.parD ks vs
 |.par _,_=>.nil
 |.parD _ _,_=>.nil
 |w,_=>w
def a0r(ws env:List W):List W:=List.zipWith a3F ws env
def fnM(N:Nat)(mb:Mo Fl):Fn:=fun ws=>match mb (ws++List.replicate (N-ws.length) .nil)with
 |some (.ret d,env)=>some (.d d,a0r ws env)
 |some (.retL ds,env)=>some (.l ds,a0r ws env)
 |some (.nx,env)=>some (.d .non,a0r ws env)
 |_=>none
theorem a2n{N:List Str}{vs:List V}{i:Nat}(hi:i<vs.length):(start N vs)[i]? =(vs.map some)[i]?:=by
 unfold start;rw[Yc (by simpa using hi)]
theorem a1L{α:Type}{l:List α}{n i:Nat}{a b:α}(h:(l++List.replicate n a)[i]? =some b):(i<l.length/\l[i]? =some b)∨(l.length≤i/\b=a):=by
 by_cases hi:i<l.length
 ·rw[Yc hi]at h;exact .inl ⟨hi,h⟩
 ·rw[List.getElem?_append_right (by omega),Ut]at h
  split at h
  ·cases h;exact .inr ⟨by omega,rfl⟩
  ·cases h
section
variable{K:Qq}{G:Hp}{vs:List V}{ws:List W}{H:Hp}{N:List Str}
theorem a9m(hl:ws.length=vs.length){n:Nat}{a:Addr}:Owned (start N vs) (ws++List.replicate n .nil) a↔Owned (vs.map some) ws a:=by
 constructor
 ·rintro⟨i,w,ds,e1,e2,e3⟩
  rcases a1L e1 with⟨h1,h2⟩|⟨h1,h2⟩
  ·rw[a2n (by omega)]at e3;exact⟨i,w,ds,h2,e2,e3⟩
  ·rw[h2]at e2;cases e2
 ·rintro⟨i,w,ds,e1,e2,e3⟩
  have hi:i<ws.length:=(Qg.mp e1).1
  exact⟨i,w,ds,by rw[Yc hi];exact e1,e2,by rw[a2n (by omega)];exact e3⟩
theorem b4J(r:Rel K j9_ G (vs.map some) ws H)(ok:a3E ws)(hN:vs.length≤N.length):Rel K (fun b=>H b≠none) G (start N vs) (ws++List.replicate (N.length-ws.length) .nil) H:=by
 have hl:ws.length=vs.length:=by have:=r.len;rwa [Qk]at this
 have noOwn:∀(i:Nat) (w:W),ws[i]? =some w->w.isOwn=true->False:=fun i w e h=>by
  rcases ok _ (Jp e)with⟨d,z⟩|z
  ·subst z;cases h
  ·cases w<;>first|(cases h;done)|(cases z;done)
 refine⟨r.sub,?_,fun i d e=>?_,fun i w ds e1 e2=>?_,fun i j w w' ds es a q1 q2 q3 q4 q5 q6=>?_,fun i w a q1 qo q2=>?_,fun b h=>h,r.tabs,r.gnt⟩
 ·unfold start
  simp only[Qt,Ym,Qk]
  omega
 ·rcases a1L e with⟨h1,h2⟩|⟨h1,h2⟩
  ·obtain⟨v,e1,e2⟩:=r.dat i d h2
   exact⟨v,by rw[a2n (by omega)];exact e1,e2⟩
  ·cases h2
 ·rcases a1L e1 with⟨h1,h2⟩|⟨h1,h2⟩
  ·obtain⟨a,xs,e3,e4⟩:=r.own i w ds h2 e2
   exact⟨a,xs,by rw[a2n (by omega)];exact e3,e4⟩
  ·rw[h2]at e2;cases e2
 ·rcases a1L q1 with⟨h1,h2⟩|⟨h1,h2⟩
  ·rcases a1L q3 with⟨h3,h4⟩|⟨h3,h4⟩
   ·rw[a2n (by omega)]at q5 q6
    exact r.inj i j w w' ds es a h2 q2 h4 q4 q5 q6
   ·rw[h4]at q4;cases q4
  ·rw[h2]at q2;cases q2
 ·rcases a1L q1 with⟨h1,h2⟩|⟨h1,h2⟩
  ·exact(noOwn i w h2 qo).elim
  ·subst h2;cases qo
theorem a6m{ws env:List W}{i:Nat}{w:W}(h:(a0r ws env)[i]? =some w):∃w1 w2,ws[i]? =some w1/\env[i]? =some w2/\w=a3F w1 w2:=by
 unfold a0r at h;rw[Jx]at h;cases e1:ws[i]? with
 |none=>rw[e1]at h;cases h
 |some w1=>
  cases e2:env[i]? with
  |none=>rw[e1,e2]at h;cases h
  |some w2=>rw[e1,e2]at h;cases h;exact⟨w1,w2,rfl,rfl,rfl⟩
theorem a9n{w1 w2:W}{m:Mu}(ok:(∃d,w1=.dat d)∨w1.isPar=true)(h:(a3F w1 w2).mut=some m):w2.mut=some m/\w2.isPar=true/\a3F w1 w2=w2/\w1.isPar=true:=by
 rcases ok with⟨d,z⟩|z
 ·subst z;cases h
 ·cases w1<;>cases w2<;>first|exact⟨h,rfl,rfl,rfl⟩|(cases z;done)|(cases h;done)
theorem a6n{G':Hp}{σ':St}{env':Env'}{H':Hp}(r:Rel K j9_ G (vs.map some) ws H)(ok:a3E ws)(hN:vs.length≤N.length)
  (ev:Ev K (fun b=>H b≠none) G (start N vs) (ws++List.replicate (N.length-ws.length) .nil) H G' σ' env' H'):Ev K j9_ G (vs.map some) ws H G' (vs.map some) (a0r ws env') H':=by
 have hl:ws.length=vs.length:=by have:=r.len;rwa [Qk]at this
 have okg:∀{i:Nat}{w:W},ws[i]? =some w->(∃d,w=.dat d)∨w.isPar=true:=fun e=>ok _ (Jp e)
 have hle:ws.length≤env'.length:=by
  have h1:=ev.rel.len
  have h2:=ev.slen
  have h3:(start N vs).length=N.length:=by unfold start;simp only[Qt,Ym,Qk];omega
  omega
 have par:∀(i:Nat) (w:W) (m:Mu),(a0r ws env')[i]? =some w->w.mut=some m->∃w0,ws[i]? =some w0/\w0.isPar=true/\env'[i]? =some w/\w.isPar=true/\σ'[i]? =(vs.map some)[i]?:=fun i w m e1 e2=>by
  obtain⟨w1,w2,h1,h2,h3⟩:=a6m e1;subst h3;obtain⟨h4,h5,h6,h7⟩:=a9n (okg h1) e2;have hi:i<vs.length:=by have:=(Qg.mp h1).1;omega
  rw[h6];exact⟨w1,h1,h7,h2,h5,(ev.par i w2 h2 h5).1.trans (a2n hi)⟩
 refine⟨⟨ev.rel.sub,?_,fun i d e=>?_,fun i w ds e1 e2=>?_,fun i j w w' ds es a q1 q2 q3 q4 q5 q6=>?_,fun i w a q1 qo q2 h=>h,fun b h=>h.elim,ev.rel.tabs,ev.rel.gnt⟩,ev.same,fun b o n t e=>ev.keep b o (fun z=>n ((a9m hl).mp z)) t e,ev.live,fun b e n g=>ev.stay b e (fun z=>n ((a9m hl).mp z)) g,fun a z=>?_,fun i w e hp=>?_,rfl⟩
 ·unfold a0r
  rw[Jm,Qk];omega
 ·obtain⟨w1,w2,h1,h2,h3⟩:=a6m e
  rcases okg h1 with⟨d1,z⟩|z
  ·subst z
   cases h3;obtain⟨v,e1,e2⟩:=r.dat i d h1;exact⟨v,e1,Rep.mono ev.same d e2⟩
  ·cases w1<;>cases w2<;>first|(cases h3;done)|(cases z;done)
 ·obtain⟨d0,h1,hp,h2,h3,h4⟩:=par i w ds e1 e2
  obtain⟨a,xs,e3,e4⟩:=ev.rel.own i _ ds h2 e2;exact⟨a,xs,by rw[←h4];exact e3,e4⟩
 ·obtain⟨d0,h1,hp,h2,h3,h4⟩:=par i w ds q1 q2
  obtain⟨d1,h5,hp',h6,h7,h8⟩:=par j w' es q3 q4;exact ev.rel.inj i j _ _ ds es a h2 q2 h6 q4 (by rw[h4];exact q5) (by rw[h8];exact q6)
 ·obtain⟨i,w,ds,e1,e2,e3⟩:=z
  obtain⟨d0,h1,hp,h2,h3,h4⟩:=par i w ds e1 e2;obtain⟨m0,hm0⟩:=par_mut hp;exact .inl ⟨i,_,m0,h1,hm0,e3⟩
 ·obtain⟨m,hm⟩:=par_mut hp
  obtain⟨d0,h1,hp',h2,h3,h4⟩:=par i _ m e hm;exact⟨rfl,d0,h1,hp'⟩
end
theorem k8_{P:Program}{w:World}{K:Qq}{mg:OU}{base:Heap}{x qual:Str}{st:Stmt}{f:Addr}{fd:FuncData}{N ps:List Str}{k:Nat}{mb:Mo Fl}(F:Fun K x qual st f fd)(S:FnScope N ps (y7_ st))
  (hb:∀(cdv:Value) (A:Around) (outer:List Env) (s:Shared) (H:Hp) (E:XK),Room k (A.deeper (envOfC qual (y7_ st) s.heap.objs.size f cdv))->
   ESs (a2d CX0 P w K mg base N qual (y7_ st) f cdv A outer s H E).nox (fun b=>H b≠none) (a1m st) mb):FnOk P w K mg base CX0 (k+1) f fd ps (SpF K ps.length (fnM N.length mb)):=by
 have hpl:ps.length≤N.length:=by have:=Yq List.length S.pre;rw[Vv]at this;omega
 refine F.ok S (fun vs H Q E h=>?_) (fun cdv A outer s H vs Q E hr h=>?_)
 ·obtain⟨G,ws,r,ws',hl,ok,rl,_⟩:=h
  have:=rl.len;rw[Qk]at this;omega
 ·obtain⟨G,ws,r,ws',hl,ok,rl,e,k⟩:=h
  have hv:ws.length=vs.length:=by have:=rl.len;rwa [Qk]at this
  refine⟨_,hb cdv A outer s H E hr,?_⟩;have rl':=b4J (N:=N) rl ok (by omega)
  unfold fnM at e;split at e
  ·rename_i d env em
   cases e;refine⟨G,_,_,env,rl',em,?_⟩;exact fun v σ' G' H' ev rp=>k v G' H' (a6n rl ok (by omega) ev) rp
  ·rename_i ds env em
   cases e;refine⟨G,_,_,env,rl',em,?_⟩;intro a xs σ' G' H' ev nb no h' g' rp;refine k a xs G' H' (a6n rl ok (by omega) ev) (Um nb) ?_ h' g' rp
   rintro⟨i,w',es,e1,e2,e3⟩;obtain⟨w1,w2,q1,q2,q3⟩:=a6m e1;subst q3;obtain⟨q4,q5,q6,q7⟩:=a9n (ok _ (Jp q1)) e2;have hi:i<vs.length:=by have:=(Qg.mp q1).1;omega
   exact no ⟨i,_,es,q2,q4,by rw[(ev.par i w2 q2 q5).1,a2n hi];exact e3⟩
  ·rename_i env em
   cases e;refine⟨G,_,_,env,rl',em,?_⟩;exact fun σ' G' H' ev=>k .non G' H' (a6n rl ok (by omega) ev) (by simp only[Rep])
  ·cases e
def slots:List Ar->List Nat
 |[]=>[]
 |.d _::r=>slots r
 |.sl i::r=>i::slots r
def a2o:Mu->W
 |.l ds=>.par ds
 |.d ks vs=>.parD ks vs
theorem a9o(c:Mu):(a2o c).mut=some c:=by cases c<;>rfl
theorem a9p(c:Mu):(a2o c).isPar=true:=by cases c<;>rfl
def g0_(c:Mu):Ar->W
 |.d d=>.dat d
 |.sl _=>a2o c
def a1q:List W->Option Mu
 |[]=>none
 |.par ds::_=>some (.l ds)
 |.parD ks vs::_=>some (.d ks vs)
 |_::r=>a1q r
def a0M(n:Nat)(f:Fn)(as:Mo (List Ar)):Mo Rr:=fun env=>(as env).bind fun p=>if p.1.length=n then
 match slots p.1 with
 |[]=>(f (p.1.map (g0_ (.l [])))).map fun q=>(q.1,p.2)
 |[i]=>(p.2[i]?).bind fun w=>w.mut.bind fun c=>(f (p.1.map (g0_ c))).bind fun q=>(a1q q.2).map fun c'=>(q.1,p.2.set i (w.putM c'))
 |_=>none
 else none
theorem a2R:∀{as:List Ar},slots as=[]->∀(k j:Nat),as[k]? ≠some (.sl j)
 |[],_,k,j,e=>by simp at e
 |.d _::r,h,k,j,e=>by
  cases k with
  |zero=>simp at e
  |succ k=>exact a2R (as:=r) h k j (by simpa using e)
 |.sl i::r,h,k,j,e=>by simp[slots]at h
theorem a6o:∀{as:List Ar}{i:Nat},slots as=[i]->∃k:Nat,as[k]? =some (.sl i)/\∀(k' j:Nat),as[k']? =some (.sl j)->k'=k/\j=i
 |[],_,h=>by simp[slots]at h
 |.d _::r,i,h=>by
  obtain⟨k,h1,h2⟩:=a6o (as:=r) h;refine⟨k+1,by simpa using h1,fun k' j e=>?_⟩
  cases k' with
  |zero=>simp at e
  |succ k'=>
   obtain⟨a,b⟩:=h2 k' j (by simpa using e)
   exact⟨by omega,b⟩
 |.sl i'::r,i,h=>by
  simp only[slots,Vm]at h;obtain⟨rfl,h⟩:=h;refine⟨0,by simp,fun k' j e=>?_⟩
  cases k' with
  |zero=>simp at e;exact⟨rfl,e.symm⟩
  |succ k'=>exact absurd (by simpa using e) (a2R h k' j)
theorem a3G:∀{ws:List W}{c:Mu},a1q ws=some c->∃k:Nat,ws[k]? =some (a2o c)
 |[],_,h=>by simp[a1q]at h
 |.par ds::r,c,h=>by simp only[a1q,Zb]at h;subst h;exact⟨0,by simp[a2o]⟩
 |.parD ks vs::r,c,h=>by simp only[a1q,Zb]at h;subst h;exact⟨0,by simp[a2o]⟩
 |.nil::r,c,h=>by obtain⟨k,e⟩:=a3G (ws:=r) h;exact⟨k+1,by simpa using e⟩
 |.dat _::r,c,h=>by obtain⟨k,e⟩:=a3G (ws:=r) h;exact⟨k+1,by simpa using e⟩
 |.own _::r,c,h=>by obtain⟨k,e⟩:=a3G (ws:=r) h;exact⟨k+1,by simpa using e⟩
 |.ownD _ _::r,c,h=>by obtain⟨k,e⟩:=a3G (ws:=r) h;exact⟨k+1,by simpa using e⟩
section
variable{K:Qq}{G:Hp}{σ:St}
theorem RepA.length:∀{as:List Ar}{vs:List V},RepA K G σ vs as->vs.length=as.length
 |[],_,h=>by simp only[RepA]at h;subst h;rfl
 |.d d::as,_,h=>by
  simp only[RepA]at h;obtain⟨x,r,rfl,_,t⟩:=h
  simp[RepA.length t]
 |.sl i::as,_,h=>by
  simp only[RepA]at h;obtain⟨x,r,rfl,_,t⟩:=h
  simp[RepA.length t]
theorem RepA.getD:∀{as:List Ar}{vs:List V}{k:Nat}{d:D},RepA K G σ vs as->as[k]? =some (.d d)->∃v,vs[k]? =some v/\Rep K G v d
 |[],_,k,d,h,e=>by simp at e
 |.d d'::as,_,k,d,h,e=>by
  simp only[RepA]at h;obtain⟨x,r,rfl,q,t⟩:=h;cases k with
  |zero=>simp at e;subst e;exact⟨x,by simp,q⟩
  |succ k=>simpa using RepA.getD (k:=k) t (by simpa using e)
 |.sl i::as,_,k,d,h,e=>by
  simp only[RepA]at h;obtain⟨x,r,rfl,q,t⟩:=h;cases k with
  |zero=>simp at e
  |succ k=>simpa using RepA.getD (k:=k) t (by simpa using e)
theorem RepA.getS:∀{as:List Ar}{vs:List V}{k i:Nat},RepA K G σ vs as->as[k]? =some (.sl i)->∃v,vs[k]? =some v/\σ[i]? =some (some v)
 |[],_,k,i,h,e=>by simp at e
 |.d d'::as,_,k,i,h,e=>by
  simp only[RepA]at h;obtain⟨x,r,rfl,q,t⟩:=h;cases k with
  |zero=>simp at e
  |succ k=>simpa using RepA.getS (k:=k) t (by simpa using e)
 |.sl i'::as,_,k,i,h,e=>by
  simp only[RepA]at h;obtain⟨x,r,rfl,q,t⟩:=h;cases k with
  |zero=>simp at e;subst e;exact⟨x,by simp,q⟩
  |succ k=>simpa using RepA.getS (k:=k) t (by simpa using e)
end
section
variable{K:Qq}{B:OA}{G:Hp}{σ:St}{env:Env'}{H:Hp}{as:List Ar}{vs:List V}{c:Mu}
theorem a9q:a3E (as.map (g0_ c)):=fun w hw=>by
 obtain⟨a,_,rfl⟩:=Qe.mp hw;cases a with
 |d d=>exact .inl ⟨d,rfl⟩
 |sl i=>exact .inr (a9p c)
theorem a2S{k:Nat}{w:W}(e:(as.map (g0_ c))[k]? =some w):(∃d,as[k]? =some (.d d)/\w=.dat d)∨ ∃j,as[k]? =some (.sl j)/\w=a2o c:=by
 rw[Zj]at e;cases h:as[k]? with
 |none=>rw[h]at e;cases e
 |some a=>
  rw[h]at e;cases a with
  |d d=>cases e;exact .inl ⟨d,rfl,rfl⟩
  |sl j=>cases e;exact .inr ⟨j,rfl,rfl⟩
theorem a9r{k:Nat}{v:V}(h:vs[k]? =some v):(vs.map some)[k]? =some (some v):=by rw[Zj,h];rfl
theorem a9s{k:Nat}{v:V}(h:(vs.map some)[k]? =some (some v)):vs[k]? =some v:=by
 rw[Zj]at h;cases e:vs[k]? with
 |none=>rw[e]at h;cases h
 |some u=>rw[e]at h;cases h;rfl
theorem a9t{i:Nat}{w:W}(rl:Rel K B G σ env H)(ra:RepA K G σ vs as)(u:∀(k j:Nat),as[k]? =some (.sl j)->j=i/\env[i]? =some w/\w.mut=some c)(un:∀(k k' j j':Nat),as[k]? =some (.sl j)->as[k']? =some (.sl j')->k=k'):
  Rel K j9_ G (vs.map some) (as.map (g0_ c)) H:=by
 refine⟨rl.sub,by rw[Qk,Qk,ra.length],fun k d e=>?_,fun k v ds e1 e2=>?_,fun k k' v v' ds es a q1 q2 q3 q4 q5 q6=>?_,fun k w a e _ _ h=>h,fun b h=>h.elim,rl.tabs,rl.gnt⟩
 ·rcases a2S e with⟨d',h1,h2⟩|⟨j,h1,h2⟩
  ·cases h2
   obtain⟨v,q1,q2⟩:=ra.getD h1;exact⟨v,a9r q1,q2⟩
  ·cases c<;>cases h2
 ·rcases a2S e1 with⟨d',h1,h2⟩|⟨j,h1,h2⟩
  ·subst h2;cases e2
  ·subst h2;rw[a9o]at e2;cases e2
   obtain⟨v,q1,q2⟩:=ra.getS h1;obtain⟨rfl,q3,q4⟩:=u k j h1;obtain⟨a,xs,q5,q6,q7,q8⟩:=rl.own j w c q3 q4;rw[q2]at q5;cases q5;exact⟨a,xs,a9r q1,q6,q7,q8⟩
 ·rcases a2S q1 with⟨d',h1,h2⟩|⟨j,h1,h2⟩
  ·subst h2;cases q2
  ·rcases a2S q3 with⟨d',h3,h4⟩|⟨j',h3,h4⟩
   ·subst h4;cases q4
   ·exact un k k' j j' h1 h3
theorem a9u{i:Nat}(ra:RepA K G σ vs as)(u:∀(k j:Nat),as[k]? =some (.sl j)->j=i){a:Addr}(h:Owned (vs.map some) (as.map (g0_ c)) a):σ[i]? =some (some (V.ref a))/\∃k:Nat,as[k]? =some (Ar.sl i):=by
 obtain⟨k,v,ds,e1,e2,e3⟩:=h
 rcases a2S e1 with⟨d',h1,h2⟩|⟨j,h1,h2⟩
 ·subst h2;cases e2
 ·obtain⟨v',q1,q2⟩:=ra.getS h1
  have:=u k j h1;subst this;have e4:=a9s e3;rw[q1]at e4;cases e4;exact⟨q2,k,h1⟩
theorem a9v{G2 H2:Hp}{ws':List W}(rl:Rel K B G σ env H)(ra:RepA K G σ vs as)(hs:slots as=[])(ev:Ev K j9_ G (vs.map some) (as.map (g0_ c)) H G2 (vs.map some) ws' H2):Ev K B G σ env H G2 σ env H2:=by
 have no:∀a,¬ Owned (vs.map some) (as.map (g0_ c)) a:=fun a z=>by
  obtain⟨_,k,e⟩:=a9u (i:=0) ra (fun k j e=>absurd e (a2R hs k j)) z
  exact a2R hs k 0 e
 refine⟨⟨ev.rel.sub,rl.len,fun i d e=>?_,fun i w ds e1 e2=>?_,rl.inj,rl.fresh,fun b h=>ev.live b (rl.old b h),ev.rel.tabs,ev.rel.gnt⟩,ev.same,fun b o _ t e=>ev.keep b o (no b) t e,ev.live,fun b e _ g=>ev.stay b e (no b) g,fun a z=>.inl z,fun i w e hp=>⟨rfl,w,e,hp⟩,rfl⟩
 ·obtain⟨v,q1,q2⟩:=rl.dat i d e
  exact⟨v,q1,Rep.mono ev.same d q2⟩
 ·obtain⟨a,xs,q1,q2,q3,q4⟩:=rl.own i w ds e1 e2
  exact⟨a,xs,q1,ev.keep a _ (no a) q3.nt q2,q3.mono ev.same,ev.stay a (by rw[q2];simp) (no a) q4⟩
theorem a9w{G2 H2:Hp}{ws':List W}{i:Nat}{w:W}{c':Mu}(rl:Rel K B G σ env H)(ra:RepA K G σ vs as)(hs:slots as=[i])(e1:env[i]? =some w)(e2:w.mut=some c)(hp:a1q ws'=some c')
  (ev:Ev K j9_ G (vs.map some) (as.map (g0_ c)) H G2 (vs.map some) ws' H2):Ev K B G σ env H G2 σ (env.set i (w.putM c')) H2:=by
 obtain⟨k,hk,uk⟩:=a6o hs;obtain⟨a,xs,h1,h2,h3,h4⟩:=rl.own i w c e1 e2;have ow:Owned σ env a:=⟨i,w,c,e1,e2,h1⟩;have isA:∀b,Owned (vs.map some) (as.map (g0_ c)) b->b=a:=fun b z=>by
  obtain⟨q,_⟩:=a9u ra (fun k j e=>(uk k j e).2) z
  rw[h1]at q;cases q;rfl
 obtain⟨k',hk'⟩:=a3G hp;have ek:k'=k:=by
  obtain⟨_,d0,q,qp⟩:=ev.par k' _ hk' (a9p c')
  rcases a2S q with⟨d',z1,z2⟩|⟨j,z1,z2⟩
  ·subst z2;cases qp
  ·exact(uk k' j z1).1
 subst ek;obtain⟨a2,ys,g1,g2,g3,g4⟩:=ev.rel.own k' _ c' hk' (a9o c');obtain⟨v,q1,q2⟩:=ra.getS hk;have g5:=a9s g1;rw[q1]at g5;cases g5;rw[h1]at q2;cases q2;have wp:(w.putM c').mut=some c':=W.putM_mut e2 c';have nd:∀d,w.putM c'≠.dat d:=fun d z=>by rw[z]at wp;cases wp
 refine⟨⟨ev.rel.sub,by rw[Zl];exact rl.len,fun j d' q=>?_,fun j v es y1 y2=>?_,fun j m v v' es fs b y1 y2 y3 y4 y5 y6=>?_,fun j v b y1 yo y2=>?_,fun b h=>ev.live b (rl.old b h),ev.rel.tabs,ev.rel.gnt⟩,ev.same,fun b o n t e=>ev.keep b o (fun z=>n (isA b z ▸ ow)) t e,ev.live,fun b e n g=>ev.stay b e (fun z=>n (isA b z ▸ ow)) g,fun b z=>.inl ?_,fun j v q qp=>⟨rfl,?_⟩,rfl⟩
 ·rcases k6_ q with⟨z1,z2⟩|⟨z1,z2⟩
  ·exact absurd z2.symm (nd d')
  ·obtain⟨v,q1,q2⟩:=rl.dat j d' z2
   exact⟨v,q1,Rep.mono ev.same d' q2⟩
 ·rcases k6_ y1 with⟨z1,z2⟩|⟨z1,z2⟩
  ·subst z1 z2
   rw[wp]at y2;cases y2;exact⟨a,ys,h1,g2,g3,g4⟩
  ·obtain⟨p,zs,f1,f2,f3,f4⟩:=rl.own j v es z2 y2
   have hp:p≠a:=fun z=>z1 (rl.inj j i v w es c a z2 y2 e1 e2 (by rw[f1,z]) h1)
   have np:¬ Owned (vs.map some) (as.map (g0_ c)) p:=fun z=>hp (isA p z)
   exact⟨p,zs,f1,ev.keep p _ np f3.nt f2,f3.mono ev.same,ev.stay p (by rw[f2];simp) np f4⟩
 ·have g:∀(m:Nat) (v:W) (es:Mu),(env.set i (w.putM c'))[m]? =some v->v.mut=some es->∃v0 es0,env[m]? =some v0/\v0.mut=some es0:=fun m v es y1 y2=>by
   rcases k6_ y1 with⟨z1,z2⟩|⟨z1,z2⟩
   ·rw[z1];exact⟨w,c,e1,e2⟩
   ·exact⟨v,es,z2,y2⟩
  obtain⟨v0,es0,x1,x2⟩:=g j v es y1 y2;obtain⟨v1,es1,x3,x4⟩:=g m v' fs y3 y4;exact rl.inj j m v0 v1 es0 es1 b x1 x2 x3 x4 y5 y6
 ·rcases k6_ y1 with⟨z1,z2⟩|⟨z1,z2⟩
  ·subst z1
   exact rl.fresh j w b e1 (by rw[z2,W.putM_own e2]at yo;exact yo) y2
  ·exact rl.fresh j v b z2 yo y2
 ·obtain⟨j,v,es,y1,y2,y3⟩:=z
  rcases k6_ y1 with⟨z1,z2⟩|⟨z1,z2⟩
  ·rw[z1,h1]at y3;cases y3;exact ow
  ·exact⟨j,v,es,z2,y2,y3⟩
 ·rcases k6_ q with⟨z1,z2⟩|⟨z1,z2⟩
  ·subst z1
   exact⟨w,e1,by rw[z2,W.putM_par e2]at qp;exact qp⟩
  ·exact⟨v,z2,qp⟩
end
def asD:Rr×Env'->Option (D×Env')
 |(.d d,e)=>some (d,e)
 |_=>none
def asL:Rr×Env'->Option (List D×Env')
 |(.l d,e)=>some (d,e)
 |_=>none
def mCD(n:Nat)(f:Fn)(as:Mo (List Ar)):Mo D:=fun env=>(a0M n f as env).bind asD
def x6_(n:Nat)(f:Fn)(as:Mo (List Ar)):Mo (List D):=fun env=>(a0M n f as env).bind asL
def b4K(K:Qq)(B:OA)(G:Hp)(σ:St)(env:Env')(H:Hp)(env':Env')(Q:VK):Rr->Prop
 |.d d=>∀v G' H',Ev K B G σ env H G' σ env' H'->Rep K G' v d->Q v H'
 |.l ds=>∀a xs G' H',Ev K B G σ env H G' σ env' H'->H a=none-> ¬ Owned σ env' a->H' a=some (.lst xs)->G' a=none->z6_ K G' xs ds->Q (.ref a) H'
theorem a9x{K:Qq}{B:OA}{n:Nat}{f:Fn}{as:Mo (List Ar)}{σ:St}{H:Hp}{G:Hp}{env env':Env'}{r:Rr}{Q:VK}{E:XK}(rl:Rel K B G σ env H)(e:a0M n f as env=some (r,env'))
  (k:b4K K B G σ env H env' Q r):
  a8D (SpF K n f) [] E (TAm K B as) σ H Q:=by
 obtain⟨⟨av,env1⟩,e1,e2⟩:=z9_ e;dsimp only at e2;split at e2
 ·rename_i hn
  refine⟨G,env,av,env1,rl,e1,fun vs G1 H1 ev ra=>?_⟩
  show SpF K n f (vs++[]) H1 Q E;rw[Yl];have hnone:∀a,H1 a=none->H a=none:=fun a h=>by
   cases q:H a with
   |none=>rfl
   |some o=>exact absurd h (ev.live a (by rw[q];simp))
  split at e2
  ·rename_i hs
   obtain⟨⟨r',ws'⟩,e3,e4⟩:=v5_ e2;cases e4;refine⟨G1,av.map (g0_ (.l [])),r',ws',by rw[Qk];exact hn,a9q,a9t (i:=0) (w:=.nil) ev.rel ra (fun k j e=>absurd e (a2R hs k j)) (fun k k' j j' e=>absurd e (a2R hs k j)),e3,?_⟩
   cases r' with
   |d d=>exact fun v G2 H2 ev2 rp=>k v G2 H2 (ev.trans (a9v ev.rel ra hs ev2)) rp
   |l ds=>
    intro a xs G2 H2 ev2 ha no h' g' rp;exact k a xs G2 H2 (ev.trans (a9v ev.rel ra hs ev2)) (hnone a ha) (ev.rel.unowned ha) h' g' rp
  ·rename_i i hs
   obtain⟨w,e3,e4⟩:=z9_ e2;obtain⟨c,e5,e6⟩:=z9_ e4;obtain⟨⟨r',ws'⟩,e7,e8⟩:=z9_ e6;obtain⟨c',e9,e10⟩:=v5_ e8;cases e10;obtain⟨kk,hk,uk⟩:=a6o hs;refine⟨G1,av.map (g0_ c),r',ws',by rw[Qk];exact hn,a9q,a9t (i:=i) (w:=w) ev.rel ra (fun k j e=>⟨(uk k j e).2,e3,e5⟩) (fun k k' j j' h1 h2=>(uk k j h1).1.trans (uk k' j' h2).1.symm),e7,?_⟩
   cases r' with
   |d d=>exact fun v G2 H2 ev2 rp=>k v G2 H2 (ev.trans (a9w ev.rel ra hs e3 e5 e9 ev2)) rp
   |l ds=>
    intro a xs G2 H2 ev2 ha no h' g' rp;have evc:=a9w ev.rel ra hs e3 e5 e9 ev2;refine k a xs G2 H2 (ev.trans evc) (hnone a ha) (fun z=>?_) h' g' rp
    rcases evc.sub a z with q|q
    ·exact ev.rel.unowned ha q
    ·obtain⟨j,v,es,y1,y2,y3⟩:=z
     rcases k6_ y1 with⟨z1,z2⟩|⟨z1,z2⟩
     ·subst z1
      exact ev.rel.unowned ha ⟨j,w,c,e3,e5,y3⟩
     ·exact ev.rel.unowned ha ⟨j,v,es,z2,y2,y3⟩
  ·cases e2
 ·cases e2
section
variable{X:Cx}{B:OA}{pos p:Pos}{e:Expr}{es:List Expr}{as:Mo (List Ar)}{fn:Fn}{k:Nat}{f:Addr}{fd:FuncData}{ps:List Str}{x:Str}
theorem b4L(F:FnOk X.prog X.w X.K X.mg X.base CX0 k f fd ps (SpF X.K ps.length fn))(hr:Room k X.A)(hg:Gl X x)(hm:X.mg x=some (.ref f))(hk:PySem.W.keepIn X.K (.ref f)=true)(hb:a0e X.K fd ps [])
  (ha:EAr X B (e::es) as)(hdb:(x==("__debug__":Str))=false:=by decide)(he:starEach (e::es) X.env=(false,eval e X.env)::starEach es X.env:=by rfl)(hpl:(backTo pos (starEach es X.env)).any (·.1)=false:=by rfl):
  ED X B (.Call (.Name x p) (e::es) [] pos) (mCD ps.length fn as):=by
 refine pe_imp (a5R F hr hg hm hk hb .nil a5V ha hdb he hpl) ?_
 rintro σ H Q ⟨G,env,d,env',rl,e,k⟩;obtain⟨⟨r,env1⟩,e1,e2⟩:=z9_ e;cases r with
 |d d'=>cases e2;exact a9x rl e1 k
 |l ds=>cases e2
theorem b4M(F:FnOk X.prog X.w X.K X.mg X.base CX0 k f fd ps (SpF X.K ps.length fn))(hr:Room k X.A)(hg:Gl X x)(hm:X.mg x=some (.ref f))(hk:PySem.W.keepIn X.K (.ref f)=true)(hb:a0e X.K fd ps [])
  (ha:EAr X B (e::es) as)(hdb:(x==("__debug__":Str))=false:=by decide)(he:starEach (e::es) X.env=(false,eval e X.env)::starEach es X.env:=by rfl)(hpl:(backTo pos (starEach es X.env)).any (·.1)=false:=by rfl):
  EL X B (.Call (.Name x p) (e::es) [] pos) (x6_ ps.length fn as):=by
 refine pe_imp (a5R F hr hg hm hk hb .nil a5V ha hdb he hpl) ?_
 rintro σ H Q ⟨G,env,d,env',rl,e,k⟩;obtain⟨⟨r,env1⟩,e1,e2⟩:=z9_ e;cases r with
 |d d'=>cases e2
 |l ds=>cases e2;exact a9x rl e1 k
end
def j7_(cells:List (Str×Addr)):List (Str×NameKind)->List (Str×Addr)->List (Str×Addr)
 |[],acc=>acc
 |(n,k)::r,acc=>if k==.free then(match cells.lookup n with
  |some c=>j7_ cells r ((n,c)::acc)
  |none=>j7_ cells r acc)else j7_ cells r acc
theorem u9_{α:Type}{n x:Str}{a:α}{r:List (Str×α)}:((n,a)::r).lookup x=if x=n then some a else r.lookup x:=by
 rw[List.lookup_cons]
 by_cases h:x=n
 ·subst h;simp
 ·have:(x==n)=false:=by simpa using h
  rw[this,Qs h]
theorem a2p{cells:List (Str×Addr)}:∀{names:List (Str×NameKind)}{acc:List (Str×Addr)}{x:Str}{c:Addr},(j7_ cells names acc).lookup x=some c->acc.lookup x=some c∨cells.lookup x=some c
 |[],acc,x,c,h=>.inl h
 |(n,k)::r,acc,x,c,h=>by
  unfold j7_ at h;split at h
  ·split at h
   ·rename_i c' hc
    rcases a2p h with q|q
    ·rw[u9_]at q
     split at q
     ·rename_i e;subst e;cases q;exact .inr hc
     ·exact .inl q
    ·exact .inr q
   ·exact a2p h
  ·exact a2p h
theorem a4L{cells:List (Str×Addr)}:∀{names:List (Str×NameKind)}{acc:List (Str×Addr)}{x:Str},(acc.lookup x).isSome=true->((j7_ cells names acc).lookup x).isSome=true
 |[],acc,x,h=>h
 |(n,k)::r,acc,x,h=>by
  unfold j7_;split
  ·split
   ·refine a4L ?_
    rw[u9_];split<;>simp[h]
   ·exact a4L h
  ·exact a4L h
theorem a3H{cells:List (Str×Addr)}:∀{names:List (Str×NameKind)}{acc:List (Str×Addr)}{x:Str},(x,NameKind.free)∈names->(cells.lookup x).isSome=true->((j7_ cells names acc).lookup x).isSome=true
 |[],acc,x,h,_=>by cases h
 |(n,k)::r,acc,x,h,hc=>by
  unfold j7_
  rcases Qn.mp h with e|h
  ·cases e
   rw[Qc (by decide)]
   split
   ·refine a4L ?_
    rw[u9_];simp
   ·rename_i hn;rw[hn]at hc;cases hc
  ·split
   ·split
    ·exact a3H h hc
    ·exact a3H h hc
   ·exact a3H h hc
theorem a6p:∀{names:List (Str×NameKind)}{h:Heap}{acc:List (Str×Addr)}{x:Str}{c:Addr},(cellsFrom h.objs.size names acc).lookup x=some c->
  acc.lookup x=some c∨((pushCells h names).IsCell c none/\h.objs.size≤c/\(x,NameKind.cell)∈names)
 |[],h,acc,x,c,q=>.inl q
 |(n,k)::r,h,acc,x,c,q=>by
  unfold cellsFrom at q;unfold pushCells;split at q
  ·rename_i hk
   rw[Qc hk];have hk':k=.cell:=by simpa using hk
   have ih:=a6p (names:=r) (h:=h.push {cls:=.type "cell",data:=.cell none}) (acc:=(n,h.objs.size)::acc) (x:=x) (c:=c) (by rw[Zi];exact q)
   rcases ih with z|⟨z1,z2,z3⟩
   ·rw[u9_]at z
    split at z
    ·rename_i e;subst e;cases z
     exact .inr ⟨⟨_,Vn _ _ _ _ (Qb _ rfl),rfl⟩,Qm _,by rw[hk'];exact Zv⟩
    ·exact .inl z
   ·rw[Zi]at z2
    exact .inr ⟨z1,by omega,Qa _ z3⟩
  ·rename_i hk
   rw[Qs hk]
   rcases a6p q with z|⟨z1,z2,z3⟩
   ·exact .inl z
   ·exact .inr ⟨z1,z2,Qa _ z3⟩
theorem a6q:∀{names:List (Str×NameKind)}{n:Nat}{acc:List (Str×Addr)},(∀x y c,acc.lookup x=some c->acc.lookup y=some c->x=y)->(∀x c,acc.lookup x=some c->c<n)->
  ∀x y c,(cellsFrom n names acc).lookup x=some c->(cellsFrom n names acc).lookup y=some c->x=y
 |[],n,acc,h1,h2=>h1
 |(m,k)::r,n,acc,h1,h2=>by
  unfold cellsFrom;split
  ·refine a6q (names:=r) (fun x y c q1 q2=>?_) (fun x c q=>?_)
   ·rw[u9_]at q1 q2
    split at q1<;>split at q2
    ·rename_i e1 e2;rw[e1,e2]
    ·cases q1;exact absurd (h2 _ _ q2) (Yg _)
    ·cases q2;exact absurd (h2 _ _ q1) (Yg _)
    ·exact h1 x y c q1 q2
   ·rw[u9_]at q
    split at q
    ·cases q;exact Xg _
    ·exact Uw (h2 _ _ q)
  ·exact a6q (names:=r) h1 h2
theorem a4M{env:Env}{x:Str}:∀{names:List (Str×NameKind)},((names.map fun(n,k)=>if(k==NameKind.free&&env.scope.kind==.function&&env.kindOf n==some .cell)then(n,NameKind.cell)else(n,k)).lookup x)=
  (names.lookup x).map fun k=>if(k==NameKind.free&&env.scope.kind==.function&&env.kindOf x==some .cell)then NameKind.cell else k
 |[]=>rfl
 |(n,k)::r=>by
  have ih:=a4M (env:=env) (x:=x) (names:=r)
  show List.lookup x ((if(k==NameKind.free&&env.scope.kind==.function&&env.kindOf n==some .cell)=true then(n,NameKind.cell)else(n,k))::_)=_
  by_cases hx:x=n
  ·subst hx
   rw[u9_ (a:=k),Qc rfl]
   by_cases hc:(k==NameKind.free&&env.scope.kind==.function&&env.kindOf x==some .cell)=true
   ·rw[Qc hc,u9_,Qc rfl]
    show _=some (if(k==NameKind.free&&env.scope.kind==.function&&env.kindOf x==some .cell)=true then NameKind.cell else k)
    rw[Qc hc]
   ·rw[Qs hc,u9_,Qc rfl]
    show _=some (if(k==NameKind.free&&env.scope.kind==.function&&env.kindOf x==some .cell)=true then NameKind.cell else k)
    rw[Qs hc]
  ·rw[u9_ (a:=k),Qs hx]
   by_cases hc:(k==NameKind.free&&env.scope.kind==.function&&env.kindOf n==some .cell)=true
   ·rw[Qc hc,u9_,Qs hx];exact ih
   ·rw[Qs hc,u9_,Qs hx];exact ih
theorem a4N:∀{names:List (Str×NameKind)}{n:Nat}{acc:List (Str×Addr)}{x:Str}{c0:Addr},acc.lookup x=some c0->∃c,(cellsFrom n names acc).lookup x=some c/\(c=c0∨n≤c)
 |[],n,acc,x,c0,h=>⟨c0,h,.inl rfl⟩
 |(m,k)::r,n,acc,x,c0,h=>by
  unfold cellsFrom;split
  ·by_cases hx:x=m
   ·obtain⟨c,h1,h2⟩:=a4N (names:=r) (n:=n+1) (acc:=(m,n)::acc) (x:=x) (c0:=n) (by rw[u9_,Qc hx])
    exact⟨c,h1,.inr (h2.elim (fun z=>Nat.le_of_eq z.symm) fun z=>Jy z)⟩
   ·obtain⟨c,h1,h2⟩:=a4N (names:=r) (n:=n+1) (acc:=(m,n)::acc) (x:=x) (c0:=c0) (by rw[u9_,Qs hx];exact h)
    exact⟨c,h1,h2.elim .inl fun z=>.inr (Jy z)⟩
  ·exact a4N h
theorem a6r:∀{names:List (Str×NameKind)}{n:Nat}{acc:List (Str×Addr)}{x:Str},(x,NameKind.cell)∈names->∃c,(cellsFrom n names acc).lookup x=some c/\n≤c
 |[],n,acc,x,h=>by cases h
 |(m,k)::r,n,acc,x,h=>by
  unfold cellsFrom
  rcases Qn.mp h with e|h
  ·cases e
   rw[Qc (by decide)]
   obtain⟨c,h1,h2⟩:=a4N (names:=r) (n:=n+1) (acc:=(m,n)::acc) (x:=m) (c0:=n) (by rw[u9_,Qc rfl])
   exact⟨c,h1,h2.elim (fun z=>Nat.le_of_eq z.symm) fun z=>Jy z⟩
  ·split
   ·obtain⟨c,h1,h2⟩:=a6r (names:=r) (n:=n+1) (acc:=(m,n)::acc) h
    exact⟨c,h1,Jy h2⟩
   ·exact a6r h
def a2T(scope:Scope)(env:Env)(C:Addr):Env:=
 {scope:=relabel scope env,locals:=C,globals:=env.globals,cells:=cellsFrom (C+1) scope.names (j7_ env.cells scope.names []),qual:=env.qual,func:=none,code:=env.code,frame:=env.frame,builtins:=env.builtins}
def y1_(X:Cx)(N':List Str)(scope:Scope)(s:Shared)(H:Hp)(fp:List Addr):Cx where
 prog:=X.prog
 w:=X.w
 K:=X.K
 mg:=X.mg
 base:=X.base
 A:=X.A
 N:=N'
 s₀:=s
 H₀:=H
 env:=a2T scope X.env s.heap.objs.size
 outer:=X.stack
 stack:=X.stack
 ex:=fp
 fn:=fun x=>scope.names.lookup x==some .cell
 calm:=X.calm
 pn:=[]
 xe:=fun _ _=>False
structure CompOk(X:Cx)(N':List Str)(scope:Scope)(keep:List Bool)(more:Nat):Prop where
 kind:scope.kind=.function
 uniq:∀y∈scope.names,scope.names.lookup y.1=some y.2
 clos:closureFor scope X.env=pure (j7_ X.env.cells scope.names [])
 free:∀y∈scope.names,y.2=.free->(X.env.cells.lookup y.1).isSome=true
 klen:keep.length=X.N.length
 len:N'.length=X.N.length+more
 kept:∀(i:Nat) (x:Str),keep[i]? =some true->N'[i]? =some x->X.N[i]? =some x/\scope.names.lookup x≠some .local/\scope.names.lookup x≠some .cell
 outVis:∀(i:Nat) (x:Str),keep[i]? =some true->X.N[i]? =some x->scope.names.lookup x=some .free->X.env.scope.names.lookup x=some .cell∨X.env.scope.names.lookup x=some .free
def u2_(keep:List Bool)(more:Nat)(σ:St):St:=List.zipWith (fun k v=>if k then v else none) keep σ++List.replicate more none
theorem a2U{keep:List Bool}{more:Nat}{σ:St}{i:Nat}{v:V}(h:(u2_ keep more σ)[i]? =some (some v)):keep[i]? =some true/\σ[i]? =some (some v):=by
 unfold u2_ at h
 rcases a1L h with⟨_,h⟩|⟨_,h⟩
 ·rw[Jx]at h
  cases e1:keep[i]? with
  |none=>rw[e1]at h;cases h
  |some k=>
   cases e2:σ[i]? with
   |none=>rw[e1,e2]at h;cases h
   |some u=>
    rw[e1,e2]at h;cases k with
    |true=>simp at h;exact⟨rfl,by rw[h]⟩
    |false=>simp at h
 ·cases h
theorem b4N{X:Cx}{N':List Str}{scope:Scope}{keep:List Bool}{more:Nat}{pins:OX}{σ:St}{H:Hp}{s:Shared}{fp:List Addr}(ok:CompOk X N' scope keep more)(I:Inv X pins σ H s)
  (hf:∀b∈fp,u7_ X pins H b/\b<s.heap.objs.size):
  Inv (y1_ X N' scope s H fp) [] (u2_ keep more σ) H {s with heap:=pushCells (s.heap.push {cls:=.type "dict",data:=.dict #[]}) scope.names}:=by
 have hsz:(s.heap.push {cls:=.type "dict",data:=.dict #[]}).objs.size=s.heap.objs.size+1:=Zi ..
 have keepAll:∀b u,s.heap.get? b=some u->(pushCells (s.heap.push {cls:=.type "dict",data:=.dict #[]}) scope.names).get? b=some u:=fun b u e=>Vn _ _ _ _ (Qx _ e)
 have cases':∀x c,(a2T scope X.env s.heap.objs.size).cells.lookup x=some c->X.env.cells.lookup x=some c∨((pushCells (s.heap.push {cls:=.type "dict",data:=.dict #[]}) scope.names).IsCell c none/\s.heap.objs.size+1≤c/\(x,NameKind.cell)∈scope.names):=fun x c e=>by
  have e':(cellsFrom ((s.heap.push {cls:=.type "dict",data:=.dict #[]}).objs.size) scope.names (j7_ X.env.cells scope.names [])).lookup x=some c:=by rw[hsz];exact e
  rcases a6p e' with z|⟨z1,z2,z3⟩
  ·rcases a2p z with y|y
   ·cases y
   ·exact .inl y
  ·rw[hsz]at z2;exact .inr ⟨z1,z2,z3⟩
 have cellLt:∀x c,X.env.cells.lookup x=some c->c<s.heap.objs.size:=fun x c e=>by
  obtain⟨v,q⟩:=I.cell x c e;exact q.lt
 have fsSub:∀b∈frs X.stack,b<s.heap.objs.size:=fun b hb=>by
  obtain⟨_,o,ho,_⟩:=I.stack.mem hb;exact Qu ho
 refine⟨⟨I.ok.mod,?_,I.ok.glob,I.ok.blt,Qm _,fun x y c e1 e2=>?_,fun x hx=>?_,fun x c e1 e2=>?_,I.ok.hd,I.ok.frames,.inl rfl,fun b hb=>?_,I.bs,Zo I.ok.bsz I.sz,fun b o e hb=>?_,fun b hb hb2=>?_,I.stack,I.stkFree⟩,
  rfl,I.bare,Un.kept keepAll,⟨fun _=>none,(Heap.Ns.new s.heap (.type "dict")).keeps (Vn _ _),fun i x v e1 e2 e3=>?_⟩,fun x c e=>?_,I.hok.fresh (Qm _),fun x c e=>?_,fun p hp=>absurd (show p∈([]:OX)from hp) (by simp),I.hok.kept keepAll,?_⟩
 ·show(relabel scope X.env).kind=.function
  exact ok.kind
 ·refine a6q (names:=scope.names) (n:=s.heap.objs.size+1) (acc:=j7_ X.env.cells scope.names []) (fun x y c q1 q2=>?_) (fun x c q=>?_) x y c e1 e2
  ·rcases a2p q1 with z1|z1
   ·cases z1
   ·rcases a2p q2 with z2|z2
    ·cases z2
    ·exact I.ok.inj x y c z1 z2
  ·rcases a2p q with z1|z1
   ·cases z1
   ·exact Uw (cellLt x c z1)
 ·have hx':(relabel scope X.env).names.lookup x=some .cell∨(relabel scope X.env).names.lookup x=some .free:=hx
  have h1:scope.names.lookup x=some .cell∨scope.names.lookup x=some .free:=by
   unfold relabel at hx';rw[a4M]at hx';cases q:scope.names.lookup x with
   |none=>rw[q]at hx';simp at hx'
   |some k=>
    rw[q]at hx';cases k<;>simp at hx'<;>first|exact .inl rfl|exact .inr rfl
  refine Jf.mp (Uq scope.names _ _ ?_)
  rcases h1 with h1|h1
  ·exact .inl h1
  ·exact .inr (a3H (Zu h1) (ok.free _ (Zu h1) rfl))
 ·have e1':scope.names.lookup x=some .cell:=by simpa [y1_]using e1
  obtain⟨c',q1,q2⟩:=a6r (names:=scope.names) (n:=s.heap.objs.size+1) (acc:=j7_ X.env.cells scope.names []) (Zu e1');have e2':(cellsFrom (s.heap.objs.size+1) scope.names (j7_ X.env.cells scope.names [])).lookup x=some c:=e2;rw[q1]at e2';cases e2';exact Jy q2
 ·refine⟨Qi (hf b hb).2,fun x c e z=>?_⟩
  rcases cases' x c e with y|⟨_,y,_⟩
  ·exact(hf b hb).1.2.2.2.2.1 x c y z
  ·exact absurd (Qd (hf b hb).2 (Jy y)) (by rw[z];exact Yg _)
 ·have:=(I.bs b o e).1
  rcases(hf b hb).1.2.2.2.1 with z|z
  ·exact I.ok.noex b o e z
  ·exact absurd (Qd (Qu e) (Zo I.ok.bsz z)) (Yg _)
 ·rcases Qn.mp (I.stkSub b hb2)with z|z
  ·exact(hf b hb).1.2.1 z
  ·exact(hf b hb).1.2.2.1 z
 ·obtain⟨k1,k2⟩:=a2U e2
  obtain⟨h1,h2,h3⟩:=ok.kept i x k1 e1;have e3':(relabel scope X.env).names.lookup x=some .local∨(relabel scope X.env).names.lookup x=some .cell∨(relabel scope X.env).names.lookup x=some .free:=e3;have hfree:scope.names.lookup x=some .free:=by
   unfold relabel at e3';rw[a4M]at e3';cases q:scope.names.lookup x with
   |none=>rw[q]at e3';simp at e3'
   |some k=>
    rw[q]at e3' h2 h3;cases k<;>simp at e3' h2 h3<;>rfl
  obtain⟨m,hn,hl⟩:=I.loc;have ov:=ok.outVis i x k1 h1 hfree;obtain⟨u,r,l⟩:=hl i x v h1 k2 (.inr ov);refine⟨u,r,.inr ?_⟩;obtain⟨c0,hc0⟩:=Jf.mp (ok.free _ (Zu hfree) rfl);have hcell:s.heap.IsCell c0 (some u):=by
   rcases l with⟨kl,_⟩|⟨_,c,hc,hz⟩
   ·have kl':X.env.scope.names.lookup x=some .local:=kl
    rcases ov with z|z<;>(rw[z]at kl';cases kl')
   ·have hc':X.env.cells.lookup x=some c:=hc
    have hc0':X.env.cells.lookup x=some c0:=hc0
    rw[hc']at hc0';cases hc0';exact hz
  have hk:(a2T scope X.env s.heap.objs.size).kindOf x=some .cell∨(a2T scope X.env s.heap.objs.size).kindOf x=some .free:=by
   show(relabel scope X.env).names.lookup x=some .cell∨(relabel scope X.env).names.lookup x=some .free
   rcases e3' with z|z
   ·exfalso
    unfold relabel at z;rw[a4M,hfree]at z;simp only[Yu,Zb]at z;split at z<;>cases z
   ·exact z
  refine⟨hk,c0,?_,hcell.keeps keepAll⟩;obtain⟨c1,hc1⟩:=Jf.mp (Uq (x:=x) scope.names (s.heap.objs.size+1) (j7_ X.env.cells scope.names []) (.inr (a3H (Zu hfree) (ok.free _ (Zu hfree) rfl))));have hc1':(a2T scope X.env s.heap.objs.size).cells.lookup x=some c1:=hc1
  rcases cases' x c1 hc1' with z|⟨_,_,z⟩
  ·have hc0':X.env.cells.lookup x=some c0:=hc0
   rw[hc0']at z;cases z;exact hc1'
  ·have:=ok.uniq _ z
   rw[hfree]at this;cases this
 ·rcases cases' x c e with y|⟨y,_,_⟩
  ·obtain⟨v,q⟩:=I.cell x c y
   exact⟨v,q.keeps keepAll⟩
  ·exact⟨none,y⟩
 ·rcases cases' x c e with y|⟨_,y,_⟩
  ·exact I.freeC x c y
  ·exact I.hok.fresh (by omega)
 ·show(u2_ keep more σ).length=N'.length
  unfold u2_;rw[Qt,Jm,Ym,ok.len,ok.klen,I.len]
  omega
section
variable{prog:Program}{w:World}{A:Around}{R:Result->Shared->Prop}{s:Shared}
theorem b4O{M:Model}{E:OE}{scope:Scope}{env:Env}{Q:Env->Shared->Prop}(cl:List (Str×Addr))
  (h:Q {scope:=scope,locals:=s.heap.objs.size,globals:=env.globals,cells:=cellsFrom (s.heap.objs.size+1) scope.names cl,qual:=env.qual,func:=none,code:=env.code,frame:=env.frame,builtins:=env.builtins}
   {s with heap:=pushCells (s.heap.push {cls:=.type "dict",data:=.dict #[]}) scope.names}):
  wpAny M A (newFunctionEnv scope env.globals cl [] env.qual none .none (some env)) Q E s:=by
 simp only[newFunctionEnv,Option.isSome_some,Zh];refine Qz (wpAny_alloc ?_);refine Qz (wpAny_layCells _ (fun name kind cells=>by cases hkc:kind==NameKind.cell<;>simp[hkc]) _ _ _ _ ?_)
 rw[show({s with heap:=s.heap.push {cls:=.type "dict",data:=.dict #[]}}:Shared).heap.objs.size=s.heap.objs.size+1 from Zi ..]
 exact Qz (by rw[Vt];exact Qv (Qv h))
end
def a0s(X:Cx)(ifs:List Expr)(t:TT):Prop:=
 ∀(pins:OX) (s:Shared) (σ:St) (H:Hp) (Q:Bool->Hp->Prop),Inv X pins σ H s->t σ H Q->
  wpAny (model X.prog X.w) X.A (forIn ifs true fun c r=>if r=true then do let ok←isTrue c X.env (eval c X.env);pure (ForInStep.yield ok)else pure (ForInStep.yield r)) (TP X pins σ Q) X.xe s
theorem b4P{X:Cx}:a0s X [] (fun _ H Q=>Q true H):=fun _ _ _ H _ I h=>wpAny_tests_nil ⟨H,I,h⟩
theorem b4Q{X:Cx}{c:Expr}{t:TT}(h:PT X c t):a0s X [c] t:=fun pins s σ H Q I q=>wpAny_tests_one (h pins s σ H Q I q)
section
variable{X:Cx}{N':List Str}{scope:Scope}{keep:List Bool}{more:Nat}{tg iter elt:Expr}{ifs:List Expr}{g:TG}{tt:TT}{te:TE}{pos:Pos}
end
def j0_(keep:List Bool)(more:Nat)(env:Env'):Env':=List.zipWith (fun k w=>if k then w else .nil) keep env++List.replicate more .nil
def a0C:Bool->W->W->Option W
 |false,w,_=>some w
 |true,.nil,_=>some .nil
 |true,.dat d,_=>some (.dat d)
 |true,.own _,.own ds=>some (.own ds)
 |true,.own _,.dat d=>some (.dat d)
 |true,.par _,.par ds=>some (.par ds)
 |true,.ownD _ _,.ownD ks vs=>some (.ownD ks vs)
 |true,.ownD _ _,.dat d=>some (.dat d)
 |true,.parD _ _,.parD ks vs=>some (.parD ks vs)
 |_,_,_=>none
theorem b4R{w w2 w':W}{m:Mu}(h:a0C true w w2=some w')(e:w'.mut=some m):w2=w'/\∃d0,w.mut=some d0/\w.isOwn=w'.isOwn/\w.isPar=w'.isPar:=by
 cases w<;>cases w2<;>first
  |(simp only[a0C,Zb]at h;subst h;exact⟨rfl,_,rfl,rfl,rfl⟩)
  |(simp only[a0C,Zb]at h;subst h;cases e;done)
  |(simp[a0C]at h;done)
theorem b4S{w w2:W}{d:D}(h:a0C true w w2=some (.dat d)):w=.dat d∨(w2=.dat d/\∃d0,w.mut=some d0):=by
 cases w<;>cases w2<;>first
  |(simp only[a0C,Zb]at h;exact .inl h)
  |(simp only[a0C,Zb]at h;exact .inr ⟨h,_,rfl⟩)
  |(simp[a0C]at h;done)
def w3_:List Bool->Env'->Env'->Option Env'
 |[],[],_=>some []
 |k::ks,w::ws,w2::ws2=>(a0C k w w2).bind fun x=>(w3_ ks ws ws2).map fun r=>x::r
 |_,_,_=>none
theorem a6s:∀{keep:List Bool}{env env2 env':Env'}{i:Nat}{w':W},w3_ keep env env2=some env'->env'[i]? =some w'->∃k w w2,keep[i]? =some k/\env[i]? =some w/\env2[i]? =some w2/\a0C k w w2=some w'
 |[],[],_,env',i,w',h,e=>by simp only[w3_,Zb]at h;subst h;simp at e
 |[],_::_,_,env',i,w',h,e=>by simp[w3_]at h
 |k::ks,[],_,env',i,w',h,e=>by simp[w3_]at h
 |k::ks,w::ws,[],env',i,w',h,e=>by simp[w3_]at h
 |k::ks,w::ws,w2::ws2,env',i,w',h,e=>by
  unfold w3_ at h;obtain⟨x,h1,h2⟩:=z9_ h;obtain⟨r,h3,h4⟩:=v5_ h2;subst h4;cases i with
  |zero=>simp at e;subst e;exact⟨k,w,w2,rfl,rfl,rfl,h1⟩
  |succ i=>simpa using a6s (i:=i) h3 (by simpa using e)
theorem a9y:∀{keep:List Bool}{env env2 env':Env'},w3_ keep env env2=some env'->env'.length=env.length
 |[],[],_,env',h=>by simp only[w3_,Zb]at h;subst h;rfl
 |[],_::_,_,env',h=>by simp[w3_]at h
 |k::ks,[],_,env',h=>by simp[w3_]at h
 |k::ks,w::ws,[],env',h=>by simp[w3_]at h
 |k::ks,w::ws,w2::ws2,env',h=>by
  unfold w3_ at h;obtain⟨x,h1,h2⟩:=z9_ h;obtain⟨r,h3,h4⟩:=v5_ h2;subst h4
  simp[a9y h3]
theorem a2q{keep:List Bool}{more:Nat}{env:Env'}{i:Nat}{w:W}(h:(j0_ keep more env)[i]? =some w)(hw:w≠.nil):keep[i]? =some true/\env[i]? =some w:=by
 unfold j0_ at h
 rcases a1L h with⟨_,h⟩|⟨_,h⟩
 ·rw[Jx]at h
  cases e1:keep[i]? with
  |none=>rw[e1]at h;cases h
  |some k=>
   cases e2:env[i]? with
   |none=>rw[e1,e2]at h;cases h
   |some u=>
    rw[e1,e2]at h;cases k with
    |true=>simp at h;exact⟨rfl,by rw[h]⟩
    |false=>simp at h;exact absurd h.symm hw
 ·exact absurd h hw
theorem a4O{keep:List Bool}{more:Nat}{σ:St}{i:Nat}{v:Option V}(hk:keep[i]? =some true)(h:σ[i]? =some v):(u2_ keep more σ)[i]? =some v:=by
 unfold u2_;have h1:i<keep.length:=(Qg.mp hk).1;have h2:i<σ.length:=(Qg.mp h).1;rw[Yc (by rw[Jm];omega),Jx,hk,h]
 rfl
theorem a3I{w:W}{ds:Mu}(h:w.mut=some ds):w≠.nil:=fun z=>by rw[z]at h;cases h
section
variable{K:Qq}{B:OA}{G G':Hp}{σ σ':St}{env env2 env':Env'}{H H':Hp}{keep:List Bool}{more:Nat}
theorem a6t{a:Addr}(h:Owned (u2_ keep more σ) (j0_ keep more env) a):Owned σ env a:=by
 obtain⟨i,w,ds,e1,e2,e3⟩:=h;exact⟨i,w,ds,(a2q e1 (a3I e2)).2,e2,(a2U e3).2⟩
theorem Rel.ext(r:Rel K B G σ env H)(hk:keep.length=σ.length):Rel K B G (u2_ keep more σ) (j0_ keep more env) H:=by
 refine⟨r.sub,?_,fun i d e=>?_,fun i w ds e1 e2=>?_,fun i j w w' ds es a q1 q2 q3 q4 q5 q6=>?_,fun i w a q1 qo q2=>?_,r.old,r.tabs,r.gnt⟩
 ·unfold j0_ u2_
  rw[Qt,Qt,Jm,Jm,Ym,Ym,r.len]
 ·obtain⟨k1,k2⟩:=a2q e (by simp)
  obtain⟨v,e1,e2⟩:=r.dat i d k2;exact⟨v,a4O k1 e1,e2⟩
 ·obtain⟨k1,k2⟩:=a2q e1 (a3I e2)
  obtain⟨a,xs,e3,e4⟩:=r.own i w ds k2 e2;exact⟨a,xs,a4O k1 e3,e4⟩
 ·exact r.inj i j w w' ds es a (a2q q1 (a3I q2)).2 q2 (a2q q3 (a3I q4)).2 q4 (a2U q5).2 (a2U q6).2
 ·exact r.fresh i w a (a2q q1 (by rintro rfl;cases qo)).2 qo (a2U q2).2
theorem Ev.out(r:Rel K B G σ env H)(hk:keep.length=σ.length)(ev:Ev K B G (u2_ keep more σ) (j0_ keep more env) H G' σ' env2 H')(hσ:∀j,j<σ.length->σ'[j]? =(u2_ keep more σ)[j]?)(ho:w3_ keep env env2=some env'):
  Ev K B G σ env H G' σ env' H':=by
 have mutO:∀(i:Nat) (w':W) (ds:Mu),env'[i]? =some w'->w'.mut=some ds->∃w0 d0,env[i]? =some w0/\w0.mut=some d0/\w0.isOwn=w'.isOwn/\w0.isPar=w'.isPar/\
   ∃a o,σ[i]? =some (some (V.ref a))/\H' a=some o/\RepM K G' o ds/\G' a=none:=fun i w' ds e1 e2=>by
  obtain⟨k,w,w2,h1,h2,h3,h4⟩:=a6s ho e1;have hi:i<σ.length:=by have:=(Qg.mp h2).1;rw[←r.len];exact this
  cases k with
  |false=>
   simp only[a0C,Zb]at h4;subst h4;obtain⟨a,xs,q1,q2,q3,q4⟩:=r.own i w ds h2 e2;have no:¬ Owned (u2_ keep more σ) (j0_ keep more env) a:=by
    rintro⟨j,v,es,y1,y2,y3⟩;obtain⟨z1,z2⟩:=a2q y1 (a3I y2);have:=r.inj j i v w es ds a z2 y2 h2 e2 (a2U y3).2 q1;subst this;rw[h1]at z1;cases z1
   exact⟨w,ds,h2,e2,rfl,rfl,a,xs,q1,ev.keep a _ no q3.nt q2,q3.mono ev.same,ev.stay a (by rw[q2];simp) no q4⟩
  |true=>
   obtain⟨z,d0,z1,z2,z3⟩:=b4R h4 e2;subst z;refine⟨w,d0,h2,z1,z2,z3,?_⟩;obtain⟨a,xs,q1,q2,q3,q4⟩:=ev.rel.own i w2 ds h3 e2;obtain⟨a0,xs0,p1,_⟩:=r.own i w d0 h2 z1;rw[hσ i hi,a4O h1 p1]at q1;cases q1;exact⟨a,xs,p1,q2,q3,q4⟩
 refine⟨⟨ev.rel.sub,by rw[a9y ho];exact r.len,fun i d e=>?_,fun i w ds e1 e2=>?_,fun i j w w' ds es a q1 q2 q3 q4 q5 q6=>?_,fun i w a q1 qo q2=>?_,ev.rel.old,ev.rel.tabs,ev.rel.gnt⟩,ev.same,fun b o n t e=>ev.keep b o (fun z=>n (a6t z)) t e,ev.live,fun b e n g=>ev.stay b e (fun z=>n (a6t z)) g,fun a z=>.inl ?_,fun i w e hp=>⟨rfl,?_⟩,rfl⟩
 ·obtain⟨k,w,w2,h1,h2,h3,h4⟩:=a6s ho e
  have hi:i<σ.length:=by have:=(Qg.mp h2).1;rw[←r.len];exact this
  have old:w=.dat d->∃v,σ[i]? =some (some v)/\Rep K G' v d:=fun z=>by
   subst z;obtain⟨v,e1,e2⟩:=r.dat i d h2;exact⟨v,e1,Rep.mono ev.same d e2⟩
  cases k with
  |false=>simp only[a0C,Zb]at h4;exact old h4
  |true=>
   rcases b4S h4 with z|⟨z,d0,z0⟩
   ·exact old z
   ·subst z
    obtain⟨v,q1,q2⟩:=ev.rel.dat i d h3;obtain⟨a0,xs0,p1,_⟩:=r.own i _ d0 h2 z0;rw[hσ i hi,a4O h1 p1]at q1;cases q1;exact⟨_,p1,q2⟩
 ·obtain⟨w0,d0,_,_,_,_,q⟩:=mutO i w ds e1 e2
  exact q
 ·obtain⟨w0,d0,y1,y2,_⟩:=mutO i w ds q1 q2
  obtain⟨w1,d1,y3,y4,_⟩:=mutO j w' es q3 q4;exact r.inj i j w0 w1 d0 d1 a y1 y2 y3 y4 q5 q6
 ·obtain⟨m,hm⟩:=own_mut qo
  obtain⟨w0,d0,y1,_,y3,_⟩:=mutO i _ m q1 hm;exact r.fresh i w0 a y1 (y3.trans qo) q2
 ·obtain⟨i,w,ds,e1,e2,e3⟩:=z
  obtain⟨w0,d0,y1,y2,_⟩:=mutO i w ds e1 e2;exact⟨i,w0,d0,y1,y2,e3⟩
 ·obtain⟨m,hm⟩:=par_mut hp
  obtain⟨w0,d0,y1,_,_,y4,_⟩:=mutO i _ m e hm;exact⟨w0,y1,y4.trans hp⟩
theorem Ev.swapAt{p:Addr}{o:HO}(ev:Ev K B G σ env H G' σ' env' H')(no:¬ Owned σ env p)(hp:H p≠none)(gp:G p=none)(nt:NT o)(nx:∀φ,H' p≠some (.ext φ)):Ev K B G σ env (upd H p o) G' σ' env' (upd H' p o):=by
 have np:∀(i:Nat) (w:W) (ds:Mu) (a:Addr),env'[i]? =some w->w.mut=some ds->σ'[i]? =some (some (V.ref a))->a≠p:=fun i w ds a e1 e2 e3 z=>by
  rcases ev.sub a ⟨i,w,ds,e1,e2,e3⟩with q|q
  ·exact no (z ▸ q)
  ·exact hp (z ▸ q)
 have gp':G' p=none:=ev.stay p hp no gp
 have live':∀b,H' b≠none->(upd H' p o) b≠none:=fun b h=>by
  by_cases hb:b=p
  ·subst hb;rw[y6_];simp
  ·rw[q8_ hb];exact h
 refine⟨⟨fun b u e=>?_,ev.rel.len,ev.rel.dat,fun i w ds e1 e2=>?_,ev.rel.inj,ev.rel.fresh,fun b h=>live' b (ev.rel.old b h),ev.rel.tabs.upd nt nx,ev.rel.gnt⟩,ev.same,fun b u n t e=>?_,fun b e=>?_,fun b e n g=>?_,fun a z=>?_,ev.par,ev.slen⟩
 ·have hb:b≠p:=fun z=>by rw[z,gp']at e;cases e
  rw[q8_ hb];exact ev.rel.sub b u e
 ·obtain⟨a,xs,e3,e4,e5,e6⟩:=ev.rel.own i w ds e1 e2
  exact⟨a,xs,e3,by rw[q8_ (np i w ds a e1 e2 e3)];exact e4,e5,e6⟩
 ·by_cases hb:b=p
  ·subst hb;rw[y6_]at e ⊢;exact e
  ·rw[q8_ hb]at e ⊢;exact ev.keep b u n t e
 ·by_cases hb:b=p
  ·subst hb;rw[y6_];simp
  ·rw[q8_ hb]at e ⊢;exact ev.live b e
 ·by_cases hb:b=p
  ·subst hb;exact gp'
  ·rw[q8_ hb]at e;exact ev.stay b e n g
 ·obtain⟨i,w,ds,e1,e2,e3⟩:=id z
  rw[q8_ (np i w ds a e1 e2 e3)];exact ev.sub a z
end
def j1_(g:OZ)(t:Mo Bool)(m:Mo D):List D->Mo (List D)
 |[],env=>some ([],env)
 |d::ds,env=>(g d env).bind fun e1=>(t e1).bind fun p=>if p.1 then(m p.2).bind fun q=>(j1_ g t m ds q.2).map fun r=>(q.1::r.1,r.2)else j1_ g t m ds p.2
def y0_(mi:Mo (List D))(keep:List Bool)(more:Nat)(g:OZ)(t:Mo Bool)(m:Mo D):Mo (List D):=fun env=>(mi env).bind fun p=>if p.1.length≤100000 then
 (j1_ g t m p.1 (j0_ keep more p.2)).bind fun q=>(w3_ keep p.2 q.2).map fun e=>(q.1,e)else none
def y4_:Mo Bool:=fun env=>some (true,env)
theorem a0h{X:Cx}{B:OA}:a0s X [] (TTm X.K B y4_):=fun pins s σ H Q I h=>by
 obtain⟨G,env,b,env',rl,e,k⟩:=h;cases e;exact b4P pins s σ H Q I (k G H (.refl rl))
theorem a4P{X:Cx}{B:OA}{c:Expr}{t:Mo Bool}(h:ET X B c t):a0s X [c] (TTm X.K B t):=b4Q h
section
variable{X:Cx}{B:OA}{N':List Str}{scope:Scope}{keep:List Bool}{more:Nat}{tg iter elt:Expr}{ifs:List Expr}{g:OZ}{t:Mo Bool}{m:Mo D}{mi:Mo (List D)}{pos:Pos}
end
section
variable{X:Cx}{B:OA}{pos:Pos}{a b c e:Expr}{ma mb mc:Mo D}{ms:Mo (List D)}{es:List Expr}
def tyD:D->String
 |.non=>"NoneType"|.bl _=>"bool"|.int _=>"int"|.str _=>"str"|.tup _=>"tuple"|.lst _=>"list"|.emp=>"dict"|.obj _=>"object"|.dct _ _=>"dict"
def x8_(K:Qq)(T:String):Prop:=T∈(["tuple","list","int","bool","str"]:List String)
def a0a(t T:String):Bool:=t==T||(t=="bool"&&T=="int")
theorem a6u{K:Qq}{T:String}(h:x8_ K T):∀d,(∀o,d≠.obj o)->PySem.W.kitOne K (.type (tyD d)) (.type T)=some (a0a (tyD d) T):=by
 intro d hd;unfold x8_ at h;simp only[Qn,Zk,Yd]at h
 rcases h with rfl|rfl|rfl|rfl|rfl<;>cases d<;>first|rfl|exact absurd rfl (hd _)
theorem b4T{pins:OX}{σ:St}{G H:Hp}{s:Shared}{A:Around}{E:OE}{Q:OE}{T:String}{x:V}{u:Value}{d:D}(I:Inv X pins σ H s)(l:Le G H)(rx:q6_ x u)(rp:Rep X.K G x d)
  (kt:x8_ X.K T)(h:∀tk,Q (.bool (a0a (tyD d) T)) {s with toks:=tk}):wpAny (model X.prog X.w) A (call (.builtin "isinstance") [u,.type T]) Q E s:=by
 have e:=a6u kt d
 cases d with
 |non=>simp only[Rep]at rp;subst rp;exact a2H I rx (.non) (e nofun) h
 |bl b=>simp only[Rep]at rp;subst rp;exact a2H I rx (.bl b) (e nofun) h
 |int i=>simp only[Rep]at rp;subst rp;exact a2H I rx (.int i) (e nofun) h
 |str z=>simp only[Rep]at rp;obtain⟨rp,_⟩:=rp;subst rp;exact a2H I rx (.str z) (e nofun) h
 |tup ds=>
  simp only[Rep]at rp;obtain⟨a,xs,rfl,q,_⟩:=rp;cases rx;obtain⟨its,_,⟨o,h1,h2,_⟩,_⟩:=I.tuple (l.sqT q);exact Zx Va I.kIn ⟨o,h1,h2⟩ (e nofun) (fun z=>nomatch z) h
 |lst ds=>
  simp only[Rep]at rp;obtain⟨a,xs,rfl,q,_⟩:=rp;cases rx;obtain⟨its,_,⟨o,n,h1,h2,_⟩,_⟩:=I.list (l.sqL q);exact Zx Ue I.kIn ⟨o,h1,h2⟩ (e nofun) (fun z=>nomatch z) h
 |emp=>
  simp only[Rep]at rp;obtain⟨a,kvs,rfl,q⟩:=rp;exact a2H I rx (.dK (l _ _ q)) (e nofun) h
 |dct ks vs=>
  simp only[Rep]at rp;obtain⟨a,kvs,rfl,q,_⟩:=rp;exact a2H I rx (.dT (l _ _ q)) (e nofun) h
 |obj o=>
  have h0:a0a "object" T=false:=by
   unfold x8_ at kt;simp only[Qn,Zk,Yd]at kt
   rcases kt with rfl|rfl|rfl|rfl|rfl<;>rfl
  have h':∀tk,Q (.bool false) {s with toks:=tk}:=fun tk=>by have:=h tk;rwa [show a0a (tyD (.obj o)) T=false from h0]at this
  simp only[Rep]at rp;cases o with
  |exc n=>
   obtain⟨a,C,HP,rfl,_,h3,h4,h5⟩:=rp;cases rx;exact Zx h4 I.kIn (I.hok a _ (l _ _ h3)).1 (h5 T kt) (fun z=>nomatch z) h'
  |fn n=>
   obtain⟨f,rfl,_,h4⟩:=rp;cases rx;refine Zx h4 I.kIn True.intro ?_ (fun z=>nomatch z) h'
   unfold x8_ at kt;simp only[Qn,Zk,Yd]at kt
   rcases kt with rfl|rfl|rfl|rfl|rfl<;>rfl
  |dk kvs=>
   obtain⟨a,rfl,q⟩:=rp;obtain⟨_,_,vs,_,dd⟩:=(show x4_ X.prog X.w H s.heap a (.dK _)from I.hok a _ (l _ _ q))
   obtain⟨o,h1,h2⟩:∃o,s.heap.get? a=some o/\o.cls=.type "dict":=by
    obtain⟨o,es,ep,g1,g2,_⟩:=dd;exact⟨o,g1,g2.1⟩
   cases rx;refine Zx Yv I.kIn ⟨o,h1,h2⟩ ?_ (fun z=>nomatch z) h'
   unfold x8_ at kt;simp only[Qn,Zk,Yd]at kt
   rcases kt with rfl|rfl|rfl|rfl|rfl<;>rfl
  |dt kvs=>
   obtain⟨a,ps,rfl,q,_⟩:=rp;obtain⟨_,_,vs,_,dd⟩:=(show x4_ X.prog X.w H s.heap a (.dK _)from I.hok a _ (l _ _ q))
   obtain⟨o,h1,h2⟩:∃o,s.heap.get? a=some o/\o.cls=.type "dict":=by
    obtain⟨o,es,ep,g1,g2,_⟩:=dd;exact⟨o,g1,g2.1⟩
   cases rx;refine Zx Yv I.kIn ⟨o,h1,h2⟩ ?_ (fun z=>nomatch z) h'
   unfold x8_ at kt;simp only[Qn,Zk,Yd]at kt
   rcases kt with rfl|rfl|rfl|rfl|rfl<;>rfl
theorem a2V{K:Qq}:x8_ K "tuple":=by simp[x8_]
theorem a6v{K:Qq}:x8_ K "list":=by simp[x8_]
theorem b4U{K:Qq}:x8_ K "int":=by simp[x8_]
theorem a6w{K:Qq}:x8_ K "bool":=by simp[x8_]
def mIs(T:String)(m:Mo D):Mo D:=fun env=>(m env).map fun p=>(.bl (a0a (tyD p.1) T),p.2)
theorem a0N{T:String}{y:Str}{p p2:Pos}(kt:x8_ X.K T)(ha:ED X B a ma)(hg:Gl X "isinstance")(hm:X.mg "isinstance"=none)(hgT:Gl X y)(hmT:X.mg y=none)(hvT:bootBuiltins y=some (.type T))
  (hnT:y≠"__name__":=by decide)(hdT:(y==("__debug__":Str))=false:=by decide)
  (he:starEach [a,.Name y p2] X.env=[(false,eval a X.env),(false,eval (.Name y p2) X.env)]:=by rfl):ED X B (.Call (.Name "isinstance" p) [a,.Name y p2] [] pos) (mIs T ma):=by
 have hT:PE X (.Name y p2) (tC (.ty T)):=a5G hgT hmT hvT rfl hnT hdT
 have hc:a0d X (.builtin "isinstance") (fun xs H Q=>∃x G d,xs=[x,.ty T]/\Le G H/\Rep X.K G x d/\Q (.bl (a0a (tyD d) T)) H):=by
  intro pins s σ H xs us Q I r h;obtain⟨x,G,d,rfl,l,rp,q⟩:=h;obtain⟨u,w',rfl,r1,r2⟩:=a2G r;cases r2;exact b4T I l r1 rp kt fun tk=>⟨.bl _,H,I.tok _,rfl,q⟩
 have h1:starEach [Expr.Name y p2] X.env=[(false,eval (.Name y p2) X.env)]:=rfl
 refine pe_imp (a5S (pos:=pos) (p:=p) hc hg hm (by decide+kernel) (a0Y ha (a0Y hT a2I) he) (he:=he)) ?_
 rintro σ H Q ⟨G,env,d,env',rl,e,k⟩;obtain⟨⟨d1,env1⟩,e1,e2⟩:=v5_ e;cases e2;exact .bind rl e1 fun v G1 H1 ev r=>⟨v,G1,d1,rfl,ev.rel.sub,r,k _ G1 H1 ev (by simp only[Rep])⟩
def a0D:List D->Option Bool
 |[]=>some true
 |.bl b::r=>(a0D r).map fun k=>b&&k
 |_::_=>none
def a2W:List D->Option D
 |[.lst ds]=>(a0D ds).map fun k=>.bl k
 |_=>none
theorem a9z{K:Qq}{G:Hp}:∀{ds:List D}{xs:List V}{us:List Value}{k:Bool},z6_ K G xs ds->q3_ xs us->a0D ds=some k->∃bs,LSm.BoolsAre us bs/\bs.all id=k
 |[],_,us,k,r,v,e=>by
  simp only[z6_]at r;subst r;cases v;cases e;exact⟨[],.nil,rfl⟩
 |d::ds,_,us,k,r,v,e=>by
  simp only[z6_]at r;obtain⟨x,t,rfl,q,r⟩:=r;cases d<;>first|(exact absurd (show(none:Option Bool)=some k from e) (by simp))|skip
  obtain⟨k',e1,e2⟩:=v5_ (show(a0D ds).map _=some k from e)
  simp only[Rep]at q;subst q;cases v with
  |cons v1 v2=>
   cases v1;obtain⟨bs,h1,h2⟩:=a9z r v2 e1;exact⟨_::bs,.cons _ h1,by rw[←e2,←h2];rfl⟩
theorem a6x(hc:X.calm=true):a0d X (.builtin "all") (fun xs H Q=>∃p G ys ds k,xs=[.ref p]/\Le G H/\SqL X.K G p ys/\z6_ X.K G ys ds/\a0D ds=some k/\Q (.bl k) H):=by
 intro pins s σ H xs us Q I r h;obtain⟨p,G,ys,ds,k,rfl,l,hq,rp,ek,q⟩:=h;obtain⟨u,rfl,rx⟩:=a1E r;cases rx;obtain⟨its,r',pl,hz⟩:=I.list (l.sqL hq);obtain⟨bs,hb,hk⟩:=a9z rp r' ek;have hh:X.A.handled=none:=I.ok.hd hc;have hl:=pl.isList;have hlt:p<s.heap.objs.size:=by obtain⟨_,e,_⟩:=hl;exact Qu e
 refine call_all_walk (Uv hl ?_);refine⟨s.heap.objs.size,[s.heap.objs.size,p],[s.heap.objs.size],its.toArray.size,_,_,fun i=>(bs[i]?).getD true,rfl,Walks.list (A:=X.A.in1) hh _ p (Qi hlt) its.toArray,
  ⟨⟨_,Qb _ rfl,rfl,rfl⟩,hl.push _⟩,fun i v s' Q' E' hP hQ=>?_,fun h' tk hk'=>?_⟩
 ·obtain⟨b,e,rfl⟩:=hb.get i v (by simpa using hP)
  simp only[e,Option.getD_some]at hQ;exact Yr hQ
 ·have e:((List.range its.toArray.size).all fun i=>(bs[i]?).getD true)=bs.all id:=by
   rw[Qp,hb.length];exact LSm.range_all bs
  rw[e,hk];exact⟨.bl k,H,I.kept (t':=tk) (Vk hk'),rfl,q⟩
theorem a6y:a0K X B (fun xs H Q=>∃p G ys ds k,xs=[.ref p]/\Le G H/\SqL X.K G p ys/\z6_ X.K G ys ds/\a0D ds=some k/\Q (.bl k) H) a2W:=by
 intro G σ env H xs ds c Q rl r e k;unfold a2W at e;split at e
 ·rename_i ds
  obtain⟨x,rfl,q⟩:=a0p r;obtain⟨k',e1,e2⟩:=v5_ e;subst e2;simp only[Rep]at q;obtain⟨a,ys,rfl,h1,h2⟩:=q;exact⟨a,G,ys,ds,k',rfl,rl.sub,h1,h2,e1,k _ G H (.refl rl) (by simp only[Rep])⟩
 ·cases e
def a2X:List D->Option D
 |[.int i,.int j]=>some (.int (if j>i then j else i))
 |_=>none
def a2Y:List D->Option D
 |[.int i,.int j]=>some (.int (if j<i then j else i))
 |_=>none
def a3J:List D->Option D
 |[.int i]=>some (.int i)
 |[.bl k]=>some (.int (if k then 1 else 0))
 |_=>none
theorem b4V:a0K X B (fun xs H Q=>∃i j,xs=[.int i,.int j]/\Q (.int (if j>i then j else i)) H) a2X:=by
 intro G σ env H xs ds c Q rl r e k;unfold a2X at e;split at e
 ·rename_i i j
  cases e;obtain⟨x,y,rfl,q1,q2⟩:=a4G r;simp only[Rep]at q1 q2;subst q1 q2;exact⟨i,j,rfl,k _ G H (.refl rl) (by simp only[Rep])⟩
 ·cases e
theorem b4W:a0K X B (fun xs H Q=>∃i j,xs=[.int i,.int j]/\Q (.int (if j<i then j else i)) H) a2Y:=by
 intro G σ env H xs ds c Q rl r e k;unfold a2Y at e;split at e
 ·rename_i i j
  cases e;obtain⟨x,y,rfl,q1,q2⟩:=a4G r;simp only[Rep]at q1 q2;subst q1 q2;exact⟨i,j,rfl,k _ G H (.refl rl) (by simp only[Rep])⟩
 ·cases e
theorem b4X:a0K X B (fun xs H Q=>(∃i,xs=[.int i]/\Q (.int i) H)∨ ∃k,xs=[.bl k]/\Q (.int (if k then 1 else 0)) H) a3J:=by
 intro G σ env H xs ds c Q rl r e k;unfold a3J at e;split at e
 ·rename_i i
  cases e;obtain⟨x,rfl,q1⟩:=a0p r;simp only[Rep]at q1;subst q1;exact .inl ⟨i,rfl,k _ G H (.refl rl) (by simp only[Rep])⟩
 ·rename_i b
  cases e;obtain⟨x,rfl,q1⟩:=a0p r;simp only[Rep]at q1;subst q1;exact .inr ⟨b,rfl,k _ G H (.refl rl) (by simp only[Rep])⟩
 ·cases e
def ints?:List D->Option (List Int)
 |[]=>some []
 |.int i::r=>(ints? r).map fun l=>i::l
 |_::_=>none
theorem a1d{K:Qq}{G:Hp}:∀{ds:List D}{xs:List V}{ns:List Int},z6_ K G xs ds->ints? ds=some ns->xs=ns.map V.int
 |[],_,ns,r,e=>by simp only[z6_]at r;subst r;cases e;rfl
 |d::ds,_,ns,r,e=>by
  simp only[z6_]at r;obtain⟨x,t,rfl,q,r⟩:=r;cases d<;>first|(exact absurd (show(none:Option (List Int))=some ns from e) (by simp))|skip
  obtain⟨l,e1,e2⟩:=v5_ (show(ints? ds).map _=some ns from e)
  subst e2;simp only[Rep]at q;subst q;rw[a1d r e1];rfl
def dIn(neg:Bool):D->D->Option D
 |.int i,d=>d.items.bind fun ds=>(ints? ds).map fun ns=>.bl (if neg then !ns.contains i else ns.contains i)
 |_,_=>none
theorem b4Y(ns:List Int):(ns.map V.int).all a0Z=true:=by
 induction ns with
 |nil=>rfl
 |cons n ns ih=>simp[a0Z,ih]
theorem b4Z(i:Int)(ns:List Int):inV (.int i) (ns.map V.int)=ns.contains i:=by
 unfold inV
 induction ns with
 |nil=>rfl
 |cons n ns ih=>
  rw[Qh,Xz,ih,Ji]
  congr 1
  show(n==i)=(i==n);exact Bool.beq_comm ..
theorem a6z{neg:Bool}:OpD X B (rIn X.K neg) (dIn neg):=by
 intro G σ env H x y a b d Q rl ra rb e k;cases a<;>first|(exact absurd (show(none:Option D)=some d from e) (by simp))|skip
 rename_i i;obtain⟨ds,e1,e2⟩:=z9_ (show b.items.bind _=some d from e)
 obtain⟨ns,e3,e4⟩:=v5_ e2;subst e4;simp only[Rep]at ra;subst ra;obtain⟨p,xs,rfl,h1,h2⟩:=a9i rl.sub rb e1;have hx:=a1d h2 e3;subst hx;exact⟨p,_,rfl,h1,rfl,b4Y ns,k _ G H (.refl rl) (by rw[b4Z];simp only[Rep])⟩
end
section
variable{X:Cx}{pins:OX}{σ:St}{G H:Hp}{s:Shared}
end
mutual
def toP:D->PyData
 |.non=>.none
 |.bl b=>.bool b
 |.int i=>.int i
 |.str x=>.str x
 |.tup ds=>.tuple (x5_ ds)
 |.lst ds=>.list (x5_ ds)
 |.emp=>.dict []
 |.obj _=>.dict []
 |.dct _ _=>.dict []
def x5_:List D->List PyData
 |[]=>[]
 |d::ds=>toP d::x5_ ds
end
def shp(d:D):Bool:=SeqAt.shaped (toP d)
section
variable{X:Cx}{B:OA}{pins:OX}{σ:St}{G H:Hp}{s:Shared}
mutual
theorem reads_of(I:Inv X pins σ H s)(l:Le G H):∀(d:D) (x:V) (u:Value),(toP d).canLay0=true->q6_ x u->Rep X.K G x d->∃as,Reads s.heap u (toP d) as
 |.non,x,u,c,r,p=>by simp only[Rep]at p;subst p;cases r;exact⟨_,.none⟩
 |.bl b,x,u,c,r,p=>by simp only[Rep]at p;subst p;cases r;exact⟨_,.bool b⟩
 |.int i,x,u,c,r,p=>by simp only[Rep]at p;subst p;obtain⟨t,rfl⟩:=r;exact⟨_,.int i t⟩
 |.str z,x,u,c,r,p=>by simp only[Rep]at p;obtain⟨p,_⟩:=p;subst p;obtain⟨t,rfl⟩:=r;exact⟨_,.str z t⟩
 |.tup ds,x,u,c,r,p=>by
  simp only[Rep]at p;obtain⟨a,xs,rfl,q,rp⟩:=p;cases r;obtain⟨its,rv,⟨o,h1,h2,n,h3⟩,_⟩:=I.tuple (l.sqT q);have hc:PyData.canLayAll0 (x5_ ds)=true:=by simpa [toP,PyData.canLay0]using c
  obtain⟨as,h⟩:=readsAll_of I l ds xs its hc rv rp;exact⟨_,.tuple h1 h2 h3 (by simpa using h)⟩
 |.lst ds,x,u,c,r,p=>by
  simp only[Rep]at p;obtain⟨a,xs,rfl,q,rp⟩:=p;cases r;obtain⟨its,rv,⟨o,n,h1,h2,_,h3⟩,_⟩:=I.list (l.sqL q);have hc:PyData.canLayAll0 (x5_ ds)=true:=by simpa [toP,PyData.canLay0]using c
  obtain⟨as,h⟩:=readsAll_of I l ds xs its hc rv rp;exact⟨_,.list h1 h2 h3 (by simpa using h)⟩
 |.emp,x,u,c,r,p=>by simp[toP,PyData.canLay0]at c
 |.obj _,x,u,c,r,p=>by simp[toP,PyData.canLay0]at c
 |.dct _ _,x,u,c,r,p=>by simp[toP,PyData.canLay0]at c
theorem readsAll_of(I:Inv X pins σ H s)(l:Le G H):∀(ds:List D) (xs:List V) (us:List Value),PyData.canLayAll0 (x5_ ds)=true->q3_ xs us->z6_ X.K G xs ds->∃as,ReadsAll s.heap us (x5_ ds) as
 |[],xs,us,c,v,p=>by simp only[z6_]at p;subst p;cases v;exact⟨_,.nil⟩
 |d::ds,xs,us,c,v,p=>by
  simp only[z6_]at p;obtain⟨x,r,rfl,q,t⟩:=p;have hc:(toP d).canLay0=true/\PyData.canLayAll0 (x5_ ds)=true:=by simpa [x5_,PyData.canLayAll0]using c
  cases v with
  |cons v1 v2=>
   obtain⟨as,h1⟩:=reads_of I l d x _ hc.1 v1 q;obtain⟨bs,h2⟩:=readsAll_of I l ds r _ hc.2 v2 t;exact⟨_,.cons h1 h2⟩
end
def rEqD(K:Qq)(neg:Bool):R2:=fun x y H Q=>∃G a b,Le G H/\Rep K G x a/\Rep K G y b/\shp a=true/\shp b=true/\Q (.bl (if neg then !PyData.eqv (toP a) (toP b)else PyData.eqv (toP a) (toP b))) H
theorem op_eqD(hu:X.A.units+64<cLine):OpR X (compareOp .Eq) (rEqD X.K false):=by
 intro pins s σ H x y v u Q I rx ry h;obtain⟨G,a,b,l,ra,rb,ha,hb,q⟩:=h;obtain⟨as,h1⟩:=reads_of I l a x v (Yo ha) rx ra;obtain⟨bs,h2⟩:=reads_of I l b y u (Yo hb) ry rb;exact eq_dataH h1 h2 ha hb hu ⟨.bl _,H,I,rfl,q⟩
theorem op_neD(hu:X.A.units+64<cLine):OpR X (compareOp .NotEq) (rEqD X.K true):=by
 intro pins s σ H x y v u Q I rx ry h;obtain⟨G,a,b,l,ra,rb,ha,hb,q⟩:=h;obtain⟨as,h1⟩:=reads_of I l a x v (Yo ha) rx ra;obtain⟨bs,h2⟩:=reads_of I l b y u (Yo hb) ry rb;exact ne_dataH h1 h2 ha hb hu ⟨.bl _,H,I,rfl,q⟩
def dEq(neg:Bool):D->D->Option D:=fun a b=>if shp a&&shp b then some (.bl (if neg then !PyData.eqv (toP a) (toP b)else PyData.eqv (toP a) (toP b)))else none
theorem opd_eq{neg:Bool}:OpD X B (rEqD X.K neg) (dEq neg):=by
 intro G σ env H x y a b d Q rl ra rb e k;unfold dEq at e;split at e
 ·rename_i h
  rw[Qw]at h;cases e;exact⟨G,a,b,rl.sub,ra,rb,h.1,h.2,k _ G H (.refl rl) (by simp only[Rep])⟩
 ·cases e
end
section
variable{X:Cx}{B:OA}
def rCatT'(K:Qq):R2:=fun x y H Q=>∃a b xs ys,x=.ref a/\y=.ref b/\SqT K H a xs/\SqT K H b ys/\xs.length+ys.length≤sizeLine/\
 (xs=[]->Q (.ref b) H)/\(ys=[]->Q (.ref a) H)/\(∀p,H p=none->Q (.ref p) (upd H p (.tup (xs++ys))))
theorem op_catT':OpR X (binaryOp .Add) (rCatT' X.K):=by
 intro pins s σ H x y v u Q I rx ry h;obtain⟨a,b,xs,ys,rfl,rfl,ha,hb,hz,q0,q1,q2⟩:=h;cases rx;cases ry;obtain⟨vs,r1,p1,_⟩:=I.tuple ha;obtain⟨ws,r2,p2,_⟩:=I.tuple hb;have hsz:vs.length+ws.length≤sizeLine:=by rw[←r1.length,←r2.length];exact hz
 obtain⟨⟨cls,dd,data,sl⟩,ho,hc,n,hd⟩:=id p1;obtain⟨⟨cls2,dd2,data2,sl2⟩,ho2,hc2,n2,hd2⟩:=id p2;simp only at hc hd hc2 hd2;subst hc hd hc2 hd2;have e:vs.toArray++ws.toArray=(vs++ws).toArray:=by simp
 by_cases hv:vs=[]
 ·exact concat_meets ⟨_,ho,rfl⟩ ⟨_,ho2,rfl⟩ noFill_tuple_add seq_tuple_add Vz Ua (Ud _ _)
   (tuple_addW0 a b vs.toArray ws.toArray n n2 dd dd2 sl sl2 (by simp[hv])) ⟨ho,ho2,⟨.ref b,H,I,rfl,q0 (r1.nil_iff.mp hv)⟩⟩
 ·by_cases hw:ws=[]
  ·exact concat_meets ⟨_,ho,rfl⟩ ⟨_,ho2,rfl⟩ noFill_tuple_add seq_tuple_add Vz Ua (Ud _ _)
    (tuple_addW1 a b vs.toArray ws.toArray n n2 dd dd2 sl sl2 (by simpa using hv) (by simp[hw])) ⟨ho,ho2,⟨.ref a,H,I,rfl,q1 (r2.nil_iff.mp hw)⟩⟩
  ·refine concat_meets ⟨_,ho,rfl⟩ ⟨_,ho2,rfl⟩ noFill_tuple_add seq_tuple_add Vz Ua (Ud _ _)
    (tuple_addW2 a b vs.toArray ws.toArray n n2 dd dd2 sl sl2 (by simpa using hv) (by simpa using hw) (by rw[Qp,Qp];exact hsz)) ⟨ho,ho2,?_⟩
   rw[e];refine⟨.ref s.heap.objs.size,_,I.laid (t':=s.toks) (o:=.tup (xs++ys)) (fun b ob q=>Qx _ q) (Qm _) ?_,rfl,q2 _ (I.hok.fresh (Qm _))⟩
   exact⟨by rw[Qt];exact hz,_,r1.append r2,a0z.new _ _⟩
def rCatL'(K:Qq):R2:=fun x y H Q=>∃a b xs ys,x=.ref a/\y=.ref b/\SqL K H a xs/\SqL K H b ys/\xs.length+ys.length≤sizeLine/\
 (∀p,H p=none->Q (.ref p) (upd H p (.lst (xs++ys))))
theorem op_catL':OpR X (binaryOp .Add) (rCatL' X.K):=by
 intro pins s σ H x y v u Q I rx ry h;obtain⟨a,b,xs,ys,rfl,rfl,ha,hb,hz,q2⟩:=h;cases rx;cases ry;obtain⟨vs,r1,p1,_⟩:=I.list ha;obtain⟨ws,r2,p2,_⟩:=I.list hb;have hsz:vs.length+ws.length≤sizeLine:=by rw[←r1.length,←r2.length];exact hz
 obtain⟨⟨cls,dd,data,sl⟩,ho,hc,n,hd⟩:=id p1.isList;obtain⟨⟨cls2,dd2,data2,sl2⟩,ho2,hc2,n2,hd2⟩:=id p2.isList;simp only at hc hd hc2 hd2;subst hc hd hc2 hd2;have e:vs.toArray++ws.toArray=(vs++ws).toArray:=by simp
 refine concat_meets ⟨_,ho,rfl⟩ ⟨_,ho2,rfl⟩ noFill_list_add seq_list_add PySem.F.slot_list_add PySem.F.entry_list_add (PySem.F.args_list_add_2 _ _)
    (list_addW a b vs.toArray ws.toArray n n2 dd dd2 sl sl2 (by rw[Qp,Qp];exact hsz)) ⟨ho,ho2,?_⟩
 rw[e];refine⟨.ref s.heap.objs.size,_,I.lnew (t':=s.toks) (r1.append r2) (by rw[Qt];exact hz),rfl,q2 _ I.fresh⟩
end
end L2.Mir
namespace L2.Mir
open PySem PySem.Spec PyProof.Rows PySem.Builtin
open AutoSeq1 (wpAny_loadPart')
theorem b5a:fillsNumberSlot (.type "tuple") "mul"=pure false:=
 PySem.fillsNumberSlot_seq (id:="tuple.__mul__") (r:=some (.builtin "tuple.__rmul__")) Vw.lookup (by decide+kernel) F.slot_tuple_rmul.lookup (by decide+kernel)
theorem b5b:seqRepeat? (.type "tuple")=pure (some (.builtin "tuple.__mul__")):=by
 unfold seqRepeat?;rw[PySem.seqSlot_of (T:="tuple") (name:="__mul__") (id:="tuple.__mul__") Vw.lookup (by decide+kernel),PySem.seqSlot_of (T:="tuple") (name:="__rmul__") (id:="tuple.__rmul__") F.slot_tuple_rmul.lookup (by decide+kernel)]
 rfl
theorem b5c(a:Int)(t:Tok)(l:Addr)(items:Array Value)(n:Nat)(dd:Option Addr)(sl:Array (Option Value)):
  Meets (Builtin.«int.__rmul__» ⟨[.int a t,.ref l],[]⟩) (fun _ R s=>s.heap.get? l=some {cls:=.type "tuple",dict:=dd,data:=.seq items n,slots:=sl}/\R (.ok (.ret Value.notImplemented)) s):=
 .of_wp fun prog w A R s h=>by obtain⟨hp,g,d,tk,os⟩:=s;obtain⟨hl,h⟩:=h;wp_walk;exact⟨_,rfl,h⟩
theorem b5d(l:Addr)(items:Array Value)(n:Nat)(dd:Option Addr)(sl:Array (Option Value))(x:Int)(u:Tok)(hx:x=1):
  Meets (Builtin.«tuple.__mul__» ⟨[.ref l,.int x u],[]⟩) (fun _ R s=>s.heap.get? l=some {cls:=.type "tuple",dict:=dd,data:=.seq items n,slots:=sl}/\R (.ok (.ret (.ref l))) s):=
 .of_wp fun prog w A R s h=>by
  obtain⟨hp,g,d,tk,os⟩:=s;obtain⟨hl,h⟩:=h;subst hx;have f1:=AutoSeq1.idx_int
  wp_walk using Zc hl
  exact⟨_,rfl,h⟩
theorem b5e(l:Addr)(its:List Value)(n:Nat)(dd:Option Addr)(sl:Array (Option Value))(x:Int)(u:Tok)(hi:its≠[])(h1:2≤x)(h2:x<2^63)(hz:its.length * x.toNat≤sizeLine):
  Meets (Builtin.«tuple.__mul__» ⟨[.ref l,.int x u],[]⟩) (fun _ R s=>s.heap.get? l=some {cls:=.type "tuple",dict:=dd,data:=.seq its.toArray n,slots:=sl}/\R (.ok (.ret (.ref s.heap.objs.size))) {s with heap:=s.heap.push {cls:=Value.type "tuple",data:=Data.seq (List.replicate x.toNat its).flatten.toArray}}):=
 .of_wp fun prog w A R s h=>by
  obtain⟨hp,g,d,tk,os⟩:=s;obtain⟨hl,h⟩:=h;have f1:=AutoSeq1.idx_int;have hi':its.toArray.isEmpty=false:=by simpa using hi
  have hb:¬ ((decide (x< -(2^63))||decide (x ≥ 2^63))=true):=by simp;omega
  have hc:¬ ((its.toArray.isEmpty||x==1)=true):=by rw[hi'];simp;omega
  have hd:¬ ((decide (x≤0)||its.toArray.isEmpty)=true):=by rw[hi'];simp;omega
  have e1:(its.toArray.size:Int) * x=((its.length * x.toNat:Nat):Int):=by rw[Qp,Int.natCast_mul,Int.toNat_of_nonneg (by omega)]
  have he:¬ ((its.toArray.size:Int) * x>(2^63-1)/8):=by
   have e2:(sizeLine:Nat)≤(2^63-1)/8:=by decide
   rw[e1];omega
  have hf:¬ (Tuple.tupleTooMany ((its.toArray.size:Int) * x)=true):=by
   rw[e1];intro z;have z':=of_decide_eq_true z
   omega
  have hnew:List.foldl (fun x1 x2=>x1++x2) #[] (List.replicate x.toNat its.toArray)=(List.replicate x.toNat its).flatten.toArray:=by
   have:=a8T its x.toNat [];rw[Vc]at this;exact this
  have hsz:sizeOk (.seq (List.replicate x.toNat its).flatten.toArray):=by
   show(List.replicate x.toNat its).flatten.toArray.size≤sizeLine;rw[Qp,a8V,Nat.mul_comm];exact hz
  wp_walk using Zc hl
  refine Jt (Qr hb) ?_
  wp_walk using Zc hl
  refine Jt (Qr hc) ?_
  wp_walk using Zc hl
  refine Jt (Qr hd) ?_
  wp_walk using Zc hl
  refine Jt (Qr he) ?_
  wp_walk using Zc hl
  refine Jt (Qr hf) ?_
  rw[hnew]
  wp_walk using Zc hl
  refine Jt (Qr (Nat.not_lt.mpr hsz)) ?_
  wp_walk using Zc hl
  exact⟨_,rfl,h⟩
section
variable{X:Cx}{B:OA}
def a4Q(K:Qq):R2:=fun x y H Q=>∃a k xs,x=.ref a/\y=.int k/\SqT K H a xs/\xs≠[]/\1≤k/\k<2^63/\xs.length * k.toNat≤sizeLine/\
 (k=1->Q (.ref a) H)/\∀p,H p=none->Q (.ref p) (upd H p (.tup (List.replicate k.toNat xs).flatten))
theorem b5f:OpR X (binaryOp .Mult) (a4Q X.K):=by
 intro pins s σ H x y v u Q I rx ry h;obtain⟨a,k,xs,rfl,rfl,ha,hne,h1,h2,hz,q1,q2⟩:=h;cases rx;obtain⟨t,rfl⟩:=ry;obtain⟨its,r,⟨⟨cls,dd,data,sl⟩,ho,hc,n,hd⟩,hzz⟩:=I.tuple ha;simp only at hc hd;subst hc hd;refine wpAny_binaryOp_repeat_ref (T:="tuple") (U:="int") (by decide) ⟨_,ho,rfl⟩ (fun s'=>typeIs_int s' k t) b5a F.fills_int_mul F.slot_int_rmul b5b F.slot_int_index.lookup
  (call_meets F.slot_int_rmul (typeIs_int s k t) F.entry_int_rmul (F.args_int_rmul_2 _ _) (b5c k t a its.toArray n dd sl)
   ⟨ho,rfl,⟨_,ho,rfl⟩,?_⟩)
 by_cases hk:k=1
 ·exact call_meets Vw ⟨_,ho,rfl⟩ F.entry_tuple_mul (F.args_tuple_mul_2 _ _) (b5d a its.toArray n dd sl k t hk) ⟨ho,⟨.ref a,H,I,rfl,q1 hk⟩⟩
 ·refine call_meets Vw ⟨_,ho,rfl⟩ F.entry_tuple_mul (F.args_tuple_mul_2 _ _) (b5e a its n dd sl k t (fun z=>hne (r.nil_iff.mp z)) (by omega) h2 (by rw[←r.length];exact hz)) ⟨ho,?_⟩
  refine⟨.ref s.heap.objs.size,_,I.laid (t':=s.toks) (o:=.tup (List.replicate k.toNat xs).flatten) (fun b ob q=>Qx _ q) (Qm _) ?_,rfl,q2 _ (I.hok.fresh (Qm _))⟩
  exact⟨by rw[a8V,Nat.mul_comm];exact hz,_,r.rep k.toNat,a0z.new _ _⟩
end
section
variable{X:Cx}{B:OA}{pos:Pos}{a b:Expr}{ma mb:Mo D}
def a6A:D->D->Option D
 |.tup xs,.tup ys=>if xs.length+ys.length≤10000 then some (.tup (xs++ys))else none
 |_,_=>none
theorem a6B{n:Nat}(h:n≤10000):n≤sizeLine:=Zo h (by decide)
theorem b5g:OpD X B (rCatT' X.K) a6A:=by
 intro G σ env H x y a b d Q rl ra rb e k;cases a<;>cases b<;>first|(exact absurd (show(none:Option D)=some d from e) (by simp))|skip
 rename_i ds es;simp only[a6A]at e;split at e
 ·rename_i hl
  cases e;have ra0:=ra;have rb0:=rb;simp only[Rep]at ra rb;obtain⟨p,xs,rfl,q1,r1⟩:=ra;obtain⟨p',ys,rfl,q2,r2⟩:=rb;refine⟨p,p',xs,ys,rfl,rfl,rl.sub.sqT q1,rl.sub.sqT q2,by rw[r1.length,r2.length];exact a6B hl,fun z=>?_,fun z=>?_,fun l hp=>?_⟩
  ·subst z
   have:ds=[]:=List.length_eq_zero_iff.mp r1.length.symm;subst this;exact k _ G H (.refl rl) rb0
  ·subst z
   have:es=[]:=List.length_eq_zero_iff.mp r2.length.symm;subst this;exact k _ G H (.refl rl) (by rw[Yl];exact ra0)
  ·exact k _ _ _ (rl.alloc hp) (a2K y6_ (z6_.mono (Le.upd (rl.gnone hp)) _ (r1.append r2)))
 ·cases e
def a6C:D->D->Option D
 |.tup [d],.int k=>if 1≤k/\k≤1000 then some (.tup (List.replicate k.toNat d))else none
 |_,_=>none
theorem b5h{α:Type}(x:α)(n:Nat):(List.replicate n [x]).flatten=List.replicate n x:=by
 induction n with
 |zero=>rfl
 |succ n ih=>rw[Zr,Uk,ih,Zr];rfl
theorem a9A{K:Qq}{G:Hp}{x:V}{d:D}(h:Rep K G x d):∀n,z6_ K G (List.replicate n x) (List.replicate n d)
 |0=>repL_nil
 |n+1=>by rw[Zr,Zr];exact repL_cons h (a9A h n)
theorem b5i:OpD X B (a4Q X.K) a6C:=by
 intro G σ env H x y a b d Q rl ra rb e k;unfold a6C at e;split at e
 ·rename_i d0 n
  split at e
  ·rename_i hn
   cases e;have ra0:=ra;simp only[Rep]at ra rb;obtain⟨p,xs,rfl,q1,r1⟩:=ra;subst rb;obtain⟨v,rfl,rv⟩:=a0p r1;refine⟨p,n,[v],rfl,rfl,rl.sub.sqT q1,by simp,by omega,by omega,?_,fun z=>?_,fun l hp=>?_⟩
   ·exact a6B (by simp;omega)
   ·subst z
    exact k _ G H (.refl rl) ra0
   ·rw[b5h]
    exact k _ _ _ (rl.alloc hp) (a2K y6_ (z6_.mono (Le.upd (rl.gnone hp)) _ (a9A rv _)))
  ·cases e
 ·cases e
def x2_:=fOr a8Y a6A
def w4_:=fOr a6a a6C
theorem g1_:OpR X (binaryOp .Add) (fun x y H Q=>rI0 (fun i j=>.int (i+j)) x y H Q∨rCatT' X.K x y H Q):=OpR.or b3w op_catT'
theorem g2_:OpD X B (fun x y H Q=>rI0 (fun i j=>.int (i+j)) x y H Q∨rCatT' X.K x y H Q) x2_:=b4t.or b5g
theorem a1M:OpR X (binaryOp .Mult) (fun x y H Q=>rI a2c (fun i j=>.int (i * j)) x y H Q∨a4Q X.K x y H Q):=OpR.or b3x b5f
theorem a1N:OpD X B (fun x y H Q=>rI a2c (fun i j=>.int (i * j)) x y H Q∨a4Q X.K x y H Q) w4_:=b4u.or b5i
def a4R(ma mb:Mo D):Mo (List D):=fun env=>(ma env).bind fun p=>(mb p.2).bind fun q=>match p.1,q.1 with
 |.lst xs,.lst ys=>if xs.length+ys.length≤10000 then some (xs++ys,q.2)else none
 |_,_=>none
theorem b5j(ha:ED X B a ma)(hb:ED X B b mb):EL X B (.BinOp a .Add b pos) (a4R ma mb):=by
 refine pe_imp (a8s op_catL' ha hb) ?_
 rintro σ H Q ⟨G,env,ds,env',rl,e,k⟩;obtain⟨⟨d1,env1⟩,e1,e2⟩:=z9_ e;obtain⟨⟨d2,env2⟩,e3,e4⟩:=z9_ e2;dsimp only at e4 e3;refine .bind rl e1 fun v1 G1 H1 ev1 r1=>.bind ev1.rel e3 fun v2 G2 H2 ev2 r2=>?_
 split at e4
 ·rename_i xs ys
  split at e4
  ·rename_i hl
   cases e4;have r1':=Rep.mono ev2.same _ r1;simp only[Rep]at r1' r2;obtain⟨p,us,rfl,q1,t1⟩:=r1';obtain⟨p',ws,rfl,q2,t2⟩:=r2;exact⟨p,p',us,ws,rfl,rfl,ev2.rel.sub.sqL q1,ev2.rel.sub.sqL q2,by rw[t1.length,t2.length];exact a6B hl,fun l hp=>a6f (ev1.trans ev2) hp (t1.append t2) k⟩
  ·cases e4
 ·cases e4
end
end L2.Mir
namespace HT
open PySem PySem.Spec PyProof.Rows
section
variable{prog:Program}{w:World}{A:Around}{E:OE}{s:Shared}
theorem getItem_tuple_whole{t sl:Addr}{items:Array Value}{vl vu:Value}{lo hi:Option Int}{Q:OE}(ht:IsTup s.heap t items)(hs:s.heap.IsSliceOf sl vl vu .none)(pl:IsPart vl lo)(pu:IsPart vu hi)
  (hw:sIx items.size 0 lo=0/\sIx items.size items.size hi=items.size)
  (h:Q (.ref t) s):wpAny (model prog w) A (getItem (.ref t) (.ref sl)) Q E s:=by
 obtain⟨os,hos,hcs,hds⟩:=id hs;have hTs:s.TypeIs (.ref sl) "slice":=⟨os,hos,hcs⟩;unfold getItem
 try with_reducible refine Jv ?_
 first|refine Qz (Qv ?_)|skip
 refine Qz (wpAny_sequenceKey ht.typeIs (by decide) ?_)
 refine Qz (Yx (name:=Str.ofString "__getitem__") ht.typeIs Zm
  (Jh Zm ht.typeIs entry_tuple_getitem ?_ (args_tuple_getitem _ _)))
 show wpAny _ _ (Builtin.Tuple.tupleItemsOf (.ref t)>>=_) _ _ s;refine Qz (tupleItemsOf_ ht ?_);refine Qz (wpAny_typeOf hTs ?_);rw[Qc (by decide)]
 refine Qz (sliceApplied_gen hs pl pu ?_);have hno:((((sIx items.size 0 lo:Nat):Int)==0&&(1:Int)==1&&(sIx items.size items.size hi-sIx items.size 0 lo)==items.size)=true):=by
  rw[hw.1,hw.2];simp
 show wpAny _ _ (if(((sIx items.size 0 lo:Nat):Int)==0&&(1:Int)==1&&(sIx items.size items.size hi-sIx items.size 0 lo)==items.size)=true then _ else _) _ _ s
 rw[Qc hno];refine Qz (Qz (m:=typeOf (.ref t)) (wpAny_typeOf ht.typeIs (Qv ?_)));rw[Qc (by decide)]
 refine Qz (Ju ?_)
 first
  |exact Qv ⟨_,rfl,Qv h⟩
  |exact Qz (Qv ⟨_,rfl,Qv h⟩)
  |exact Qz (Qz (Qv ⟨_,rfl,Qv h⟩))
end
end HT
namespace L2.Mir
open PySem PySem.Spec PyProof.Rows
section
variable{X:Cx}{B:OA}{e lo hi st:Expr}{ma ml mh:Mo D}{pos p2:Pos}
def b5k(K:Qq):V->Option Int->Option Int->Hp->VK->Prop:=fun x lo hi H Q=>∃a xs,x=.ref a/\SqT K H a xs/\
 ((HT.sIx xs.length 0 lo=0/\HT.sIx xs.length xs.length hi=xs.length)->Q (.ref a) H)/\∀p,H p=none->Q (.ref p) (upd H p (.tup (a2f xs lo hi)))
theorem b5l:SlR X (b5k X.K):=by
 intro pins s σ H x v vl vu lo hi sl Q I rx hs pl pu h;obtain⟨a,xs,rfl,hx,qw,q⟩:=h
 by_cases hw:HT.sIx xs.length 0 lo=0/\HT.sIx xs.length xs.length hi=xs.length
 ·cases rx
  obtain⟨its,r,ht,hz⟩:=I.tuple hx;have hlen:its.toArray.size=xs.length:=by rw[Qp];exact r.length.symm
  refine⟨"tuple",_,Zm.lookup,ht.typeIs,?_⟩;exact HT.getItem_tuple_whole ht hs pl pu (by rw[hlen];exact hw) ⟨.ref a,H,I,rfl,qw hw⟩
 ·exact a8J pins s σ H (.ref a) v vl vu lo hi sl Q I rx hs pl pu ⟨a,xs,rfl,hx,hw,q⟩
def a1r(xs:List D)(lo hi:Option Int):List D:=(xs.drop (HT.sIx xs.length 0 lo)).take (HT.sIx xs.length xs.length hi-HT.sIx xs.length 0 lo)
def a1s:Mo (Option Int):=fun env=>some (none,env)
def a1t(m:Mo D):Mo (Option Int):=fun env=>(m env).bind fun p=>match p.1 with
 |.int i=>some (some i,p.2)
 |_=>none
def TOm(K:Qq)(B:OA)(m:Mo (Option Int)):TO:=fun σ H Q=>∃G env o env',Rel K B G σ env H/\m env=some (o,env')/\∀G' H',Ev K B G σ env H G' σ env' H'->Q o H'
abbrev EO(X:Cx)(B:OA)(e:Option Expr)(m:Mo (Option Int)):Prop:=PO X e (TOm X.K B m)
theorem a9B{X:Cx}{e:Option Expr}{t t':TO}(h:PO X e t)(i:∀σ H Q,t' σ H Q->t σ H Q):PO X e t':=fun pins s σ H Q I q=>h pins s σ H Q I (i σ H Q q)
theorem a9C:EO X B none a1s:=by
 refine a9B b3R ?_
 rintro σ H Q ⟨G,env,o,env',rl,e,k⟩;cases e;exact k G H (.refl rl)
theorem a9D(h:ED X B e ma):EO X B (some e) (a1t ma):=by
 refine a9B (b3S h) ?_
 rintro σ H Q ⟨G,env,o,env',rl,e,k⟩;obtain⟨⟨d,env1⟩,e1,e2⟩:=z9_ e;dsimp only at e2;split at e2
 ·rename_i i
  cases e2;refine .bind rl e1 fun v G1 H1 ev r=>?_
  simp only[Rep]at r;exact⟨i,r,k G1 H1 ev⟩
 ·cases e2
def mSl(m:Mo D)(ml mh:Mo (Option Int)):Mo D:=fun env=>(m env).bind fun p=>(ml p.2).bind fun q=>(mh q.2).bind fun r=>match p.1 with
 |.tup ds=>some (.tup (a1r ds q.1 r.1),r.2)
 |_=>none
theorem z6_.cut{K:Qq}{G:Hp}{xs:List V}{ds:List D}(r:z6_ K G xs ds)(lo hi:Option Int):z6_ K G (a2f xs lo hi) (a1r ds lo hi):=by
 unfold a2f a1r;rw[r.length];exact(r.drop _).take _
theorem b5m{ds:List D}{lo hi:Option Int}(h:HT.sIx ds.length 0 lo=0/\HT.sIx ds.length ds.length hi=ds.length):a1r ds lo hi=ds:=by
 unfold a1r;rw[h.1,h.2];simp
theorem a9E{lo hi:Option Expr}{ml mh:Mo (Option Int)}(he:ED X B e ma)(hl:EO X B lo ml)(hh:EO X B hi mh):ED X B (.Subscript e (.Slice lo hi none p2) pos) (mSl ma ml mh):=by
 refine pe_imp (b3T b5l he hl hh) ?_
 rintro σ H Q ⟨G,env,d,env',rl,e,k⟩;obtain⟨⟨d1,env1⟩,e1,e2⟩:=z9_ e;obtain⟨⟨l,env2⟩,e3,e4⟩:=z9_ e2;obtain⟨⟨u,env3⟩,e5,e6⟩:=z9_ e4;dsimp only at e3 e5 e6;split at e6
 ·rename_i ds
  cases e6;refine .bind rl e1 fun v G1 H1 ev1 r1=>⟨G1,env1,l,env2,ev1.rel,e3,fun G2 H2 ev2=>⟨G2,env2,u,_,ev2.rel,e5,fun G3 H3 ev3=>?_⟩⟩
  have r3:=Rep.mono (ev2.same.trans ev3.same) _ r1
  have r30:=r3
  simp only[Rep]at r3;obtain⟨p,xs,rfl,q,t⟩:=r3;refine⟨p,xs,rfl,ev3.rel.sub.sqT q,fun hw=>?_,fun l' hp=>?_⟩
  ·rw[t.length]at hw
   exact k _ G3 H3 ((ev1.trans ev2).trans ev3) (by rw[b5m hw];exact r30)
  ·exact k _ _ _ (((ev1.trans ev2).trans ev3).trans (ev3.rel.alloc hp)) (a2K y6_ (z6_.mono (Le.upd (ev3.rel.gnone hp)) _ (t.cut l u)))
 ·cases e6
end
section
variable{X:Cx}{pins:OX}{σ:St}{H:Hp}{s:Shared}{h':Heap}
theorem a9F{t':Nat}{ch:List Addr}(I:Inv X pins σ H s)(k:∀b o,b∉ch->s.heap.get? b=some o->h'.get? b=some o)(hf:∀b∈ch,u7_ X pins H b):Inv X pins σ H {s with heap:=h',toks:=t'}:=by
 have nit:∀b u,H b=some u->b∉ch:=fun b u e z=>by rw[(hf b z).1]at e;cases e
 refine I.step (g':=s.gens) (d':=s.drawn) (ch:=ch) (fun b hb=>⟨(hf b hb).2.2.2.1,(hf b hb).2.1,(hf b hb).2.2.2.2.1,(hf b hb).2.2.2.2.2⟩) (fun b o _ _ hc e _=>k b o hc e) (fun b o _ _ hc e _=>⟨o.slots,k b o hc e⟩) (fun _ _ _ _ n=>n)
  (fun b o hc e=>⟨o,k b o hc e⟩) (fun _ _ e=>e) (fun _ _ _ e=>e) (fun b ps e=>⟨#[],by rw[e];simp⟩) (fun m hm=>?_) (fun b u e=>?_) I.bare
 ·obtain⟨o,es,ep,ho,r⟩:=hm
  exact⟨o,es,ep,k _ o (fun z=>(hf _ z).2.1 rfl) ho,r⟩
 ·refine(I.hok b u e).stay (fun c v hc q=>k c v ?_ q) (fun _ q=>q) fun _ _ q=>q
  rcases hc with z|z
  ·rw[z];exact nit b u e
  ·exact nit c _ z
theorem b5n{t':Nat}{ch:List Addr}{p:Addr}{o:HO}(I:Inv X pins σ H s)(k:∀b o,b∉ch->s.heap.get? b=some o->h'.get? b=some o)(hf:∀b∈ch,u7_ X pins H b)
  (hp:s.heap.objs.size≤p)(new:x4_ X.prog X.w (upd H p o) h' p o):Inv X pins σ (upd H p o) {s with heap:=h',toks:=t'}:=by
 have nit:∀b u,H b=some u->b∉ch:=fun b u e z=>by rw[(hf b z).1]at e;cases e
 have hn:H p=none:=I.hok.fresh hp
 have np:∀b u,s.heap.get? b=some u->b≠p:=fun b u q=>Qi (Qd (Qu q) hp)
 refine I.step (g':=s.gens) (d':=s.drawn) (ch:=ch) (fun b hb=>⟨(hf b hb).2.2.2.1,(hf b hb).2.1,(hf b hb).2.2.2.2.1,(hf b hb).2.2.2.2.2⟩) (fun b o _ _ hc e _=>k b o hc e) (fun b o _ _ hc e _=>⟨o.slots,k b o hc e⟩) (fun b o _ e n=>by rw[q8_ (np b o e)];exact n)
  (fun b o hc e=>⟨o,k b o hc e⟩) (fun b xs q=>by rw[q8_ (g9_ q hn)];exact q) (fun b u xs q=>by rw[q8_ (g9_ q hn)];exact q) (fun b ps e=>⟨#[],by rw[q8_ (g9_ e hn),e];simp⟩) (fun m hm=>?_) (fun b u e=>?_) I.bare
 ·obtain⟨o,es,ep,ho,r⟩:=hm
  exact⟨o,es,ep,k _ o (fun z=>(hf _ z).2.1 rfl) ho,r⟩
 ·by_cases hb:b=p
  ·subst hb;rw[y6_]at e;cases e;exact new
  ·rw[q8_ hb]at e
   refine(I.hok b u e).stay (fun c v hc q=>k c v ?_ q) (fun c q=>by rw[q8_ (g9_ q hn)];exact q) fun c xs q=>by rw[q8_ (g9_ q hn)];exact q
   rcases hc with z|z
   ·rw[z];exact nit b u e
   ·exact nit c _ z
end
def Sq1(k:Bool)(h:Heap)(l:Addr)(xs:Array Value):Prop:=if k then h.IsTuple l xs else h.IsList l xs
def It1(k:Bool)(h:Heap)(i l:Addr)(n:Nat):Prop:=if k then h.IsTupleIter i l n else h.IsListIter i l n
section
variable{k:Bool}{h h':Heap}{i l b:Addr}{n:Nat}{xs:Array Value}
theorem Sq1.at'(x:Sq1 k h l xs)(e:∀o,h.get? l=some o->h'.get? l=some o):Sq1 k h' l xs:=by
 cases k
 ·exact Heap.IsList.at (show h.IsList l xs from x) e
 ·obtain⟨o,ho,r⟩:=(show h.IsTuple l xs from x)
  exact(⟨o,e _ ho,r⟩:h'.IsTuple l xs)
theorem It1.at'(x:It1 k h i l n)(e:∀o,h.get? i=some o->h'.get? i=some o):It1 k h' i l n:=by
 cases k
 ·exact Heap.IsListIter.at (show h.IsListIter i l n from x) e
 ·exact Heap.IsTupleIter.at (show h.IsTupleIter i l n from x) e
theorem It1.get(x:It1 k h i l n):∃o,h.get? i=some o/\∀v,o.data≠.cell v:=by
 cases k
 ·obtain⟨o,ho,_,d⟩:=(show h.IsListIter i l n from x);exact⟨o,ho,fun v z=>by rw[d]at z;cases z⟩
 ·obtain⟨o,ho,_,d⟩:=(show h.IsTupleIter i l n from x);exact⟨o,ho,fun v z=>by rw[d]at z;cases z⟩
theorem It1.but(x:It1 k h i l n)(hs:Heap.ExtBut b h h')(hb:i≠b):It1 k h' i l n:=x.at' fun o e=>hs i o hb e
theorem Sq1.but(x:Sq1 k h l xs)(hs:Heap.ExtBut b h h')(hb:l≠b):Sq1 k h' l xs:=x.at' fun o e=>hs l o hb e
end
section
variable{prog:Program}{w:World}{A:Around}{E:OE}{s:Shared}
theorem b5o{it l:Addr}{i:Nat}{items:Array Value}{x:Value}{Q:OE}(hit:s.heap.IsTupleIter it l i)(hl:s.heap.IsTuple l items)(hx:items[i]? =some x)
  (hQ:∀h',h'.IsTupleIter it l (i+1)->Heap.SameBut it s.heap h'->Q x {s with heap:=h'}):wpAny (model prog w) A (Builtin.SmallTypes.nextOf (.ref it)) Q E s:=by
 obtain⟨o,ho,hc,hd⟩:=id hit;obtain⟨ol,hol,_,nl,hdl⟩:=hl;unfold Builtin.SmallTypes.nextOf;refine Qz (Yx (name:=Str.ofString "__next__") hit.typeIs Yh (Jh Yh hit.typeIs Vj ?_ (Vq _)));show wpAny _ _ (field (.ref it) 0>>=_) _ _ s;refine Qz (Ze ho hd (x:=.ref l) rfl ?_);rw[Qs (show ¬ ((Value.ref l==Value.none)=true)from Zg)]
 refine Qz (Ze ho hd (x:=.int i 0) rfl ?_);refine Qz (Yt hol hdl ?_);simp only[Jw,hx];refine Qz (wpAny_setField ho hd (by simp) (Qv ⟨x,rfl,Qv (hQ _ ⟨_,Heap.get?_update_self _ ho (Obj.isFreed_of_fields (Obj.data_mapFields hd _)),(Obj.cls_mapFields ..).trans hc,?_⟩ (Ys ..))⟩))
 rw[Obj.data_mapFields hd];simp[rawInt]
theorem b5p{it l:Addr}{i:Nat}{items:Array Value}{Q:OE}(hh:A.handled=none)(hit:s.heap.IsTupleIter it l i)(hl:s.heap.IsTuple l items)(hx:items[i]? =none)
  (hE:∀h' e,Heap.ExtBut it s.heap h'->(∃o,h'.get? e=some o/\o.cls=.type "StopIteration")->E (.ref e) {s with heap:=h'}):wpAny (model prog w) A (Builtin.SmallTypes.nextOf (.ref it)) Q E s:=by
 obtain⟨o,ho,hc,hd⟩:=id hit;obtain⟨ol,hol,_,nl,hdl⟩:=hl;unfold Builtin.SmallTypes.nextOf;refine Qz (Yx (name:=Str.ofString "__next__") hit.typeIs Yh (Jh Yh hit.typeIs Vj ?_ (Vq _)));show wpAny _ _ (field (.ref it) 0>>=_) _ _ s;refine Qz (Ze ho hd (x:=.ref l) rfl ?_);rw[Qs (show ¬ ((Value.ref l==Value.none)=true)from Zg)]
 refine Qz (Ze ho hd (x:=.int i 0) rfl ?_);refine Qz (Yt hol hdl ?_);simp only[Jw,hx];refine Qz (Ju (Qz (wpAny_setField ho hd (by simp) ?_)))
 refine Qz ?_
 simp only[newExc,newTuple];refine Qz (Yk ?_ (by size_fits))
 refine Qz (m:=firstArgMember _ _) (wpAny_of_eq (a:=Value.none) (by first|rfl|(simp only[firstArgMember];rfl)) ?_)
 refine Yk ?_ (by size_fits)
 simp only[raiseNew];refine Qz (wpAny_handled ?_)
 first|rw[show A.in1.handled=none from hh]|rw[hh]
 refine Qz (Qv (wpAny_throw ?_));exact hE _ _ (((Ys ..).extBut.push _).push _) ⟨_,Qb _ rfl,rfl⟩
theorem a6D{k:Bool}{it l:Addr}{i:Nat}{items:Array Value}{x:Value}{Q:OE}(hit:It1 k s.heap it l i)(hl:Sq1 k s.heap l items)(hx:items[i]? =some x)
  (hQ:∀h',It1 k h' it l (i+1)->Heap.SameBut it s.heap h'->Q x {s with heap:=h'}):wpAny (model prog w) A (Builtin.SmallTypes.nextOf (.ref it)) Q E s:=by
 cases k
 ·exact wpAny_nextOf_list_item hit hl hx hQ
 ·exact b5o hit hl hx hQ
theorem a9G{k:Bool}{it l:Addr}{i:Nat}{items:Array Value}{Q:OE}(hh:A.handled=none)(hit:It1 k s.heap it l i)(hl:Sq1 k s.heap l items)(hx:items[i]? =none)
  (hE:∀h' e,Heap.ExtBut it s.heap h'->(∃o,h'.get? e=some o/\o.cls=.type "StopIteration")->E (.ref e) {s with heap:=h'}):wpAny (model prog w) A (Builtin.SmallTypes.nextOf (.ref it)) Q E s:=by
 cases k
 ·exact wpAny_nextOf_list_end hh hit hl hx hE
 ·exact b5p hh hit hl hx hE
end
section
variable{prog:Program}{w:World}{A:Around}{E:OE}{s:Shared}{c1 c2:Bool}
theorem b5q{z TI TO i1 i2 l1 l2:Addr}{k1 k2:Nat}{xs ys:Array Value}{x y a b:Value}{Q:OE}(D:ZipApart z TI TO i1 i2 l1 l2)
  (hz:IsZip s.heap z TI TO .none)(hTI:IsPair s.heap TI (.ref i1) (.ref i2))(hTO:IsPair s.heap TO a b)
  (h1:It1 c1 s.heap i1 l1 k1)(h2:It1 c2 s.heap i2 l2 k2)(hl1:Sq1 c1 s.heap l1 xs)(hl2:Sq1 c2 s.heap l2 ys)(hx:xs[k1]? =some x)(hy:ys[k2]? =some y)
  (hQ:∀h',IsZip h' z TI TO (rawInt s.heap.objs.size)->IsPair h' TO x y->It1 c1 h' i1 l1 (k1+1)->It1 c2 h' i2 l2 (k2+1)->IsPair h' s.heap.objs.size x y->h'.objs.size=s.heap.objs.size+1->
   (∀c o,c≠z->c≠TO->c≠i1->c≠i2->s.heap.get? c=some o->h'.get? c=some o)->Q (.ref s.heap.objs.size) {s with heap:=h'}):
  wpAny (model prog w) A (Builtin.«zip.__next__» ⟨[.ref z],[]⟩) (fun fin s'=>∃v,fin=.done (.ret v)/\Q v s') E s:=by
 show wpAny _ _ (field (.ref z) 2>>=_) _ _ _;refine Qz (Ze hz rfl (x:=.bool false) rfl (Qz (Ze hz rfl (x:=.ref TI) rfl ?_)));refine Qz (Yt hTI rfl (Qz ?_));unfold Builtin.SmallTypes.ownedTupleIsFree;refine Qz (Ze hz rfl (x:=.none) rfl (Qv ?_));simp only[Zh];refine Qz (Ju (Qz (Ze hz rfl (x:=.ref TO) rfl ?_)));refine Qz (Jq hz (by simp) fun g1 (z1:IsZip g1 z TI TO .ellipsis) s1=>Qz ?_)
 simp only[List.zipIdx_cons,List.zipIdx_nil,Xm,Vt];refine Qz (Qz (Xx (Qz (m:=Builtin.SmallTypes.nextOf (.ref i1)) ?_)));refine a6D (h1.but s1.extBut D.i1z) (hl1.but s1.extBut D.l1z) hx fun g2 a2 s2=>Qv ?_
 have p2:IsPair g2 TO a b:=s2.extBut _ _ D.TOi1 (s1.extBut _ _ D.TOz hTO)
 refine Qz (Yt p2 rfl (Qz (Vl p2 fun g3 (p3:IsPair g3 TO x b) s3=>?_)))
 refine Qz (wpAny_letGo (Qv (Qz (Qz (Xx (Qz (m:=Builtin.SmallTypes.nextOf (.ref i2)) ?_))))));refine a6D (((h2.but s1.extBut D.i2z).but s2.extBut D.i12.symm).but s3.extBut D.TOi2.symm) (((hl2.but s1.extBut D.l2z).but s2.extBut D.l2i1).but s3.extBut D.l2TO) hy fun g4 a4 s4=>Qv ?_
 have p4:IsPair g4 TO x b:=s4.extBut _ _ D.TOi2 p3
 refine Qz (Yt p4 rfl (Qz (Vl p4 fun g5 (p5:IsPair g5 TO x y) s5=>?_)))
 refine Qz (wpAny_letGo (Qv (Qv (Qz (Yt p5 rfl (Qz (wpAny_newTuple ?_)))))));have hsz:g5.objs.size=s.heap.objs.size:=by rw[s5.1,s4.1,s3.1,s2.1,s1.1]
 have z5:IsZip g5 z TI TO .ellipsis:=s5.extBut _ _ D.TOz.symm (s4.extBut _ _ D.i2z.symm (s3.extBut _ _ D.TOz.symm (s2.extBut _ _ D.i1z.symm z1)))
 have k5:∀c o,c≠z->c≠TO->c≠i1->c≠i2->s.heap.get? c=some o->g5.get? c=some o:=fun c o n1 n2 n3 n4 e=>
  s5.extBut _ _ n2 (s4.extBut _ _ n4 (s3.extBut _ _ n2 (s2.extBut _ _ n3 (s1.extBut _ _ n1 e))))
 have b1:It1 c1 g5 i1 l1 (k1+1):=((a2.but s3.extBut D.TOi1.symm).but s4.extBut D.i12).but s5.extBut D.TOi1.symm
 have b2:It1 c2 g5 i2 l2 (k2+1):=a4.but s5.extBut D.TOi2.symm
 refine Qz (m:=Builtin.SmallTypes.ownedTupleHandOut (.ref z) (.ref g5.objs.size)) ?_
 unfold Builtin.SmallTypes.ownedTupleHandOut;have z6:IsZip (g5.push {cls:=.type "tuple",data:=.seq #[x,y]}) z TI TO .ellipsis:=Qx _ z5;refine Qz (Jq z6 (by simp) fun g7 (z7:IsZip g7 z TI TO (rawInt g5.objs.size)) s7=>?_)
 refine Jq z7 (by simp) fun g8 (z8:IsZip g8 z TI TO (rawInt g5.objs.size)) s8=>?_
 have up:∀c o,c≠z->g5.get? c=some o->g8.get? c=some o:=fun c o n1 e=>s8.extBut _ _ n1 (s7.extBut _ _ n1 (Qx _ e))
 have t8:IsPair g8 g5.objs.size x y:=s8.extBut _ _ (Xb (Qu z5)) (s7.extBut _ _ (Xb (Qu z5)) (Qb _ rfl))
 have e8:g8.objs.size=g5.objs.size+1:=by rw[s8.1,s7.1,Zi]
 rw[hsz]at z8 t8 e8;refine Qv ⟨_,rfl,?_⟩;show Q (.ref g5.objs.size) _;rw[hsz];exact hQ g8 z8 (up _ _ D.TOz p5) (b1.at' fun o e=>up _ o D.i1z e) (b2.at' fun o e=>up _ o D.i2z e) t8 e8 fun c o n1 n2 n3 n4 e=>up c o n1 (k5 c o n1 n2 n3 n4 e)
theorem b5r{z TI TO i1 i2 l1 l2:Addr}{k1 k2:Nat}{xs ys:Array Value}{a b:Value}{Q:PySem.Fin->Shared->Prop}(hh:A.handled=none)(D:ZipApart z TI TO i1 i2 l1 l2)
  (hz:IsZip s.heap z TI TO .none)(hTI:IsPair s.heap TI (.ref i1) (.ref i2))(hTO:IsPair s.heap TO a b)
  (h1:It1 c1 s.heap i1 l1 k1)(h2:It1 c2 s.heap i2 l2 k2)(hl1:Sq1 c1 s.heap l1 xs)(hl2:Sq1 c2 s.heap l2 ys)(hend:xs[k1]? =none∨ys[k2]? =none)
  (hE:∀h' e,(∀c o,c≠z->c≠TO->c≠i1->c≠i2->s.heap.get? c=some o->h'.get? c=some o)->(∃o,h'.get? e=some o/\o.cls=.type "StopIteration")->E (.ref e) {s with heap:=h'}):
  wpAny (model prog w) A (Builtin.«zip.__next__» ⟨[.ref z],[]⟩) Q E s:=by
 show wpAny _ _ (field (.ref z) 2>>=_) _ _ _;refine Qz (Ze hz rfl (x:=.bool false) rfl (Qz (Ze hz rfl (x:=.ref TI) rfl ?_)));refine Qz (Yt hTI rfl (Qz ?_));unfold Builtin.SmallTypes.ownedTupleIsFree;refine Qz (Ze hz rfl (x:=.none) rfl (Qv ?_));simp only[Zh];refine Qz (Ju (Qz (Ze hz rfl (x:=.ref TO) rfl ?_)));refine Qz (Jq hz (by simp) fun g1 (z1:IsZip g1 z TI TO .ellipsis) s1=>Qz ?_)
 simp only[List.zipIdx_cons,List.zipIdx_nil,Xm,Vt];refine Qz (Qz (Xx (Qz (m:=Builtin.SmallTypes.nextOf (.ref i1)) ?_)));cases hx:xs[k1]? with
 |none=>
  refine a9G hh (h1.but s1.extBut D.i1z) (hl1.but s1.extBut D.l1z) hx fun g2 e s2 he=>?_
  obtain⟨oe,q1,q2⟩:=he;have z2:IsZip g2 z TI TO .ellipsis:=s2 _ _ D.i1z.symm z1;have ne:e≠z:=fun x=>by subst x;rw[z2]at q1;cases q1;simp at q2
  exact Jq z2 (by simp) fun g3 _ s3=>hE g3 e (fun c o n1 _ n3 _ x=>s3.extBut _ _ n1 (s2 _ _ n3 (s1.extBut _ _ n1 x))) ⟨oe,s3.extBut _ _ ne q1,q2⟩
 |some x=>
  have hy:ys[k2]? =none:=by
   rcases hend with h|h
   ·rw[hx]at h;cases h
   ·exact h
  refine a6D (h1.but s1.extBut D.i1z) (hl1.but s1.extBut D.l1z) hx fun g2 a2 s2=>Qv ?_
  have p2:IsPair g2 TO a b:=s2.extBut _ _ D.TOi1 (s1.extBut _ _ D.TOz hTO)
  refine Qz (Yt p2 rfl (Qz (Vl p2 fun g3 p3 s3=>?_)))
  refine Qz (wpAny_letGo (Qv (Qz (Qz (Xx (Qz (m:=Builtin.SmallTypes.nextOf (.ref i2)) ?_))))));refine a9G hh (((h2.but s1.extBut D.i2z).but s2.extBut D.i12.symm).but s3.extBut D.TOi2.symm) (((hl2.but s1.extBut D.l2z).but s2.extBut D.l2i1).but s3.extBut D.l2TO) hy fun g4 e s4 he=>?_
  obtain⟨oe,q1,q2⟩:=he;have z4:IsZip g4 z TI TO .ellipsis:=s4 _ _ D.i2z.symm (s3.extBut _ _ D.TOz.symm (s2.extBut _ _ D.i1z.symm z1));have ne:e≠z:=fun x=>by subst x;rw[z4]at q1;cases q1;simp at q2
  exact Jq z4 (by simp) fun g5 _ s5=>hE g5 e (fun c o n1 n2 n3 n4 x=>s5.extBut _ _ n1 (s4 _ _ n4 (s3.extBut _ _ n2 (s2.extBut _ _ n3 (s1.extBut _ _ n1 x))))) ⟨oe,s5.extBut _ _ ne q1,q2⟩
theorem b5s{z TI TO i1 i2 l1 l2:Addr}{k1 k2:Nat}{xs ys:Array Value}{x y a b:Value}{Q:Option Value->Shared->Prop}(D:ZipApart z TI TO i1 i2 l1 l2)
  (hz:IsZip s.heap z TI TO .none)(hTI:IsPair s.heap TI (.ref i1) (.ref i2))(hTO:IsPair s.heap TO a b)
  (h1:It1 c1 s.heap i1 l1 k1)(h2:It1 c2 s.heap i2 l2 k2)(hl1:Sq1 c1 s.heap l1 xs)(hl2:Sq1 c2 s.heap l2 ys)(hx:xs[k1]? =some x)(hy:ys[k2]? =some y)
  (hQ:∀h',IsZip h' z TI TO (rawInt s.heap.objs.size)->IsPair h' TO x y->It1 c1 h' i1 l1 (k1+1)->It1 c2 h' i2 l2 (k2+1)->IsPair h' s.heap.objs.size x y->h'.objs.size=s.heap.objs.size+1->
   (∀c o,c≠z->c≠TO->c≠i1->c≠i2->s.heap.get? c=some o->h'.get? c=some o)->Q (some (.ref s.heap.objs.size)) {s with heap:=h'}):
  wpAny (model prog w) A (pyNext (.ref z)) Q E s:=by
 have hT:s.TypeIs (.ref z) "zip":=⟨_,hz,rfl⟩
 unfold pyNext;exact Qz (Xk (Yx (name:=Str.ofString "__next__") hT Uu (Jh Uu hT PySem.F.entry_zip_next
  (b5q D hz hTI hTO h1 h2 hl1 hl2 hx hy fun h' a1 a2 a3 a4 a5 a6 a7=>Qv (hQ h' a1 a2 a3 a4 a5 a6 a7)) (PySem.F.args_zip_next_1 _))))
theorem b5t{z TI TO i1 i2 l1 l2:Addr}{k1 k2:Nat}{xs ys:Array Value}{a b:Value}{Q:Option Value->Shared->Prop}(hh:A.handled=none)(D:ZipApart z TI TO i1 i2 l1 l2)
  (hz:IsZip s.heap z TI TO .none)(hTI:IsPair s.heap TI (.ref i1) (.ref i2))(hTO:IsPair s.heap TO a b)
  (h1:It1 c1 s.heap i1 l1 k1)(h2:It1 c2 s.heap i2 l2 k2)(hl1:Sq1 c1 s.heap l1 xs)(hl2:Sq1 c2 s.heap l2 ys)(hend:xs[k1]? =none∨ys[k2]? =none)
  (hQ:∀h',(∀c o,c≠z->c≠TO->c≠i1->c≠i2->s.heap.get? c=some o->h'.get? c=some o)->Q none {s with heap:=h'}):wpAny (model prog w) A (pyNext (.ref z)) Q E s:=by
 have hT:s.TypeIs (.ref z) "zip":=⟨_,hz,rfl⟩
 unfold pyNext;refine Qz (Xk (Yx (name:=Str.ofString "__next__") hT Uu (Jh Uu hT PySem.F.entry_zip_next
  (b5r hh D hz hTI hTO h1 h2 hl1 hl2 hend fun h' e hk he=>?_) (PySem.F.args_zip_next_1 _))))
 obtain⟨o,ho,hc⟩:=he;exact Qz (wpAny_isInstance (T:="StopIteration") (b:=true) ⟨o,ho,hc⟩ isSubtype_stop (Qv (hQ _ hk)))
end
def a9H(c:Bool):String:=if c then "tuple_iterator" else "list_iterator"
abbrev zh1(c1:Bool)(h:Heap)(l1:Addr):Heap:=h.push {cls:=.type (a9H c1),data:=.fields #[.ref l1,.int 0 0]}
abbrev zh2(c1 c2:Bool)(h:Heap)(l1 l2:Addr):Heap:=(zh1 c1 h l1).push {cls:=.type (a9H c2),data:=.fields #[.ref l2,.int 0 0]}
abbrev zh3(c1 c2:Bool)(h:Heap)(l1 l2:Addr):Heap:=(zh2 c1 c2 h l1 l2).push {cls:=.type "tuple",data:=.seq #[.ref h.objs.size,.ref (zh1 c1 h l1).objs.size]}
abbrev zh4(c1 c2:Bool)(h:Heap)(l1 l2:Addr):Heap:=(zh3 c1 c2 h l1 l2).push {cls:=.type "tuple",data:=.seq #[.none,.none]}
abbrev zh5(c1 c2:Bool)(h:Heap)(l1 l2:Addr):Heap:=(zh4 c1 c2 h l1 l2).push {cls:=.type "zip",data:=.fields #[.none,.bool false,.bool false,.ref (zh2 c1 c2 h l1 l2).objs.size,.ref (zh3 c1 c2 h l1 l2).objs.size]}
section
variable{prog:Program}{w:World}{A:Around}{E:OE}{s:Shared}
theorem a9I{c:Bool}{l:Addr}{items:Array Value}{Q:OE}(hl:Sq1 c s.heap l items)(hQ:Q (.ref s.heap.objs.size) {s with heap:=zh1 c s.heap l}):wpAny (model prog w) A (pyIter (.ref l)) Q E s:=by
 cases c
 ·exact Uv hl hQ
 ·exact Js hl hQ
end
theorem b5u(c1 c2:Bool)(l1 l2:Addr)(xs ys:Array Value):
  Meets (Builtin.«zip.__new__» ⟨[.type "zip",.ref l1,.ref l2],[]⟩) (fun _ R s=>Sq1 c1 s.heap l1 xs/\Sq1 c2 s.heap l2 ys/\R (.ok (.ret (.ref (zh4 c1 c2 s.heap l1 l2).objs.size))) {s with heap:=zh5 c1 c2 s.heap l1 l2}):=
 .of_wp fun prog w A R s h=>by
  obtain⟨hp,g,d,tk,os⟩:=s;obtain⟨hl1,hl2,h⟩:=h;have hsub:=sub_zip;have hL1:Sq1 c1 (Shared.heap ⟨hp,g,d,tk,os⟩) l1 xs:=hl1;have hL2:Sq1 c2 (Shared.heap ⟨zh1 c1 hp l1,g,d,tk,os⟩) l2 ys:=Sq1.at' hl2 fun o e=>Qx _ e
  wp_walk using a9I hL1,a9I hL2
  exact⟨_,rfl,h⟩
section
variable{prog:Program}{w:World}{A:Around}{E:OE}{s:Shared}
theorem b5v{c1 c2:Bool}{l1 l2:Addr}{xs ys:Array Value}{Q:OE}(hl1:Sq1 c1 s.heap l1 xs)(hl2:Sq1 c2 s.heap l2 ys)
  (h:∀h',IsZip h' (s.heap.objs.size+4) (s.heap.objs.size+2) (s.heap.objs.size+3) .none->IsPair h' (s.heap.objs.size+2) (.ref s.heap.objs.size) (.ref (s.heap.objs.size+1))->
   IsPair h' (s.heap.objs.size+3) .none .none->It1 c1 h' s.heap.objs.size l1 0->It1 c2 h' (s.heap.objs.size+1) l2 0->h'.objs.size=s.heap.objs.size+5->
   (∀c o,s.heap.get? c=some o->h'.get? c=some o)->Q (.ref (s.heap.objs.size+4)) {s with heap:=h'}):
  wpAny (model prog w) A (call (.type "zip") [.ref l1,.ref l2]) Q E s:=by
 refine callType_new PySem.F.called_zip (by decide) (PySem.F.typeCall_zip_2 _ _) (PySem.F.newCall_zip_2 _ _) (fun obj=>PySem.F.args_object_init_3 obj _ _) PySem.F.entry_zip_new (b5u c1 c2 l1 l2 xs ys) ⟨hl1,hl2,?_⟩
 have z1:(zh1 c1 s.heap l1).objs.size=s.heap.objs.size+1:=Zi ..
 have z2:(zh2 c1 c2 s.heap l1 l2).objs.size=s.heap.objs.size+2:=by rw[Zi,z1]
 have z3:(zh3 c1 c2 s.heap l1 l2).objs.size=s.heap.objs.size+3:=by rw[Zi,z2]
 have z4:(zh4 c1 c2 s.heap l1 l2).objs.size=s.heap.objs.size+4:=by rw[Zi,z3]
 have z5:(zh5 c1 c2 s.heap l1 l2).objs.size=s.heap.objs.size+5:=by rw[Zi,z4]
 have g5:(zh5 c1 c2 s.heap l1 l2).get? (zh4 c1 c2 s.heap l1 l2).objs.size=some _:=Qb _ rfl
 have g4:(zh5 c1 c2 s.heap l1 l2).get? (zh3 c1 c2 s.heap l1 l2).objs.size=some _:=Qx _ (Qb _ rfl)
 have g3:(zh5 c1 c2 s.heap l1 l2).get? (zh2 c1 c2 s.heap l1 l2).objs.size=some _:=Qx _ (Qx _ (Qb _ rfl))
 have g2:(zh5 c1 c2 s.heap l1 l2).get? (zh1 c1 s.heap l1).objs.size=some _:=Qx _ (Qx _ (Qx _ (Qb _ rfl)))
 have g1:(zh5 c1 c2 s.heap l1 l2).get? s.heap.objs.size=some _:=Qx _ (Qx _ (Qx _ (Qx _ (Qb _ rfl))))
 show _/\_;rw[z2,z3,z4]at g5;rw[z1,z2]at g3;rw[z3]at g4;rw[z1]at g2;rw[z4];refine⟨⟨_,g5,rfl⟩,h _ g5 g3 g4 ?_ ?_ z5 fun c o x=>Qx _ (Qx _ (Qx _ (Qx _ (Qx _ x))))⟩
 ·cases c1
  ·exact(⟨_,g1,rfl,rfl⟩:Heap.IsListIter _ _ _ _)
  ·exact(⟨_,g1,rfl,rfl⟩:Heap.IsTupleIter _ _ _ _)
 ·cases c2
  ·exact(⟨_,g2,rfl,rfl⟩:Heap.IsListIter _ _ _ _)
  ·exact(⟨_,g2,rfl,rfl⟩:Heap.IsTupleIter _ _ _ _)
end
def SqA(c:Bool)(K:Qq)(H:Hp)(a:Addr)(xs:List V):Prop:=if c then SqT K H a xs else SqL K H a xs
theorem Le.sqA{K:Qq}{G G':Hp}(l:Le G G'){c:Bool}{a:Addr}{xs:List V}(h:SqA c K G a xs):SqA c K G' a xs:=by
 cases c
 ·exact l.sqL h
 ·exact l.sqT' h
section
variable{X:Cx}{pins:OX}{σ:St}{H:Hp}{s:Shared}{c:Bool}{a b:Addr}{xs:List V}
theorem a2Z(I:Inv X pins σ H s)(h:SqA c X.K H a xs):∃its:List Value,q3_ xs its/\Sq1 c s.heap a its.toArray/\xs.length≤sizeLine:=by
 cases c
 ·obtain⟨its,r,p,z⟩:=I.list h
  exact⟨its,r,p.isList,z⟩
 ·obtain⟨its,r,p,z⟩:=I.tuple h
  exact⟨its,r,p,z⟩
theorem a4S(I:Inv X pins σ H s)(f:u7_ X pins H b)(h:SqA c X.K H a xs):a≠b:=by
 have k:∀{u:HO},Rd H a u->a≠b:=fun r z=>by
  subst z
  rcases r with r|⟨_,r⟩
  ·rw[f.1]at r;cases r
  ·rw[f.1]at r;cases r
 have m:∀{o:Obj},X.K.lookup a=some o->a≠b:=fun{o} q z=>by
  subst z;have e:X.base.get? a=some o:=I.mod.kin a o q
  rcases f.2.2.2.1 with z|z
  ·exact I.ok.noex a o e z
  ·exact absurd (Qd (Qu e) (Zo I.ok.bsz z)) (Yg _)
 cases c
 ·rcases h with h|⟨o,_,_,q,_⟩
  ·exact k h
  ·exact m q
 ·rcases h with h|⟨o,_,_,q,_⟩
  ·exact k h
  ·exact m q
end
def Itz(K:Qq)(c1 c2:Bool)(l1 l2:Addr)(xs ys:List V):It:=
 ⟨fun i H=>i<min xs.length ys.length/\SqA c1 K H l1 xs/\SqA c2 K H l2 ys,
  fun i H x H'=>∃p a b,H p=none/\x=.ref p/\H'=upd H p (.tup [a,b])/\xs[i]? =some a/\ys[i]? =some b,
  fun i H=>min xs.length ys.length≤i/\SqA c1 K H l1 xs/\SqA c2 K H l2 ys⟩
def b5w(c1 c2:Bool)(n:Nat)(l1 l2:Addr)(i:Nat)(h:Heap):Prop:=
 IsZip h (n+4) (n+2) (n+3) .none/\IsPair h (n+2) (.ref n) (.ref (n+1))/\(∃a b,IsPair h (n+3) a b)/\It1 c1 h n l1 i/\It1 c2 h (n+1) l2 i
theorem apart{n l1 l2:Addr}(h1:∀j,j<5->l1≠n+j)(h2:∀j,j<5->l2≠n+j):ZipApart (n+4) (n+2) (n+3) n (n+1) l1 l2:=by
 constructor<;>first
  |(show(_:Nat)≠_;omega)
  |exact h1 4 (by decide)
  |exact h1 3 (by decide)
  |exact h1 1 (by decide)
  |exact h1 0 (by decide)
  |exact h2 4 (by decide)
  |exact h2 3 (by decide)
  |exact h2 1 (by decide)
  |exact h2 0 (by decide)
abbrev fp5(n:Nat):List Addr:=[n+4,n+2,n+3,n,n+1]
abbrev fp4(n:Nat):List Addr:=[n+4,n+3,n,n+1]
theorem a4T(n:Nat):∀{j:Nat},j<5->(n+j:Nat)∈fp5 n
 |0,_=>by simp[fp5]
 |1,_=>by simp[fp5]
 |2,_=>by simp[fp5]
 |3,_=>by simp[fp5]
 |4,_=>by simp[fp5]
 |j+5,h=>by omega
theorem a9J{n:Nat}{c:Addr}(h:c∈fp4 n):c∈fp5 n:=by
 simp only[fp4,fp5,Qn,Zk,Yd]at h ⊢
 rcases h with h|h|h|h<;>simp[h]
theorem b5x{n:Nat}{c:Addr}(h:c∈[n+4]):c∈fp5 n:=by
 simp only[Qn,Zk,Yd]at h;rw[h];simp
theorem le5{n:Nat}{c:Addr}(h:c∈fp5 n):n≤c:=by
 simp only[fp5,Qn,Zk,Yd]at h
 rcases h with rfl|rfl|rfl|rfl|rfl
 ·exact Vy _ _
 ·exact Vy _ _
 ·exact Vy _ _
 ·exact Qm _
 ·exact Vy _ _
theorem b5y{P:Program}{w:World}{K:Qq}{elts:List Expr}{kk:Nat}{tp:Pos}(c1 c2:Bool)(n l1 l2:Addr)(xs ys:List V):
  Turn P w K (.Tuple elts kk tp) (Itz K c1 c2 l1 l2 xs ys) [n+4,n+2,n+3,n,n+1] (n+4) (b5w c1 c2 n l1 l2)where
 mem:=by simp
 obj:=fun i h st b hb=>by
  obtain⟨hz,hI,⟨a,b',hO⟩,h1,h2⟩:=st;simp only[Qn,Zk,Yd]at hb
  rcases hb with rfl|rfl|rfl|rfl|rfl
  ·exact⟨_,hz,fun v z=>by cases z⟩
  ·exact⟨_,hI,fun v z=>by cases z⟩
  ·exact⟨_,hO,fun v z=>by cases z⟩
  ·exact h1.get
  ·exact h2.get
 keep:=fun i h h' st k=>by
  obtain⟨hz,hI,⟨a,b',hO⟩,h1,h2⟩:=st;exact⟨k _ (by simp) _ hz,k _ (by simp) _ hI,⟨a,b',k _ (by simp) _ hO⟩,h1.at' fun o e=>k _ (by simp) o e,h2.at' fun o e=>k _ (by simp) o e⟩
 item:=by
  intro X hP hw hK hc i pins s σ H E I hf st hg;subst hP hw hK;obtain⟨hi,q1,q2⟩:=hg;obtain⟨hz,hI,⟨a,b,hO⟩,h1,h2⟩:=st;obtain⟨its,r1,p1,_⟩:=a2Z I q1;obtain⟨jts,r2,p2,_⟩:=a2Z I q2;have ex:xs[i]? =some (xs[i]'(by omega)):=by simp
  have ey:ys[i]? =some (ys[i]'(by omega)):=by simp
  obtain⟨u,hu,ru⟩:=r1.get ex;obtain⟨v,hv,rv⟩:=r2.get ey;have D:ZipApart (n+4) (n+2) (n+3) n (n+1) l1 l2:=apart
   (fun j hj=>a4S I (hf _ (a4T n hj)) q1)
   (fun j hj=>a4S I (hf _ (a4T n hj)) q2)
  refine b5s D hz hI hO h1 h2 p1 p2 (x:=u) (y:=v) (by simpa using hu) (by simpa using hv) fun h' a1 a2 a3 a4 a5 a6 a7=>?_
  have hn:H s.heap.objs.size=none:=I.fresh
  have I1:Inv X pins σ (upd H s.heap.objs.size (.tup [xs[i]'(by omega),ys[i]'(by omega)])) {s with heap:=h'}:=b5n (ch:=[n+4,n+3,n,n+1]) (t':=s.toks) I
   (fun c o hc e=>a7 c o (fun z=>hc (by simp[z])) (fun z=>hc (by simp[z])) (fun z=>hc (by simp[z])) (fun z=>hc (by simp[z])) e)
   (fun c hc=>hf c (a9J hc)) (Qm _)
   ⟨by show 2≤sizeLine;decide,[u,v],.cons ru (.cons rv .nil),_,a5,rfl,rfl,0,rfl⟩
  have lt5:∀c∈[n+4,n+2,n+3,n,n+1],c≠s.heap.objs.size:=fun c hc=>by
   have:∃o,s.heap.get? c=some o:=by
    simp only[Qn,Zk,Yd]at hc
    rcases hc with rfl|rfl|rfl|rfl|rfl
    ·exact⟨_,hz⟩
    ·exact⟨_,hI⟩
    ·exact⟨_,hO⟩
    ·obtain⟨o,e,_⟩:=h1.get;exact⟨o,e⟩
    ·obtain⟨o,e,_⟩:=h2.get;exact⟨o,e⟩
   obtain⟨o,e⟩:=this;exact Qi (Qu e)
  have hf2:∀c∈[n+4,n+2,n+3,n,n+1],u7_ X pins (upd H s.heap.objs.size (.tup [xs[i]'(by omega),ys[i]'(by omega)])) c:=fun c hc=>⟨by rw[q8_ (lt5 c hc)];exact(hf c hc).1,(hf c hc).2⟩
  have hI':IsPair h' (n+2) (.ref n) (.ref (n+1)):=a7 _ _ D.TIz D.TITO D.TIi1 D.TIi2 hI
  refine⟨.ref s.heap.objs.size,rfl,wpAny_letOwnedTupleGo_zip (s:={s with heap:=h'}) a1 fun h2' b1 b2=>?_⟩
  have I2:Inv X pins σ (upd H s.heap.objs.size (.tup [xs[i]'(by omega),ys[i]'(by omega)])) {s with heap:=h2'}:=a9F (s:={s with heap:=h'}) (ch:=[n+4]) (t':=s.toks) I1
   (fun c o hc e=>b2.extBut _ _ (fun z=>hc (by simp[z])) e) (fun c hc=>hf2 c (b5x hc))
  exact⟨.ref s.heap.objs.size,_,I2,rfl,⟨_,_,_,hn,rfl,rfl,ex,ey⟩,
   ⟨b1,b2.extBut _ _ D.TIz hI',⟨_,_,b2.extBut _ _ D.TOz a2⟩,a3.but b2.extBut D.i1z,a4.but b2.extBut D.i2z⟩,fun c hc=>(hf2 c hc).1⟩
 done:=by
  intro X hP hw hK hc i pins s σ H E I hf st hg;subst hP hw hK;obtain⟨hi,q1,q2⟩:=hg;obtain⟨hz,hI,⟨a,b,hO⟩,h1,h2⟩:=st;obtain⟨its,r1,p1,_⟩:=a2Z I q1;obtain⟨jts,r2,p2,_⟩:=a2Z I q2;have D:ZipApart (n+4) (n+2) (n+3) n (n+1) l1 l2:=apart
   (fun j hj=>a4S I (hf _ (a4T n hj)) q1)
   (fun j hj=>a4S I (hf _ (a4T n hj)) q2)
  have e1:=r1.length
  have e2:=r2.length
  have hend:its.toArray[i]? =none∨jts.toArray[i]? =none:=by
   by_cases h:its.length≤i
   ·exact .inl (by simp;omega)
   ·exact .inr (by simp;omega)
  exact b5t (I.ok.hd hc) D hz hI hO h1 h2 p1 p2 hend fun h' hk=>⟨rfl,a9F (ch:=[n+4,n+3,n,n+1]) (t':=s.toks) I
   (fun c o hc e=>hk c o (fun z=>hc (by simp[z])) (fun z=>hc (by simp[z])) (fun z=>hc (by simp[z])) (fun z=>hc (by simp[z])) e)
   (fun c hc=>hf c (a9J hc))⟩
 self:=fun _ _ _ _ _ st h=>wpAny_pyIter_zip st.1 h
theorem b5z:bootBuiltins "zip"=some (.type "zip"):=by decide+kernel
section
variable{X:Cx}{B:OA}{pos p:Pos}{a b:Expr}{ms:Mo (List D)}{elts:List Expr}{kk:Nat}{tp:Pos}
def b5A(K:Qq)(ta:TA):TI:=fun σ H R=>ta σ H fun vs H1=>∃c1 c2 l1 l2 xs ys,vs=[.ref l1,.ref l2]/\SqA c1 K H1 l1 xs/\SqA c2 K H1 l2 ys/\R (Itz K c1 c2 l1 l2 xs ys) H1
theorem b5B{ta:TA}(hg:Gl X "zip")(hm:X.mg "zip"=none)(ha:PA X [a,b] ta)(hs:starEach [a,b] X.env=[(false,eval a X.env),(false,eval b X.env)]:=by rfl)(hs2:starEach [b] X.env=[(false,eval b X.env)]:=by rfl):
  PI X (.Tuple elts kk tp) (.Call (.Name "zip" p) [a,b] [] pos) (b5A X.K ta):=by
 intro pins s σ H R I h;refine Call_ (a2b I hg hm b5z (Up (thn (ha pos pins s σ H _ I h) fun us s1 ⟨vs,H1,I1,r1,q1⟩=>?_) (by rw[hs,hs2]) (by rw[hs2];rfl)))
 obtain⟨c1,c2,l1,l2,xs,ys,rfl,h1,h2,q⟩:=q1;obtain⟨u,v,rfl,ru,rv⟩:=a2G r1;cases ru;cases rv;obtain⟨its,r1,p1,_⟩:=a2Z I1 h1;obtain⟨jts,r2,p2,_⟩:=a2Z I1 h2;refine b5v p1 p2 fun h' a1 a2 a3 a4 a5 a6 a7=>?_
 refine wpAny_pyIter_zip a1 ?_
 refine⟨s1.heap.objs.size+4,_,_,_,H1,rfl,I1.kept (t':=s1.toks) a7,b5y c1 c2 s1.heap.objs.size l1 l2 xs ys,⟨a1,a2,⟨_,_,a3⟩,a4,a5⟩,fun c hc=>?_,q⟩
 have hle:s1.heap.objs.size≤c:=le5 hc
 exact I1.fpOk hle (I1.hok.fresh hle)
def a0E(xs ys:List D):List D:=(xs.zip ys).map fun p=>.tup [p.1,p.2]
def a1e(ms:Mo (List D)):Mo (List D):=fun env=>(ms env).bind fun p=>match p.1 with
 |[d,e]=>d.items.bind fun xs=>e.items.map fun ys=>(a0E xs ys,p.2)
 |_=>none
theorem a9K{K:Qq}{G:Hp}{v:V}{d:D}{ds:List D}(r:Rep K G v d)(h:d.items=some ds):∃c a xs,v=.ref a/\SqA c K G a xs/\z6_ K G xs ds:=by
 cases d<;>first|(exact absurd (show(none:Option (List D))=some ds from h) (by simp))|skip
 ·cases h;simp only[Rep]at r;obtain⟨a,xs,e,q,t⟩:=r;exact⟨true,a,xs,e,q.t,t⟩
 ·cases h;simp only[Rep]at r;obtain⟨a,xs,e,q,t⟩:=r;exact⟨false,a,xs,e,q,t⟩
theorem b5C{K:Qq}{G:Hp}{c1 c2:Bool}{l1 l2:Addr}{xs ys:List V}{ds es:List D}(h1:SqA c1 K G l1 xs)(h2:SqA c2 K G l2 ys)(r1:z6_ K G xs ds)(r2:z6_ K G ys es):ItD K (Itz K c1 c2 l1 l2 xs ys) G (a0E ds es)where
 go:=fun i H l hi=>⟨by rw[r1.length,r2.length];simpa [a0E]using hi,l.sqA h1,l.sqA h2⟩
 stop:=fun i H l hi=>⟨by rw[r1.length,r2.length];simpa [a0E]using hi,l.sqA h1,l.sqA h2⟩
 yld:=fun i H x H' d l y e=>by
  obtain⟨p,a,b,hp,rfl,rfl,ea,eb⟩:=y;obtain⟨da,e1,ra⟩:=r1.get' ea;obtain⟨db,e2,rb⟩:=r2.get' eb;have ed:d=.tup [da,db]:=by
   unfold a0E at e;rw[Zj,List.getElem?_zip_eq_some.mpr (⟨e1,e2⟩:ds[i]? =some (da,db).1/\es[i]? =some (da,db).2)]at e;cases e;rfl
  subst ed;have gp:G p=none:=by
   cases q:G p with
   |none=>rfl
   |some o=>rw[l p o q]at hp;cases hp
  exact .inr ⟨p,_,nt_tup,hp,rfl,a2K y6_ (repL_cons (Rep.mono (Le.upd gp) _ ra) (repL_cons (Rep.mono (Le.upd gp) _ rb) repL_nil))⟩
theorem a6E(hg:Gl X "zip")(hm:X.mg "zip"=none)(ha:EDs X B [a,b] ms)(hs:starEach [a,b] X.env=[(false,eval a X.env),(false,eval b X.env)]:=by rfl)(hs2:starEach [b] X.env=[(false,eval b X.env)]:=by rfl):
  EI X B (.Tuple elts kk tp) (.Call (.Name "zip" p) [a,b] [] pos) (a1e ms):=by
 refine a6l (b5B hg hm ha hs hs2) ?_
 rintro σ H R ⟨G,env,ds,env',rl,e,k⟩;obtain⟨⟨ds',env1⟩,e1,e2⟩:=z9_ e;dsimp only at e2;split at e2
 ·rename_i d1 d2
  obtain⟨xs,e3,e4⟩:=z9_ e2;obtain⟨ys,e5,e6⟩:=v5_ e4;cases e6;refine⟨G,env,_,_,rl,e1,fun vs G1 H1 ev r=>?_⟩
  obtain⟨v,w,rfl,r1,r2⟩:=a4G r;obtain⟨c1,l1,us,rfl,q1,t1⟩:=a9K r1 e3;obtain⟨c2,l2,ws,rfl,q2,t2⟩:=a9K r2 e5;exact⟨c1,c2,l1,l2,us,ws,rfl,ev.rel.sub.sqA q1,ev.rel.sub.sqA q2,k _ G1 H1 ev (b5C q1 q2 t1 t2)⟩
 ·cases e2
end
section
variable{prog:Program}{w:World}{A:Around}{s:Shared}{fin:Bool}{Q:Bool->Shared->Prop}
end
section
variable{X:Cx}{pins:OX}{σ:St}{H:Hp}{s:Shared}
def keys(ds:List D):Option (OI):=ds.mapM fun d=>match d with
 |.tup es=>(ints? es).bind fun ns=>if ns.isEmpty then none else some ns
 |_=>none
end
section
variable{X:Cx}{B:OA}
theorem a9L{K:Qq}{G:Hp}{ds:List D}{xs:List V}{us:List Value}(r:z6_ K G xs ds)(v:q3_ xs us):∀{p:List Nat}{es:List D},(p.mapM fun i=>ds[i]?)=some es->∃ys,q3_ ys (p.map fun i=>us.getD i Value.none)/\z6_ K G ys es
 |[],es,e=>by cases e;exact⟨[],.nil,repL_nil⟩
 |i::p,es,e=>by
  rw[List.mapM_cons]at e;obtain⟨d,e1,e2⟩:=z9_ e;obtain⟨es',e3,e4⟩:=z9_ e2;cases e4;obtain⟨ys,h1,h2⟩:=a9L r v e3;obtain⟨x,g1,g2⟩:=r.get e1;obtain⟨u,g3,g4⟩:=v.get g1;refine⟨x::ys,?_,repL_cons g2 h2⟩;rw[Qh];have:us.getD i Value.none=u:=by simp[g3]
  rw[this];exact .cons g4 h1
end
section
variable{X:Cx}{B:OA}{pos:Pos}
end
section
variable{X:Cx}{B:OA}{pos p:Pos}{e:Expr}{es:List Expr}{as:Mo (List Ar)}{fn:Fn}{k n:Nat}{f:Addr}{fd:FuncData}{ps:List Str}{x:Str}
structure Def(P:Program)(w:World)(K:Qq)(mg:OU)(base:Heap)(x:Str)(k n:Nat)(fn:Fn):Prop where
 ex:∃(f:Addr) (fd:FuncData) (ps:List Str),FnOk P w K mg base CX0 k f fd ps (SpF K n fn)/\ps.length=n/\mg x=some (.ref f)/\PySem.W.keepIn K (.ref f)=true/\a0e K fd ps []
theorem k2_(D:Def X.prog X.w X.K X.mg X.base x k n fn)(hr:Room k X.A)(hg:Gl X x)(ha:EAr X B (e::es) as)(hdb:(x==("__debug__":Str))=false:=by decide)
  (he:starEach (e::es) X.env=(false,eval e X.env)::starEach es X.env:=by rfl)(hpl:(backTo pos (starEach es X.env)).any (·.1)=false:=by rfl):
  ED X B (.Call (.Name x p) (e::es) [] pos) (mCD n fn as):=by
 obtain⟨f,fd,ps,F,rfl,hm,hk,hb⟩:=D.ex;exact b4L F hr hg hm hk hb ha hdb he hpl
theorem a0O(D:Def X.prog X.w X.K X.mg X.base x k n fn)(hr:Room k X.A)(hg:Gl X x)(ha:EAr X B (e::es) as)(hdb:(x==("__debug__":Str))=false:=by decide)
  (he:starEach (e::es) X.env=(false,eval e X.env)::starEach es X.env:=by rfl)(hpl:(backTo pos (starEach es X.env)).any (·.1)=false:=by rfl):
  EL X B (.Call (.Name x p) (e::es) [] pos) (x6_ n fn as):=by
 obtain⟨f,fd,ps,F,rfl,hm,hk,hb⟩:=D.ex;exact b4M F hr hg hm hk hb ha hdb he hpl
def a1O:Option NameKind->Option NameKind->Bool:=fun a b=>decide (a=b)
def a9M(outN N':List Str)(outNames:List (Str×NameKind))(cells:List (Str×Addr))(scope:Scope)(keep:List Bool)(more:Nat):Bool:=
 (decide (scope.kind=.function)&&(scope.names.all (fun y=>a1O (scope.names.lookup y.1) (some y.2))&&(scope.names.all (fun y=>!a1O (some y.2) (some .free)||(cells.lookup y.1).isSome)&&(decide (keep.length=outN.length)&&(decide (N'.length=outN.length+more)&&
  (List.range keep.length).all fun i=>!(keep.getD i false)||match N'[i]?,outN[i]? with
   |some x,some y=>decide (x=y)&&(!a1O (scope.names.lookup x) (some .local)&&(!a1O (scope.names.lookup x) (some .cell)&&(!a1O (scope.names.lookup x) (some .free)||(a1O (outNames.lookup x) (some .cell)||a1O (outNames.lookup x) (some .free)))))
   |_,_=>false)))))
theorem g3_{N':List Str}{scope:Scope}{keep:List Bool}{more:Nat}(c:closureFor scope X.env=pure (j7_ X.env.cells scope.names []))(h:a9M X.N N' X.env.scope.names X.env.cells scope keep more=true):CompOk X N' scope keep more:=by
 unfold a9M at h;simp only[Qw,Zy,Qy,a1O]at h;obtain⟨h1,h2,h3,h4,h5,h6⟩:=h;have gt:∀(i:Nat) (x:Str),keep[i]? =some true->N'[i]? =some x->∃y,X.N[i]? =some y/\x=y/\ ¬ (scope.names.lookup x=some .local)/\ ¬ (scope.names.lookup x=some .cell)/\(scope.names.lookup x=some .free->X.env.scope.names.lookup x=some .cell∨X.env.scope.names.lookup x=some .free):=fun i x e1 e2=>by
  have hi:i<keep.length:=(Qg.mp e1).1
  have q:=h6 i (Yi.mpr hi)
  have e3:keep.getD i false=true:=by simp[e1]
  rw[e3,e2]at q;cases e4:X.N[i]? with
  |none=>rw[e4]at q;simp at q
  |some y=>
   rw[e4]at q;simp only[Bool.not_true,Xj,Qw,Zy,Bool.not_eq_true',decide_eq_false_iff_not,Vd]at q;obtain⟨q1,q2,q3,q4⟩:=q;exact⟨y,rfl,q1,q2,q3,fun z=>q4.elim (fun n=>absurd z n) id⟩
 refine⟨h1,h2,c,fun y hy hf=>?_,h4,h5,fun i x e1 e2=>?_,fun i x e1 e2 e3=>?_⟩
 ·have q:=h3 y hy
  rw[hf]at q
  simpa using q
 ·obtain⟨y,g1,g2,g3,g4,_⟩:=gt i x e1 e2
  exact⟨by rw[g1,g2],g3,g4⟩
 ·have hi:i<keep.length:=(Qg.mp e1).1
  have hN:i<N'.length:=by omega
  obtain⟨y,g1,g2,g3,g4,g5⟩:=gt i _ e1 (Zt hN);rw[e2]at g1;cases g1;rw[g2]at g5;exact g5 e3
end
section
variable{X:Cx}{B:OA}{pos:Pos}
theorem b5D{x:Str}{i:Int}(hg:Gl X x)(hm:∃t,X.mg x=some (.int i t))(hd:(x==("__debug__":Str))=false:=by decide):ED X B (.Name x pos) (mC (.int i)):=by
 obtain⟨t,hm⟩:=hm;exact b4s hg hm hd
def Kp(i:Nat)(m:Mo D):Prop:=∀env d env' w ds,m env=some (d,env')->env'[i]? =some w->w.mut=some ds->∃w0 ds0,env[i]? =some w0/\w0.mut=some ds0
theorem a2r{i:Nat}{d:D}:Kp i (mC d):=fun env d' env' w ds e h1 h2=>by cases e;exact⟨w,ds,h1,h2⟩
theorem a6F{i j:Nat}(hj:j≠i):Kp i (z0_ j):=fun env d' env' w ds e h1 h2=>by
 unfold z0_ at e;split at e
 ·cases e;exact⟨w,ds,h1,h2⟩
 ·cases e
  rw[Ql hj]at h1;exact⟨w,ds,h1,h2⟩
 ·cases e
  rw[Ql hj]at h1;exact⟨w,ds,h1,h2⟩
 ·cases e
theorem a9N:bootBuiltins "int"=some (.type "int"):=by decide+kernel
theorem a6G:bootBuiltins "bool"=some (.type "bool"):=by decide+kernel
theorem a1P:bootBuiltins "tuple"=some (.type "tuple"):=by decide+kernel
theorem a6H:bootBuiltins "list"=some (.type "list"):=by decide+kernel
theorem a6I:bootBuiltins "all"=some (.builtin "all"):=by decide+kernel
theorem b5E:bootBuiltins "max"=some (.builtin "max"):=by decide+kernel
theorem a4U:bootBuiltins "min"=some (.builtin "min"):=by decide+kernel
theorem b5F:bootBuiltins "sorted"=some (.builtin "sorted"):=by decide+kernel
end
theorem a9O{K:Qq}{G:Hp}:∀ns:List Int,z6_ K G (ns.map V.int) (ns.map D.int)
 |[]=>repL_nil
 |n::ns=>repL_cons (by simp only[Rep]) (a9O ns)
theorem b5G{l:PySem.W.OpenLaw}{k:Nat}{q:Program}{loose:List Str}{XP:(OU)->Heap->Prop}{YP:World->Heap->Prop}{d:DefRec}{K:Params->Qq}{x:Str}{fn:Fn}
  (hn:l.most=some 63)(hdf:d.params.defaults=[])(hr:Room k callerA)(hY:∀(w:World) (h:Heap),YP w h->(K w.params).In h)
  (F:∀(w:World) (mg:OU) (fa:Addr) (h:Heap),(K w.params).In h->h.Ns mainGlobals mg->mg d.name=some (.ref fa)->
   ∃fd:FuncData,(∀(s:Shared) (u:Value),BindsTo s fd ⟨[u],[]⟩ [(x,u)])/\∀base:Heap,(K w.params).In base->base.Ns mainGlobals mg->FnOk l.prog w (K w.params) mg base CX0 k fa fd [x] (SpF (K w.params) 1 fn))
  (ht:∀ns:List Int,ns.length≤63->∃ws',fn [.dat (.lst (ns.map D.int))]=some (.d (.bl true),ws')):
  PySem.W.WalkO q loose XP YP l.row.toRowW d [] (fun f vs=>PySem.call f vs):=
 L2.b4j (n:=63) (k:=k) (x:=x) (CX:=fun _=>CX0) (sp:=fun w=>SpF (K w.params) 1 fn) hn (by decide) hdf hr hY F (fun w H a ns hl hO hS=>by
  obtain⟨ws',e⟩:=ht ns hl;have hd:∀(i:Nat) (d:D),([.dat (.lst (ns.map D.int))]:List W)[i]? =some (.dat d)->i=0/\d=.lst (ns.map D.int):=fun i d e=>by
   cases i with
   |zero=>simp at e;exact⟨rfl,e.symm⟩
   |succ i=>simp at e
  have hm:∀(i:Nat) (v:W) (ds:Mu),([.dat (.lst (ns.map D.int))]:List W)[i]? =some v->v.mut=some ds->False:=fun i v ds e1 e2=>by
   cases i with
   |zero=>simp at e1;subst e1;cases e2
   |succ i=>simp at e1
  refine⟨H,[.dat (.lst (ns.map D.int))],.d (.bl true),ws',rfl,fun v hv=>.inl ?_,⟨Le.refl,rfl,fun i d e=>?_,fun i v ds e1 e2=>(hm i v ds e1 e2).elim,fun i j v v' ds es a e1 e2=>(hm i v ds e1 e2).elim,fun i v a e1 eo=>(let ⟨m,q⟩:=own_mut eo;hm i _ m e1 q).elim,fun b h=>h.elim,fun P ps z=>by rcases hO P with q|⟨o,xs,q⟩<;>(rw[q]at z;cases z),fun b o z ps y=>by rcases hO b with q|⟨o',xs,q⟩<;>(rw[q]at z;cases z<;>cases y)⟩,e,?_⟩
  ·simp at hv;exact⟨_,hv⟩
  ·obtain⟨rfl,rfl⟩:=hd i d e
   exact⟨.ref a,rfl,by simp only[Rep];exact⟨a,_,rfl,hS,a9O ns⟩⟩
  ·intro v G' H' _ rp
   simpa only[Rep]using rp) fun _ _ _ _ _ z=>z
def a3K:Expr->Bool
 |.Starred _ _=>true
 |_=>false
theorem z1_{e:Expr}{es:List Expr}{env:Env}(h:a3K e=false):starEach (e::es) env=(false,eval e env)::starEach es env:=by
 cases e<;>first|rfl|cases h
theorem se1{a:Expr}{env:Env}(h:a3K a=false):starEach [a] env=[(false,eval a env)]:=by rw[z1_ h];rfl
theorem se2{a b:Expr}{env:Env}(h:a3K a=false)(h2:a3K b=false):starEach [a,b] env=[(false,eval a env),(false,eval b env)]:=by rw[z1_ h,se1 h2]
theorem q5_{pos:Pos}{env:Env}:∀{es:List Expr},es.all (fun e=>!a3K e)=true->(backTo pos (starEach es env)).any (·.1)=false
 |[],_=>rfl
 |e::es,h=>by
  rw[Xq,Qw,Bool.not_eq_true']at h;rw[z1_ h.1];show(false||(backTo pos (starEach es env)).any (·.1))=false
  rw[q5_ h.2];rfl
theorem g4_{m n:Mo Fl}{e e1:Env'}(h:m e=some (.nx,e1)):q0_ m n e=n e1:=by unfold q0_;rw[h];rfl
theorem a1Q{m n:Mo Fl}{e e1:Env'}{d:D}(h:m e=some (.ret d,e1)):q0_ m n e=some (.ret d,e1):=by unfold q0_;rw[h];rfl
theorem a3L{t:Mo Bool}{m n:Mo Fl}{e e1:Env'}(h:t e=some (true,e1)):y3_ t m n e=m e1:=by unfold y3_;rw[h];rfl
theorem a3M{t:Mo Bool}{m n:Mo Fl}{e e1:Env'}(h:t e=some (false,e1)):y3_ t m n e=n e1:=by unfold y3_;rw[h];rfl
theorem b5H(neg:Bool)(i j:Int):dEq neg (.int i) (.int j)=some (.bl (if neg then !(i==j)else(i==j))):=rfl
theorem a6J{g:OZ}{m:Mo D}{P:Env'->Prop}{f:D->D}:∀{ds:List D}{env:Env'},(∀d∈ds,∀e,P e->∃e1 e2,g d e=some e1/\m e1=some (f d,e2)/\P e2)->P env->
  ∃env',j1_ g y4_ m ds env=some (ds.map f,env')/\P env'
 |[],env,_,p=>⟨env,rfl,p⟩
 |d::ds,env,h,p=>by
  obtain⟨e1,e2,h1,h2,h3⟩:=h d (by simp) env p
  obtain⟨e3,h4,h5⟩:=a6J (ds:=ds) (fun x hx=>h x (by simp[hx])) h3
  refine⟨e3,?_,h5⟩;unfold j1_;rw[h1];simp only[Qj,y4_,Zh];rw[h2];simp only[Qj];rw[h4];rfl
theorem a9P{g:OZ}{b:Mo Fl}{P:Env'->Prop}:∀{ds:List D}{env:Env'},(∀d∈ds,∀e,P e->∃e1 e2,g d e=some e1/\b e1=some (.nx,e2)/\P e2)->P env->∃env',loop g b ds env=some (.nx,env')/\P env'
 |[],env,_,p=>⟨env,rfl,p⟩
 |d::ds,env,h,p=>by
  obtain⟨e1,e2,h1,h2,h3⟩:=h d (by simp) env p
  obtain⟨e3,h4,h5⟩:=a9P (ds:=ds) (fun x hx=>h x (by simp[hx])) h3
  refine⟨e3,?_,h5⟩;unfold loop;rw[h1];simp only[Qj];rw[h2];exact h4
theorem a3N{α:Type}(f:α->Bool):∀l:List α,a0D (l.map fun x=>D.bl (f x))=some (l.all f)
 |[]=>rfl
 |x::l=>by simp[a0D,a3N f l]
theorem j4_{N:Nat}{mb:Mo Fl}{ws env:List W}{d:D}(h:mb (ws++List.replicate (N-ws.length) .nil)=some (.ret d,env)):fnM N mb ws=some (.d d,a0r ws env):=by unfold fnM;rw[h]
theorem a4V{N:Nat}{mb:Mo Fl}{ws env:List W}{d:List D}(h:mb (ws++List.replicate (N-ws.length) .nil)=some (.retL d,env)):fnM N mb ws=some (.l d,a0r ws env):=by unfold fnM;rw[h]
def stop(b:Bool)(d:D):Fl:=if b then .nx else .ret d
theorem a3O{mi:Mo (List D)}{keep:List Bool}{more:Nat}{g:OZ}{t:Mo Bool}{m:Mo D}{env e1 e2 e3:Env'}{ds r:List D}(h:mi env=some (ds,e1))(hl:ds.length≤100000)(hc:j1_ g t m ds (j0_ keep more e1)=some (r,e2))(ho:w3_ keep e1 e2=some e3):
  y0_ mi keep more g t m env=some (r,e3):=by
 unfold y0_;rw[h];show(if ds.length≤100000 then(j1_ g t m ds (j0_ keep more e1)).bind _ else none)=_
 rw[Qc hl,hc];show(w3_ keep e1 e2).map _=_;rw[ho];rfl
theorem a9Q{ms:Mo (List D)}{env e1:Env'}{j:Int}(h:ms env=some ([.int j],e1))(h1: -1000000<j)(h2:j<1000000):a0q ms env=some (a0B 0 j.toNat,e1):=by
 unfold a0q;rw[h];exact Qc ⟨h1,h2⟩
theorem u3_{f:List D->Option D}{ms:Mo (List D)}{env e1:Env'}{ds:List D}{d:D}(h:ms env=some (ds,e1))(hf:f ds=some d):mCB f ms env=some (d,e1):=by unfold mCB;rw[h];show(f ds).map _=_;rw[hf];rfl
theorem x3_{m:Mo D}{ms:Mo (List D)}{env e1 e2:Env'}{d:D}{ds:List D}(h:m env=some (d,e1))(h2:ms e1=some (ds,e2)):z2_ m ms env=some (d::ds,e2):=by unfold z2_;rw[h];show(ms e1).map _=_;rw[h2];rfl
theorem a1u{m:Mo D}{ms:Mo (List Ar)}{env e1 e2:Env'}{d:D}{ds:List Ar}(h:m env=some (d,e1))(h2:ms e1=some (ds,e2)):z7_ m ms env=some (.d d::ds,e2):=by unfold z7_;rw[h];show(ms e1).map _=_;rw[h2];rfl
theorem w7_{m:Mo (List D)}{env e1:Env'}{ds:List D}(h:m env=some (ds,e1)):mF m env=some (.lst ds,e1):=by unfold mF;rw[h];rfl
theorem a1f{m:Mo D}{env e1:Env'}{d:D}{ds:List D}(h:m env=some (d,e1))(hd:d.items=some ds):v6_ m env=some (ds,e1):=by unfold v6_;rw[h];show d.items.map _=_;rw[hd];rfl
theorem v7_{f:D->D->Option D}{ma mb:Mo D}{env e1 e2:Env'}{a b c:D}(h1:ma env=some (a,e1))(h2:mb e1=some (b,e2))(hf:f a b=some c):z5_ f ma mb env=some (c,e2):=by
 unfold z5_;rw[h1];show(mb e1).bind _=_;rw[h2];show(f a b).map _=_;rw[hf];rfl
theorem a0i{m:Mo D}{env e1:Env'}{d:D}(h:m env=some (d,e1)):y9_ m env=some (.ret d,e1):=by unfold y9_;rw[h];rfl
theorem a6K{m:Mo (List D)}{env e1:Env'}{d:List D}(h:m env=some (d,e1)):a1c m env=some (.retL d,e1):=by unfold a1c;rw[h];rfl
theorem a0F{i:Nat}{m:Mo D}{env e1:Env'}{d:D}(h:m env=some (d,e1)):v1_ i m env=some (.nx,e1.set i (.dat d)):=by unfold v1_;rw[h];rfl
theorem b5I{i:Nat}{m:Mo (List D)}{env e1:Env'}{d:List D}(h:m env=some (d,e1)):w5_ i m env=some (.nx,e1.set i (.own d)):=by unfold w5_;rw[h];rfl
theorem a0j{m:Mo D}{env e1:Env'}{b:Bool}(h:m env=some (.bl b,e1)):mT m env=some (b,e1):=by unfold mT;rw[h];rfl
theorem a9R{m:Mo Bool}{env e1:Env'}{b:Bool}(h:m env=some (b,e1)):u8_ m env=some (!b,e1):=by unfold u8_;rw[h];rfl
theorem a1R{mi:Mo (List D)}{g:OZ}{b:Mo Fl}{env e1:Env'}{ds:List D}(h:mi env=some (ds,e1)):w6_ mi g b env=loop g b ds e1:=by unfold w6_;rw[h];rfl
theorem a0k{n:Nat}{f:Fn}{as:Mo (List Ar)}{env e1:Env'}{av:List Ar}{r:Rr}{ws':List W}(h:as env=some (av,e1))(hn:av.length=n)(hs:slots av=[])(hf:f (av.map (g0_ (.l [])))=some (r,ws')):a0M n f as env=some (r,e1):=by
 unfold a0M;rw[h];show(if av.length=n then _ else none)=_
 rw[Qc hn];simp only[hs];rw[hf];rfl
theorem a4W{n i:Nat}{f:Fn}{as:Mo (List Ar)}{env e1:Env'}{av:List Ar}{r:Rr}{ws':List W}{w:W}{c c':List D}(h:as env=some (av,e1))(hn:av.length=n)(hs:slots av=[i])(hw:e1[i]? =some w)(hm:w.mutL=some c)(hf:f (av.map (g0_ (.l c)))=some (r,ws'))(hp:a1q ws'=some (.l c')):
  a0M n f as env=some (r,e1.set i (w.put c')):=by
 unfold a0M;rw[h];show(if av.length=n then _ else none)=_
 rw[Qc hn];simp only[hs];rw[hw];simp only[Qj];rw[W.mutL_of hm];simp only[Qj];rw[hf];simp only[Qj];rw[hp,W.put_eq hm];rfl
theorem a4X{n i:Nat}{f:Fn}{as:Mo (List Ar)}{env e1:Env'}{av:List Ar}{r:Rr}{ws':List W}{w:W}{c c':Mu}(h:as env=some (av,e1))(hn:av.length=n)(hs:slots av=[i])(hw:e1[i]? =some w)(hm:w.mut=some c)(hf:f (av.map (g0_ c))=some (r,ws'))(hp:a1q ws'=some c'):
  a0M n f as env=some (r,e1.set i (w.putM c')):=by
 unfold a0M;rw[h];show(if av.length=n then _ else none)=_
 rw[Qc hn];simp only[hs];rw[hw];simp only[Qj];rw[hm];simp only[Qj];rw[hf];simp only[Qj];rw[hp];rfl
theorem a0P{n:Nat}{f:Fn}{as:Mo (List Ar)}{env e1:Env'}{d:D}(h:a0M n f as env=some (.d d,e1)):mCD n f as env=some (d,e1):=by unfold mCD;rw[h];rfl
theorem a0Q{n:Nat}{f:Fn}{as:Mo (List Ar)}{env e1:Env'}{d:List D}(h:a0M n f as env=some (.l d,e1)):x6_ n f as env=some (d,e1):=by unfold x6_;rw[h];rfl
section
variable{X:Cx}{B:OA}{pos:Pos}{e:Expr}{ma:Mo D}
def a4Y(m:Mo D):Mo Fl:=fun env=>(m env).map fun p=>(.nx,p.2)
theorem b5J(h:ED X B e ma)(hsw:swapsWith e none pos.line X.env=pure false:=by rfl):ES X B (.Expr e pos) (a4Y ma):=by
 refine ps_imp (a8p (te:=TD X.K B ma) h hsw) ?_
 rintro D σ H ⟨G,env,fl,env',rl,e,k⟩;obtain⟨⟨d,env1⟩,e1,e2⟩:=v5_ e;cases e2;exact .bind rl e1 fun v G' H' ev r=>k σ G' H' ev
theorem b5K{m:Mo D}{env e1:Env'}{d:D}(h:m env=some (d,e1)):a4Y m env=some (.nx,e1):=by unfold a4Y;rw[h];rfl
end
section
variable{X:Cx}{B:OA}
end
section
variable{X:Cx}{B:OA}{pos:Pos}{a b c e:Expr}{ma mb mc:Mo D}{ms:Mo (List D)}{es:List Expr}
theorem a3P{K:Qq}{t:Value}{T U:String}{b c:Bool}(h1:PySem.W.kitOne K t (.type T)=some b)(h2:PySem.W.kitOne K t (.type U)=some c):PySem.W.kitAny K t [.type T,.type U]=some (b||c):=by
 unfold PySem.W.kitAny;rw[h1];cases b with
 |true=>rfl
 |false=>
  dsimp only;unfold PySem.W.kitAny;rw[h2];cases c<;>rfl
theorem b5L{pins:OX}{σ:St}{G H:Hp}{s:Shared}{A:Around}{E:OE}{Q:OE}{tp:Addr}{T U:String}{x:V}{u:Value}{d:D}(I:Inv X pins σ H s)(l:Le G H)(rx:q6_ x u)(rp:Rep X.K G x d)
  (ht:IsTup s.heap tp [Value.type T,.type U].toArray)(kt:x8_ X.K T)(ku:x8_ X.K U)(h:∀tk,Q (.bool (a0a (tyD d) T||a0a (tyD d) U)) {s with toks:=tk}):wpAny (model X.prog X.w) A (call (.builtin "isinstance") [u,.ref tp]) Q E s:=by
 obtain⟨⟨oc,od,odt,os⟩,t1,t2,n,t3⟩:=ht;dsimp only at t2 t3;subst t2 t3;have e:(∀o,d≠.obj o)->_:=fun hd=>a3P (a6u kt d hd) (a6u ku d hd)
 cases d with
 |non=>simp only[Rep]at rp;subst rp;cases (show u=Value.none from rx);exact Zd PySem.W.kitx_none I.kIn True.intro t1 (e nofun) (fun z=>nomatch z) h
 |bl b=>simp only[Rep]at rp;subst rp;cases (show u=Value.bool b from rx);exact Zd PySem.W.kitx_bool I.kIn True.intro t1 (e nofun) (fun z=>nomatch z) h
 |int i=>simp only[Rep]at rp;subst rp;obtain⟨t,q⟩:=(show∃t,u=Value.int i t from rx);cases q;exact Zd PySem.W.kitx_int I.kIn True.intro t1 (e nofun) (fun z=>nomatch z) h
 |str z=>simp only[Rep]at rp;obtain⟨rp,_⟩:=rp;subst rp;obtain⟨t,q⟩:=(show∃t,u=Value.str z t from rx);cases q;exact Zd PySem.W.kitx_str I.kIn True.intro t1 (e nofun) (fun z=>nomatch z) h
 |tup ds=>
  simp only[Rep]at rp;obtain⟨a,xs,rfl,q,_⟩:=rp;cases rx;obtain⟨its,_,⟨o,h1,h2,_⟩,_⟩:=I.tuple (l.sqT q);exact Zd Va I.kIn ⟨o,h1,h2⟩ t1 (e nofun) (fun z=>nomatch z) h
 |lst ds=>
  simp only[Rep]at rp;obtain⟨a,xs,rfl,q,_⟩:=rp;cases rx;obtain⟨its,_,⟨o,n,h1,h2,_⟩,_⟩:=I.list (l.sqL q);exact Zd Ue I.kIn ⟨o,h1,h2⟩ t1 (e nofun) (fun z=>nomatch z) h
 |emp=>
  simp only[Rep]at rp;obtain⟨a,kvs,rfl,q⟩:=rp;cases rx;obtain⟨_,_,vs,_,dd⟩:=(show x4_ X.prog X.w H s.heap a (.dK _)from I.hok a _ (l _ _ q))
  obtain⟨o,h1,h2⟩:∃o,s.heap.get? a=some o/\o.cls=.type "dict":=by
   obtain⟨o,es,ep,g1,g2,_⟩:=dd;exact⟨o,g1,g2.1⟩
  exact Zd Yv I.kIn ⟨o,h1,h2⟩ t1 (e nofun) (fun z=>nomatch z) h
 |dct ks vs=>
  simp only[Rep]at rp;obtain⟨a,kvs,rfl,q,_⟩:=rp;cases rx;obtain⟨_,_,_,_,o,_,_,h1,h2,_⟩:=(show x4_ X.prog X.w H s.heap a (.dT _ _)from I.hok a _ (l _ _ q))
  exact Zd Yv I.kIn ⟨o,h1,h2.1⟩ t1 (e nofun) (fun z=>nomatch z) h
 |obj o=>
  have h0:∀{T:String},x8_ X.K T->a0a "object" T=false:=fun{T} kt=>by
   unfold x8_ at kt;simp only[Qn,Zk,Yd]at kt
   rcases kt with rfl|rfl|rfl|rfl|rfl<;>rfl
  have hf:∀{T:String},x8_ X.K T->PySem.W.kitOne X.K (.type "function") (.type T)=some false:=fun{T} kt=>by
   unfold x8_ at kt;simp only[Qn,Zk,Yd]at kt
   rcases kt with rfl|rfl|rfl|rfl|rfl<;>rfl
  have h':∀tk,Q (.bool false) {s with toks:=tk}:=fun tk=>by have:=h tk;rwa [show a0a (tyD (.obj o)) T=false from h0 kt,show a0a (tyD (.obj o)) U=false from h0 ku]at this
  simp only[Rep]at rp;cases o with
  |exc n=>
   obtain⟨a,C,HP,rfl,_,h3,h4,h5⟩:=rp;cases rx;exact Zd h4 I.kIn (I.hok a _ (l _ _ h3)).1 t1 (a3P (h5 T kt) (h5 U ku)) (fun z=>nomatch z) h'
  |fn n=>
   obtain⟨f,rfl,_,h4⟩:=rp;cases rx;exact Zd h4 I.kIn True.intro t1 (a3P (hf kt) (hf ku)) (fun z=>nomatch z) h'
  |dk kvs=>
   obtain⟨a,rfl,q⟩:=rp;cases rx;obtain⟨_,_,vs,_,dd⟩:=(show x4_ X.prog X.w H s.heap a (.dK _)from I.hok a _ (l _ _ q))
   obtain⟨o,h1,h2⟩:∃o,s.heap.get? a=some o/\o.cls=.type "dict":=by
    obtain⟨o,es,ep,g1,g2,_⟩:=dd;exact⟨o,g1,g2.1⟩
   have hd:∀{T:String},x8_ X.K T->PySem.W.kitOne X.K (.type "dict") (.type T)=some false:=fun{T} kt=>by
    unfold x8_ at kt;simp only[Qn,Zk,Yd]at kt
    rcases kt with rfl|rfl|rfl|rfl|rfl<;>rfl
   exact Zd Yv I.kIn ⟨o,h1,h2⟩ t1 (a3P (hd kt) (hd ku)) (fun z=>nomatch z) h'
  |dt kvs=>
   obtain⟨a,ps,rfl,q,_⟩:=rp;cases rx;obtain⟨_,_,vs,_,dd⟩:=(show x4_ X.prog X.w H s.heap a (.dK _)from I.hok a _ (l _ _ q))
   obtain⟨o,h1,h2⟩:∃o,s.heap.get? a=some o/\o.cls=.type "dict":=by
    obtain⟨o,es,ep,g1,g2,_⟩:=dd;exact⟨o,g1,g2.1⟩
   have hd:∀{T:String},x8_ X.K T->PySem.W.kitOne X.K (.type "dict") (.type T)=some false:=fun{T} kt=>by
    unfold x8_ at kt;simp only[Qn,Zk,Yd]at kt
    rcases kt with rfl|rfl|rfl|rfl|rfl<;>rfl
   exact Zd Yv I.kIn ⟨o,h1,h2⟩ t1 (a3P (hd kt) (hd ku)) (fun z=>nomatch z) h'
def a9S(T U:String)(m:Mo D):Mo D:=fun env=>(m env).map fun p=>(.bl (a0a (tyD p.1) T||a0a (tyD p.1) U),p.2)
theorem b5M{T U:String}{y z:Str}{p p2 p3 p4:Pos}{x1:Nat}(kt:x8_ X.K T)(ku:x8_ X.K U)(ha:ED X B a ma)(hg:Gl X "isinstance")(hm:X.mg "isinstance"=none)(hgT:Gl X y)(hmT:X.mg y=none)(hvT:bootBuiltins y=some (.type T))(hgU:Gl X z)(hmU:X.mg z=none)(hvU:bootBuiltins z=some (.type U))
  (hnT:y≠"__name__":=by decide)(hdT:(y==("__debug__":Str))=false:=by decide)(hnU:z≠"__name__":=by decide)(hdU:(z==("__debug__":Str))=false:=by decide)
  (he:starEach [a,.Tuple [.Name y p2,.Name z p3] x1 p4] X.env=[(false,eval a X.env),(false,eval (.Tuple [.Name y p2,.Name z p3] x1 p4) X.env)]:=by rfl):ED X B (.Call (.Name "isinstance" p) [a,.Tuple [.Name y p2,.Name z p3] x1 p4] [] pos) (a9S T U ma):=by
 have hT:PE X (.Name y p2) (tC (.ty T)):=a5G hgT hmT hvT rfl hnT hdT
 have hU:PE X (.Name z p3) (tC (.ty U)):=a5G hgU hmU hvU rfl hnU hdU
 have htup:PE X (.Tuple [.Name y p2,.Name z p3] x1 p4) (a8B (a5Q (tC (.ty T)) (a5Q (tC (.ty U)) a8A))):=a8C (a0Y hT (a0Y hU a2I))
 have hc:a0d X (.builtin "isinstance") (fun xs H Q=>∃x q G d,xs=[x,.ref q]/\H q=some (.tup [.ty T,.ty U])/\Le G H/\Rep X.K G x d/\Q (.bl (a0a (tyD d) T||a0a (tyD d) U)) H):=by
  intro pins s σ H xs us Q I r h;obtain⟨x,q,G,d,rfl,hq,l,rp,qq⟩:=h;obtain⟨u,w',rfl,r1,r2⟩:=a2G r;cases r2;obtain⟨_,its,v,ht⟩:=(show x4_ X.prog X.w H s.heap q (.tup [.ty T,.ty U])from I.hok q _ hq)
  obtain⟨v1,v2,rfl,e1,e2⟩:=a2G v;cases e1;cases e2;exact b5L I l r1 rp ht.tup kt ku fun tk=>⟨.bl _,H,I.tok _,rfl,qq⟩
 refine pe_imp (a5S (pos:=pos) (p:=p) hc hg hm (by decide+kernel) (a0Y ha (a0Y htup a2I) he) (he:=he)) ?_
 rintro σ H Q ⟨G,env,d,env',rl,e,k⟩;obtain⟨⟨d1,env1⟩,e1,e2⟩:=v5_ e;cases e2;refine .bind rl e1 fun v G1 H1 ev r=>⟨(by decide:2≤sizeLine),fun q hq=>?_⟩
 have al:=ev.rel.allocM (o:=.tup [.ty T,.ty U]) hq
 exact⟨v,q,G1,d1,rfl,y6_,al.rel.sub,r,k _ G1 _ (ev.trans al) (by simp only[Rep])⟩
end
section
variable{X:Cx}{B:OA}
def a9T:List D->Option Bool
 |[]=>some false
 |.bl b::r=>(a9T r).map fun k=>b||k
 |_::_=>none
def dAny:List D->Option D
 |[.lst ds]=>(a9T ds).map fun k=>.bl k
 |_=>none
def g5_:List D->Option D
 |[.lst ds]=>(ints? ds).map fun ns=>.int ns.sum
 |[.tup ds]=>(ints? ds).map fun ns=>.int ns.sum
 |_=>none
theorem a3a:∀{us:List Value}{ns:List Int},IntsAre us ns->∀(i:Nat) (v:Value),us[i]? =some v->∃t,v=.int (ns.getD i 0) t
 |_,_,.nil,i,v,h=>by simp at h
 |_,_,.cons n t r,i,v,h=>by
  cases i with
  |zero=>simp at h;exact⟨t,by simp[←h]⟩
  |succ i=>exact a3a r i v (by simpa using h)
def a9U(X:Cx):List V->Hp->VK->Prop:=fun xs H Q=>∃(p:Addr) (ns:List Int),xs=[.ref p]/\(SqL X.K H p (ns.map V.int)∨SqT X.K H p (ns.map V.int))/\Q (.int ns.sum) H
theorem a3b(hc:X.calm=true):a0d X (.builtin "sum") (a9U X):=by
 intro pins s σ H xs us Q I r h;obtain⟨p,ns,rfl,hq,q⟩:=h;obtain⟨u,rfl,rx⟩:=a1E r;cases rx;have hh:X.A.handled=none:=I.ok.hd hc
 rcases hq with hq|hq
 ·obtain⟨its,r',pl,hz⟩:=I.list hq
  have hi:IntsAre its ns:=a2e r'
  have hl:=pl.isList
  have hlt:p<s.heap.objs.size:=by obtain⟨_,e,_⟩:=hl;exact Qu e
  refine call_sum_walkG (Uv hl ?_);refine⟨s.heap.objs.size,[s.heap.objs.size,p],[s.heap.objs.size],its.toArray.size,_,_,fun i=>ns.getD i 0,rfl,Walks.list (A:=X.A.in1) hh _ p (Qi hlt) its.toArray,
   ⟨⟨_,Qb _ rfl,rfl,rfl⟩,hl.push _⟩,fun b hb=>?_,fun i v hP=>a3a hi i v (by simpa using hP),fun h' tk t' hk'=>?_⟩
  ·have hs:=Qu (Qb s.heap (o:={cls:=.type "list_iterator",data:=.fields #[.ref p,.int 0 0]}) rfl)
   rcases Qn.mp hb with rfl|hb
   ·exact hs
   ·rcases Qn.mp hb with rfl|hb
    ·exact Uy hlt hs
    ·cases hb
  ·rw[Qp,hi.length,Ur,Vx (Qm _)]
   exact⟨.int ns.sum,H,I.kept (t':=tk) (Vk hk'),⟨t',rfl⟩,q⟩
 ·obtain⟨its,r',pl,hz⟩:=I.tuple hq
  have hi:IntsAre its ns:=a2e r'
  have hl:s.heap.IsTuple p its.toArray:=pl
  have hlt:p<s.heap.objs.size:=by obtain⟨_,e,_⟩:=hl;exact Qu e
  refine call_sum_walkG (Js hl ?_);refine⟨s.heap.objs.size,[s.heap.objs.size,p],[s.heap.objs.size],its.toArray.size,_,_,fun i=>ns.getD i 0,rfl,Walks.tuple (A:=X.A.in1) hh _ p (Qi hlt) its.toArray,
   ⟨⟨_,Qb _ rfl,rfl,rfl⟩,hl.push _⟩,fun b hb=>?_,fun i v hP=>a3a hi i v (by simpa using hP),fun h' tk t' hk'=>?_⟩
  ·have hs:=Qu (Qb s.heap (o:={cls:=.type "tuple_iterator",data:=.fields #[.ref p,.int 0 0]}) rfl)
   rcases Qn.mp hb with rfl|hb
   ·exact hs
   ·rcases Qn.mp hb with rfl|hb
    ·exact Uy hlt hs
    ·cases hb
  ·rw[Qp,hi.length,Ur,Vx (Qm _)]
   exact⟨.int ns.sum,H,I.kept (t':=tk) (Vk hk'),⟨t',rfl⟩,q⟩
theorem a3c:a0K X B (a9U X) g5_:=by
 intro G σ env H xs ds c Q rl r e k;unfold g5_ at e;split at e
 ·rename_i ds
  obtain⟨x,rfl,q⟩:=a0p r;obtain⟨ns,e1,e2⟩:=v5_ e;subst e2;simp only[Rep]at q;obtain⟨a,ys,rfl,h1,h2⟩:=q;have:=a1d h2 e1;subst this;exact⟨a,ns,rfl,.inl (rl.sub.sqL h1),k _ G H (.refl rl) (by simp only[Rep])⟩
 ·rename_i ds
  obtain⟨x,rfl,q⟩:=a0p r;obtain⟨ns,e1,e2⟩:=v5_ e;subst e2;simp only[Rep]at q;obtain⟨a,ys,rfl,h1,h2⟩:=q;have:=a1d h2 e1;subst this;exact⟨a,ns,rfl,.inr (rl.sub.sqT h1),k _ G H (.refl rl) (by simp only[Rep])⟩
 ·cases e
end
theorem a2s:bootBuiltins "sum"=some (.builtin "sum"):=by decide+kernel
theorem a9V{P:Program}{w:World}{K:Qq}{mg:OU}{base:Heap}{k n:Nat}{f:Addr}{fd:FuncData}{ps:List Str}:FnOk P w K mg base CX0 k f fd ps (SpF K n fun _=>none):=
 ⟨fun _ _ _ _ h=>(by obtain⟨_,_,_,_,_,_,_,e,_⟩:=h;cases e),fun _ _ _ _ _ _ _ _ _ _ _ _ _ h=>(by obtain⟨_,_,_,_,_,_,_,e,_⟩:=h;cases e)⟩
section
variable{X:Cx}{B:OA}
theorem b5N{pins:OX}{σ:St}{H:Hp}{s:Shared}{p:Addr}{ns:List Int}{A:Around}{Q:OE}{E:OE}(I:Inv X pins σ H s)(hh:X.A.in1.handled=none)(hq:SqL X.K H p (ns.map V.int)∨SqT X.K H p (ns.map V.int))
  (h:∀(o:Obj) (P:Nat->Value->Prop) (T:Nat->Heap->Prop),Walks X.prog X.w X.A.in1 s.heap.objs.size [s.heap.objs.size,p] [s.heap.objs.size] ns.length P T->T 0 (s.heap.push o)->(∀b∈[s.heap.objs.size,p],b<(s.heap.push o).objs.size)->
   (∀i v,P i v->i<ns.length/\∃t,v=.int (ns.getD i 0) t)->Q (.ref s.heap.objs.size) {s with heap:=s.heap.push o}):wpAny (model X.prog X.w) A (pyIter (.ref p)) Q E s:=by
 have key:∀(its:List Value),IntsAre its ns->∀i v,its.toArray[i]? =some v->i<ns.length/\∃t,v=.int (ns.getD i 0) t:=fun its hi i v hv=>by
  have hv':its[i]? =some v:=by simpa using hv
  refine⟨?_,a3a hi i v hv'⟩;have:=(Qg.mp hv').1;rw[hi.length]at this;exact this
 have low:∀(o:Obj),p<s.heap.objs.size->∀b∈[s.heap.objs.size,p],b<(s.heap.push o).objs.size:=fun o hlt b hb=>by
  have hs:s.heap.objs.size<(s.heap.push o).objs.size:=by rw[Zi];exact Xg _
  rcases Qn.mp hb with rfl|hb
  ·exact hs
  ·rcases Qn.mp hb with rfl|hb
   ·exact Uy hlt hs
   ·cases hb
 rcases hq with hq|hq
 ·obtain⟨its,r',pl,hz⟩:=I.list hq
  have hi:IntsAre its ns:=a2e r'
  have hl:=pl.isList
  have hlt:p<s.heap.objs.size:=by obtain⟨_,e,_⟩:=hl;exact Qu e
  have W:=Walks.list (prog:=X.prog) (w:=X.w) (A:=X.A.in1) hh s.heap.objs.size p (Qi hlt) its.toArray
  have es:its.toArray.size=ns.length:=by rw[Qp,hi.length]
  rw[es]at W;exact Uv hl (h _ _ _ W ⟨⟨_,Qb _ rfl,rfl,rfl⟩,hl.push _⟩ (low _ hlt) (key its hi))
 ·obtain⟨its,r',pl,hz⟩:=I.tuple hq
  have hi:IntsAre its ns:=a2e r'
  have hl:s.heap.IsTuple p its.toArray:=pl
  have hlt:p<s.heap.objs.size:=by obtain⟨_,e,_⟩:=hl;exact Qu e
  have W:=Walks.tuple (prog:=X.prog) (w:=X.w) (A:=X.A.in1) hh s.heap.objs.size p (Qi hlt) its.toArray
  have es:its.toArray.size=ns.length:=by rw[Qp,hi.length]
  rw[es]at W;exact Js hl (h _ _ _ W ⟨⟨_,Qb _ rfl,rfl,rfl⟩,hl.push _⟩ (low _ hlt) (key its hi))
def g6_(gt:Bool)(ns:List Int):Int:=ns.getD (argBest (fun i j=>if gt then decide (ns.getD i 0>ns.getD j 0)else decide (ns.getD i 0<ns.getD j 0)) (ns.length-1)) 0
def a9W(X:Cx)(gt:Bool):List V->Hp->VK->Prop:=fun xs H Q=>∃(p:Addr) (ns:List Int),xs=[.ref p]/\(SqL X.K H p (ns.map V.int)∨SqT X.K H p (ns.map V.int))/\0<ns.length/\Q (.int (g6_ gt ns)) H
theorem a6L(hc:X.calm=true):a0d X (.builtin "min") (a9W X false):=by
 intro pins s σ H xs us Q I r h;obtain⟨p,ns,rfl,hq,h0,q⟩:=h;obtain⟨u,rfl,rx⟩:=a1E r;cases rx;have hh:X.A.handled=none:=I.ok.hd hc;refine call_min_walk (b5N I hh hq fun o P T W st low key=>?_)
 refine⟨_,_,_,_,_,_,_,rfl,W,st,low,h0,CmpOf.ints_lt (fun i=>ns.getD i 0) (fun i v hv=>(key i v hv).2),fun v h' tk hP hk=>?_⟩
 obtain⟨_,t,rfl⟩:=key _ v hP;exact⟨.int _,H,I.kept (t':=tk) (Vk hk),⟨t,rfl⟩,q⟩
def g7_(gt:Bool):List D->Option D
 |[.lst ds]=>(ints? ds).bind fun ns=>if ns.isEmpty then none else some (.int (g6_ gt ns))
 |[.tup ds]=>(ints? ds).bind fun ns=>if ns.isEmpty then none else some (.int (g6_ gt ns))
 |_=>none
theorem a6M{gt:Bool}:a0K X B (a9W X gt) (g7_ gt):=by
 intro G σ env H xs ds c Q rl r e k;unfold g7_ at e;split at e
 ·rename_i ds
  obtain⟨x,rfl,q⟩:=a0p r;obtain⟨ns,e1,e2⟩:=z9_ e;split at e2
  ·cases e2
  ·rename_i h0
   cases e2;simp only[Rep]at q;obtain⟨a,ys,rfl,h1,h2⟩:=q;have:=a1d h2 e1;subst this;exact⟨a,ns,rfl,.inl (rl.sub.sqL h1),by cases ns with|nil=>simp at h0|cons _ _=>simp,k _ G H (.refl rl) (by simp only[Rep])⟩
 ·rename_i ds
  obtain⟨x,rfl,q⟩:=a0p r;obtain⟨ns,e1,e2⟩:=z9_ e;split at e2
  ·cases e2
  ·rename_i h0
   cases e2;simp only[Rep]at q;obtain⟨a,ys,rfl,h1,h2⟩:=q;have:=a1d h2 e1;subst this;exact⟨a,ns,rfl,.inr (rl.sub.sqT h1),by cases ns with|nil=>simp at h0|cons _ _=>simp,k _ G H (.refl rl) (by simp only[Rep])⟩
 ·cases e
end
section
variable{X:Cx}{B:OA}{pos:Pos}{a b c e:Expr}{ms:Mo (List D)}
end
def whl(t:Mo Bool)(b:Mo Fl):Nat->Mo Fl
 |0,_=>none
 |n+1,env=>(t env).bind fun p=>if p.1=true then(b p.2).bind fun q=>match q.1 with
  |.nx=>whl t b n q.2
  |.ct=>whl t b n q.2
  |.bk=>some (.nx,q.2)
  |f=>some (f,q.2)else some (.nx,p.2)
def a6N(n:Nat)(t:Mo Bool)(b:Mo Fl):Mo Fl:=whl t b n
section
variable{X:Cx}{B:OA}{pos:Pos}{c:Expr}{t:Mo Bool}
theorem a9X{body:List Stmt}{mbd:Mo Fl}{n:Nat}(hp:PassesOwn (model X.prog X.w) X.A X.env X.xe)(hc:ET X B c t)(hb:ESs X B body mbd):ES X B (.While c body [] pos) (a6N n t mbd):=by
 refine ps_imp (b3l hp hc hb) ?_
 rintro D σ H ⟨G,env,fl,env',rl,e,k⟩;refine⟨fun m σ2 H2=>∃G2 env2,Ev X.K B G σ env H G2 σ2 env2 H2/\whl t mbd m env2=some (fl,env'),⟨n,G,env,.refl rl,e⟩,?_⟩
 rintro m σ2 H2 ⟨G2,env2,ev2,e2⟩;cases m with
 |zero=>cases e2
 |succ m=>
  obtain⟨⟨b1,env3⟩,e3,e4⟩:=z9_ e2;refine⟨G2,env2,b1,env3,ev2.rel,e3,fun G3 H3 ev3=>?_⟩
  have ev3':=ev2.trans ev3
  cases b1 with
  |false=>
   simp only[Zz,Yw]at e4 ⊢;cases e4;exact k σ2 G3 H3 ev3'
  |true=>
   simp only[Zh]at e4 ⊢;refine⟨fun σ' H'=>∃G4 env4,Ev X.K B G σ env H G4 σ' env4 H'/\whl t mbd m env4=some (fl,env'),fun σ' H' q=>⟨m,Xg m,q⟩,?_⟩
   obtain⟨⟨fl5,env5⟩,e6,e7⟩:=z9_ e4;refine⟨G3,env3,fl5,env5,ev3.rel,e6,?_⟩;cases fl5 with
   |nx=>exact fun σ6 G6 H6 ev6=>⟨G6,env5,ev3'.trans ev6,e7⟩
   |ct=>exact fun σ6 G6 H6 ev6=>⟨G6,env5,ev3'.trans ev6,e7⟩
   |bk=>cases e7;exact fun σ6 G6 H6 ev6=>k σ6 G6 H6 (ev3'.trans ev6)
   |ret d=>cases e7;exact fun v σ6 G6 H6 ev6=>k v σ6 G6 H6 (ev3'.trans ev6)
   |retL d=>cases e7;exact fun a xs σ6 G6 H6 ev6=>k a xs σ6 G6 H6 (ev3'.trans ev6)
end
section
variable{X:Cx}{B:OA}{pos:Pos}{e:Expr}{ma:Mo D}{ml:Mo (List D)}
end
section
variable{prog:Program}{w:World}{A:Around}{E:OE}{s:Shared}{c:Bool}
end
section
variable{prog:Program}{w:World}{A:Around}{E:OE}{s:Shared}
end
section
variable{X:Cx}{B:OA}{pos p:Pos}{a:Expr}{ms:Mo (List D)}{elts:List Expr}{kk:Nat}{tp:Pos}
end
def CXE(P:Program)(w:World):CXT:=fun outer H s E ev s'=>
 ∃(e t C:Addr) (H':Hp) (Bh:Heap),ev=.ref e/\s'.os=s.os/\AllBare s'.gens/\Heap.FlyingW Bh outer e (.ref C) (.ref t) s'.heap/\
  Un (frs outer) [] H H' s.heap s'.heap/\HOk P w H' Bh/\(∀b o,s.heap.get? b=some o->H b=none->b∉frs outer->Bh.get? b=some o)/\
  (∀b o,s.heap.get? b=some o->b∉frs outer->∃o',Bh.get? b=some o')/\E (.ref C) none H'
section
variable{X:Cx}{pins:OX}{σ:St}{H H':Hp}{s s':Shared}{E:XK}{e t C:Addr}{Bh:Heap}
structure XOk(X:Cx)(E:XK):Prop where
 pass:a4r (CXE X.prog X.w) X E
 made:∀(pins:OX) (σ:St) (H:Hp) (s:Shared) (h':Heap) (e C:Addr) (vs:List Value),Inv X pins σ H s->Heap.MadeExcOf s.heap h' e (.ref C) vs->E (.ref C) none H->X.xe (.ref e) {s with heap:=h'}
end
def vmro:List Value:=[.type "ValueError",.type "Exception",.type "BaseException",.type "object"]
def a9Y(K:Qq)(n:Str):Bool:=match PySem.W.nsIn K mainGlobals n with
 |some (some (.ref C))=>PySem.W.excIn K C vmro "ValueError.__new__"
 |_=>false
abbrev Mx:=Env'->Option Str
section
variable(K:Qq)(B:OA)(E:XK)
end
section
variable{X:Cx}{B:OA}{E:XK}{pos p:Pos}{e:Expr}{es:List Expr}{st:Stmt}{rest:List Stmt}{x1 x2:Mx}{s1:Mo Fl}{ma:Mo D}
def SpX(K:Qq)(n:Nat)(g:List W->Option Str):Sp:=fun vs H _ E=>∃G ws c C,ws.length=n/\a3E ws/\Rel K j9_ G (vs.map some) ws H/\g ws=some c/\PySem.W.nsIn K mainGlobals c=some (some (.ref C))/\
 ∀G' ws' H',Ev K j9_ G (vs.map some) ws H G' (vs.map some) ws' H'->E (.ref C) none H'
structure DefX(P:Program)(w:World)(K:Qq)(mg:OU)(base:Heap)(x:Str)(k n:Nat)(g:List W->Option Str):Prop where
 ex:∃(f:Addr) (fd:FuncData) (ps:List Str),FnOk P w K mg base (CXE P w) k f fd ps (SpX K n g)/\ps.length=n/\mg x=some (.ref f)/\PySem.W.keepIn K (.ref f)=true/\a0e K fd ps []
end
open PySem.W Builtin Builtin.ObjectAttr Builtin.Getset_descriptor PySem.Calls
section
variable{prog:Program}{w:World}{A:Around}{E:OE}{K:Frag}{x C:Addr}{h:Heap}{g:Array GenState}{d:Drawn}{t:Nat}{os:OsState}
end
def b5O:List String:=["tuple","list","int","bool","str"]
def a9Z(K:Frag)(C:Addr):Bool:=
 (mroIn K C (.type "BaseException")==some true)&&((mroIn K C (.type "object")==some true)&&((findIn K (.ref C) "__class__"==some (some (.builtin "object.__class__")))&&((specialIn K (.builtin "object.__class__") "__get__"==some (some (.builtin "getset_descriptor.__get__")))&&
 ((takesIn K (.builtin "object.__class__")==some true)&&((findIn K (.ref C) "__getattribute__"==some (some (.builtin "BaseException.__getattribute__")))&&((findIn K (.ref C) "__getattr__"==some none)&&((clsIn K C).isSome&&((kitOne K (.ref C) (.type "ValueError")==some true)&&b5O.all fun T=>kitOne K (.ref C) (.type T)==some false))))))))
structure ExcF(K:Frag)(S:Str)(names:List Str)(n:Str)(C:Addr):Prop where
 nm:nsIn K mainGlobals n=some (some (.ref C))
 one:a9Y K n=true
 kit:a9Z K C=true
 sub:∃D,nsIn K mainGlobals S=some (some (.ref D))/\mroIn K C (.ref D)=some true/\a9Y K S=true/\a9Z K D=true
 pair:∀m∈names,∃D,nsIn K mainGlobals m=some (some (.ref D))/\kitOne K (.ref C) (.ref D)=some (n==m)
section
variable{X:Cx}{B:OA}{pos p p2:Pos}{a:Expr}{ma:Mo D}{S m:Str}{names:List Str}
end
end L2.Mir
namespace L2.Mir
open PySem PySem.Spec PyProof.Rows PySem.W
section
variable{X:Cx}{pins:OX}{σ σ':St}{H:Hp}{s:Shared}{e:Addr}{φ:Heap->Prop}
end
section
variable{M:Model}{A:Around}{E:OE}{K:Frag}{e C Dd:Addr}{h:Heap}{g:Array GenState}{d:Drawn}{t:Nat}{os:OsState}
end
def b5P(a:Addr)(h:Heap):Prop:=∃o fd,h.get? a=some o/\o.data=.func fd
section
variable{X:Cx}{B:OA}{S n x y:Str}{names:List Str}{i0 i j:Nat}{fl:Addr}{o:Option Str}{G₀:Hp}{cp cpos epos sp yp np apos hpos tpos:Pos}
end
section
variable{X:Cx}{B:OA}{S n x y:Str}{names:List Str}{i0 i j:Nat}{fl:Addr}{o:Option Str}{G₀:Hp}{cp cpos epos sp yp np apos hpos tpos yp0 spos0 npos0:Pos}{rest:List Stmt}{m:Mo Fl}{kk:Nat}
end
section
variable{P:Program}{w:World}{K:Frag}{mg:OU}{base:Heap}{N':List Str}{q:Str}{scope:Scope}{fl:Addr}{cd:Value}{cl:List (Str×Addr)}{A:Around}{outer:List Env}{s:Shared}{H:Hp}{E:XK}{σ:St}
end
structure LamAt(K:Frag)(params:Arguments)(body:Expr)(scope:Scope)(N':List Str)(lq:Str)(fl c':Addr)(cl:List (Str×Addr))(σ:St)(s₁:Shared)(H₁:Hp)(outer₁:List Env):Prop where
 obj:∃pm ctv,s₁.heap.get? fl=some (kla_obj "<lambda>" lq params body scope cl pm c' ctv)
 free:H₁ fl=none
 nfr:fl∉frs outer₁
 code:∃φ,H₁ c'=some (.ext φ)/\∀h:Heap,φ h->h.CodeRec (.ref c') lq
 inj:∀x y c,cl.lookup x=some c->cl.lookup y=some c->x=y
 has:∀x,scope.names.lookup x=some .free->∃c,cl.lookup x=some c
 cell:∀x c,cl.lookup x=some c->(∃v,s₁.heap.IsCell c v)/\H₁ c=none/\c∉frs outer₁
 val:∀(i:Nat) (x:Str) (v:V),N'[i]? =some x->σ[i]? =some (some v)->Vis scope x->scope.names.lookup x=some .free/\∃c u,cl.lookup x=some c/\q6_ v u/\s₁.heap.IsCell c (some u)
 len:σ.length=N'.length
def b5Q(P:Program)(w:World)(K:Frag)(mg:OU)(base:Heap)(kc:Nat)(fl:Addr)(s₁:Shared)(H₁:Hp)(outer₁:List Env)(o:Option Str)(G:Hp):Prop:=
 (∀(H':Hp) (s:Shared),Un (frs outer₁) [] H₁ H' s₁.heap s.heap->b5P fl s.heap)/\
 ∀(A:Around) (outer:List Env) (s:Shared) (Q:VK) (E:XK),Room kc A->Env0 P w K mg base A outer s H₁->Un (frs outer₁) [] H₁ H₁ s₁.heap s.heap->
  (o=none->∀v G' H',Ev K j9_ G [] [] H₁ G' [] [] H'->Q v H')->
  (∀n C,o=some n->nsIn K mainGlobals n=some (some (.ref C))->∀G' H',Ev K j9_ G [] [] H₁ G' [] [] H'->E (.ref C) none H')->
  codeAny (model P w) A (.call (.ref fl) ⟨[],[]⟩) (CR (CXE P w) outer P w H₁ s Q E) s
def b5R(mg:OU)(base:Heap):Prop:=∃bm o,mg "__builtins__"=some (.ref bm)/\bm≠builtinsNs/\bm≠mainGlobals/\base.get? bm=some o/\o.cls=.type "module"/\o.dict=some builtinsNs/\o.data=.plain
section
variable{X:Cx}{pins:OX}{σ:St}{H:Hp}{s:Shared}{P c:Addr}{ps:Array Value}{qual:Str}{scope:Scope}{cl:List (Str×Addr)}{params:Arguments}{body:Expr}{pos:Pos}
structure Made(X:Cx)(pins:OX)(σ:St)(H:Hp)(s:Shared)(P:Addr)(qual:Str)(params:Arguments)(body:Expr)(scope:Scope)(cl:List (Str×Addr))(fl c':Addr)(H1:Hp)(s1:Shared):Prop where
 inv:Inv X pins σ H1 s1
 ev:∀(B:OA) (G:Hp) (env:Env'),Rel X.K B G σ env H->Ev X.K B G σ env H G σ env H1
 obj:∃pm ctv,s1.heap.get? fl=some (kla_obj "<lambda>" (lamQ qual) params body scope cl pm c' ctv)
 new:s.heap.objs.size≤fl
 free:H1 fl=none
 code:H1 c'=some (LamC X.K P c')
 keep:∀b o,H b=none->s.heap.get? b=some o->s1.heap.get? b=some o/\H1 b=none
end
structure RefDef(P:Program)(w:World)(K:Frag)(mg:OU)(base:Heap)(x:Str)(k kc:Nat)(fr:Option Str->Option D):Prop where
 ex:∃f:Addr,mg x=some (.ref f)/\keepIn K (.ref f)=true/\∀(A:Around) (outer:List Env) (s:Shared) (H:Hp) (fl:Addr) (o:Option Str) (G:Hp) (Q:VK),Room k A->Env0 P w K mg base A outer s H->b5Q P w K mg base kc fl s H outer o G->Rel K j9_ G [] [] H->
  (∃d,fr o=some d/\∀v G' H',Ev K j9_ G [] [] H G' [] [] H'->Rep K G' v d->Q v H')->codeAny (model P w) A (.call (.ref f) ⟨[.ref fl],[]⟩) (CR CX0 outer P w H s Q E0) s
structure TabF(K:Frag)(mg:OU)(base:Heap)(cd:Value)(qual:Str)(P:Addr):Prop where
 ex:∃c,cd=.ref c/\codeHdIn K c P=true/\codeIn K (.ref c) qual=true
 tq:tabQ K P qual=true
 bm:b5R mg base
section
variable{X:Cx}{B:OA}{x S qual:Str}{names:List Str}{k kc:Nat}{fr:Option Str->Option D}{P:Addr}{N':List Str}{scope:Scope}{keep:List Bool}{params:Arguments}{body:Expr}{mb:Mo D}{xb:Mx}{p lpos pos:Pos}{ps0:Array Value}
end
def b5S(ts:List Addr)(H:Hp):Prop:=∀P∈ts,∃ps,H P=some (.tbl ps)
def SpT(K:Frag)(ts:List Addr)(n:Nat)(f:Fn):Sp:=fun vs H Q E=>b5S ts H/\SpF K n f vs H Q E
end L2.Mir
namespace L2.Mir
open PySem PySem.Spec PyProof.Rows PySem.W
section
variable{X:Cx}{B:OA}{pos:Pos}{o e:Expr}{ma mb:Mo D}
end
open AutoSeq1 (wpAny_loadPart')
section
variable{prog:Program}{w:World}{A:Around}{E:OE}{s:Shared}
end
section
variable{X:Cx}{B:OA}{pos:Pos}{a b c e:Expr}{ms:Mo (List D)}
end
section
variable{X:Cx}{B:OA}{pos:Pos}
end
def a0G(elt:Expr)(gens:List Comprehension)(scope:Scope)(pos:Pos)(d:Nat)(acc:Value)(env:Env):Sem Unit:=match gens[d+1]? with
 |some g'=>do
  let x←eval g'.iter env
  standAt g'.iter.pos
  let x←if g'.is_async !=0 then foldedIterable g'.iter x else foldedSetIterable g'.iter env x
  let _←runOwn (.compStart (.ListComp elt gens scope pos) (d+1) (←holding [x] (if g'.is_async !=0 then asyncIter x else pyIter x)) acc env) env
 |none=>do let _←call (.builtin "list.append") [acc,←eval elt env]
theorem b5T{elt target iter:Expr}{ifs:List Expr}{gens:List Comprehension}{scope:Scope}{pos:Pos}{d:Nat}{it acc:Value}{env:Env}(hd:gens[d]? =some ⟨target,iter,ifs,0⟩):
  compTurn (.ListComp elt gens scope pos) d it acc env=(do
   standAt iter.pos
   match←pyNext it with
   |none=>pure (.done .next)
   |some v=>
    letOwnedTupleGo target it v
    assign target env v
    let mut ok:=true
    for c in ifs do
     if ok then ok←isTrue c env (eval c env)
    if ok then
     a0G elt gens scope pos d acc env
    again (.compLoop (.ListComp elt gens scope pos) d it acc env)):=by
 unfold compTurn a0G;dsimp only;rw[hd];cases gens[d+1]? with
 |none=>rfl
 |some g'=>
  show(standAt iter.pos>>=fun _=>pyNext it>>=fun r=>_)=_
  refine Yq (standAt iter.pos>>= ·) (funext fun _=>Yq (pyNext it>>= ·) (funext fun r=>?_))
  cases r with
  |none=>rfl
  |some v=>
   refine Yq (letOwnedTupleGo target it v>>= ·) (funext fun _=>Yq (assign target env v>>= ·) (funext fun _=>Yq (_>>= ·) (funext fun ok=>?_)))
   cases ok with
   |false=>rfl
   |true=>
    by_cases ha:(g'.is_async !=0)=true
    ·simp only[ha,Zh,bind_assoc,pure_bind]
    ·simp only[ha,Zh,Yw,bind_assoc,pure_bind,Zz]
section
variable{prog:Program}{w:World}{A:Around}{R:Result->Shared->Prop}{s:Shared}
theorem b0a{elt target iter:Expr}{ifs:List Expr}{gens:List Comprehension}{scope:Scope}{pos:Pos}{d:Nat}{it acc:Value}{env:Env}(hd:gens[d]? =some ⟨target,iter,ifs,0⟩)(I:Nat->Shared->Prop)
  (turn:∀n s,I n s->wpAny (model prog w) A (pyNext it) (fun r s₁=>match r with
   |none=>R (.ok .next) s₁
   |some v=>wpAny (model prog w) A (letOwnedTupleGo target it v) (fun _ s₁'=>wpAny (model prog w) A (assign target env v) (fun _ s₂=>
     wpAny (model prog w) A (forIn ifs true fun c r=>if r=true then do let ok←isTrue c env (eval c env);pure (ForInStep.yield ok)else pure (ForInStep.yield r)) (fun ok s₃=>
      if ok=true then wpAny (model prog w) A (a0G elt gens scope pos d acc env) (fun _ s₅=>∃m,m<n/\I m s₅) (fun _ _=>False) s₃
      else∃m,m<n/\I m s₃) (fun _ _=>False) s₂) (fun _ _=>False) s₁') (fun _ _=>False) s₁) (fun _ _=>False) s)
  (n:Nat)(h:I n s):
  codeAny (model prog w) A (.compLoop (.ListComp elt gens scope pos) d it acc env) R s:=by
 refine codeAny_loop rfl I (fun n s hI=>?_) n h
 show wpAny _ A ((compTurn (.ListComp elt gens scope pos) d it acc env).onRaise (fun x=>do noteFrame x env;theTreesLotGoes x)) _ _ s
 refine wpAny_noted ?_
 rw[b5T hd];refine Qz (Jn (Qz (Zq (turn n s hI) (fun r s₁ h₁=>?_) fun _ _ h'=>h'.elim)))
 cases r with
 |none=>exact Qv h₁
 |some v=>
  refine Qz (Zq h₁ (fun _ s₁' h₁'=>?_) fun _ _ h'=>h'.elim)
  refine Qz (Zq h₁' (fun _ s₂ h₂=>Qz (Zq h₂ (fun ok s₃ h₃=>?_) fun _ _ h'=>h'.elim)) fun _ _ h'=>h'.elim)
  cases ok with
  |false=>exact Qv ⟨rfl,h₃⟩
  |true=>exact Qz (Zq h₃ (fun _ s₅ h₅=>Qv ⟨rfl,h₅⟩) fun _ _ h'=>h'.elim)
theorem b5U{elt target iter:Expr}{ifs:List Expr}{gens:List Comprehension}{scope:Scope}{pos:Pos}{d:Nat}{it acc:Value}{env:Env}(hd:gens[d]? =some ⟨target,iter,ifs,0⟩)
  (h0:codeAny (model prog w) A (.compLoop (.ListComp elt gens scope pos) d it acc env) R s)
  (h:wpAny (model prog w) A (pyIter it) (fun it' s'=>codeAny (model prog w) A (.compLoop (.ListComp elt gens scope pos) d it' acc env) R s')
   (notedBy (model prog w) A env fun x s'=>R (.error x) s') s):
  codeAny (model prog w) A (.compStart (.ListComp elt gens scope pos) d it acc env) R s:=by
 refine codeAny_of_tree ?_
 show wpAny _ _ ((compStart (.ListComp elt gens scope pos) d it acc env).onRaise (fun x=>do noteFrame x env;standAt theWindowsPlace)) _ _ s
 refine wpAny_notedAt ?_
 unfold compStart;rw[show clausesOf (.ListComp elt gens scope pos)=gens from rfl,hd]
 show wpAny _ _ (ask>>=_) _ _ s;refine Qz (wpAny_askSetting (wpAny_ite ?_));split
 ·first
   |exact Qz (Qv (Qv (And.intro rfl h0)))
   |exact Qv (And.intro rfl h0)
 ·first
   |exact Qz (Ju (Qz (Jn (Qz (Zq h (fun it' s' h'=>Qv (And.intro rfl h')) fun _ _ x=>x)))))
   |(refine Qz (Ju ?_);show wpAny _ _ (standAt iter.pos>>=_) _ _ s;exact Qz (Jn (Qz (Zq h (fun it' s' h'=>Qv (And.intro rfl h')) fun _ _ x=>x))))
end
abbrev a0R:=St->Hp->(St->Hp->Prop)->Prop
def a4Z(J:It)(g:TG)(tt:TT)(act:a0R)(σ₀:St)(H₀:Hp)(Q:St->Hp->Prop):Prop:=
 ∃W:Nat->Nat->St->Hp->Prop,(∃m,W 0 m σ₀ H₀)/\∀i m σ H,W i m σ H->
  (J.stop i H/\Q σ H)∨(J.go i H/\∀x H',J.yld i H x H'->g x σ H' fun σ2 H2=>tt σ2 H2 fun b H3=>
   if b=true then act σ2 H3 fun σ4 H4=>∃m',m'<m/\W (i+1) m' σ4 H4 else∃m',m'<m/\W (i+1) m' σ2 H3)
def a1v(X:Cx)(sem:Sem Unit)(act:a0R):Prop:=∀(pins:OX) (s:Shared) (σ:St) (H:Hp) (Q:St->Hp->Prop),Inv X pins σ H s->act σ H Q->
 wpAny (model X.prog X.w) X.A sem (fun _ s'=>∃σ' H',Inv X pins σ' H' s'/\Q σ' H') (fun _ _=>False) s
def b0b(te:TE)(p:Addr):a0R:=fun σ H Q=>te σ H fun y H4=>∃ys,H4 p=some (.lst ys)/\ys.length<sizeLine/\Q σ (upd H4 p (.lst (ys++[y])))
def b0c(wi:TI)(g:TG)(tt:TT)(act:a0R):a0R:=fun σ H Q=>wi σ H fun J H1=>a4Z J g tt act σ H1 Q
section
variable{X:Cx}{elt:Expr}{gens:List Comprehension}{scope:Scope}{pos:Pos}{d:Nat}
theorem b5V{te:TE}{p:Addr}(hx:∀e s,¬ X.xe e s)(hn:gens[d+1]? =none)(he:PE X elt te):a1v X (a0G elt gens scope pos d (.ref p) X.env) (b0b te p):=by
 intro pins s σ H Q I h;unfold a0G;rw[hn];refine Qz (Zq (he pins s σ H _ I h) (fun v s1 ⟨y,H1,I1,r1,ys,hys,hl,q⟩=>?_) fun e s' z=>(hx e s' z).elim)
 refine Qz (Zq (a8U (X:=X) _ s1 σ H1 (.ref p) [y] (.ref p) [v] (fun _ H2=>Q σ H2) I1 rfl (.cons r1 .nil) ⟨p,ys,y,rfl,rfl,hys,hl,q⟩) (fun _ s2 ⟨_,H2,I2,_,w2⟩=>Qv ⟨σ,H2,I2,w2⟩) fun e s' z=>(hx e s' z).elim)
theorem b5W{tg iter:Expr}{ifs:List Expr}{wi:TI}{g:TG}{tt:TT}{act:a0R}{acc:Value}(hx:∀e s,¬ X.xe e s)(hc:X.calm=true)(hd:gens[d+1]? =some ⟨tg,iter,ifs,0⟩)(hi:PI X tg iter wi)(hg:PG X tg g)(ht:a0s X ifs tt)
  (ha:a1v X (a0G elt gens scope pos (d+1) acc X.env) act)(hs:∀x,foldedSetIterable iter X.env x=pure x):a1v X (a0G elt gens scope pos d acc X.env) (b0c wi g tt act):=by
 intro pins s σ H Q I h;unfold a0G;rw[hd];have nof:∀(e:Value) (s:Shared),X.xe e s->False:=fun e s z=>hx e s z
 refine Qz (Zq (hi pins s σ H _ I h) (fun v s1 h1=>?_) fun e s' z=>(hx e s' z).elim)
 refine Qz (Jn ?_);show wpAny _ _ (foldedSetIterable iter X.env v>>=_) _ _ s1;refine Qz (wpAny_of_eq (hs v) ?_);show wpAny _ _ (holding [v] (pyIter v)>>=_) _ _ s1;refine Qz (Jv (Zq h1 (fun itv s2 h2=>?_) fun e s' z=>(hx e s' z).elim))
 obtain⟨it,fp,tn,J,H2,e,I2,T,st2,f2,W,⟨m0,w0⟩,turn⟩:=h2;subst e;have stat:∀{H':Hp},(∀b∈fp,H' b=none)->∀b∈fp,u7_ X pins H' b:=fun hn b hb=>⟨hn b hb,(f2 b hb).2⟩
 have loop:codeAny (model X.prog X.w) X.A (.compLoop (.ListComp elt gens scope pos) (d+1) (.ref it) acc X.env) (fun r s'=>match r with|.ok f=>wpAny (model X.prog X.w) X.A (pure ()) (fun _ s'=>∃σ' H',Inv X pins σ' H' s'/\Q σ' H') (fun _ _=>False) s'|.error e=>cameBackBy (model X.prog X.w) X.A X.env (fun _ _=>False) e s') s2:=by
  refine b0a hd (fun n s'=>∃i σ' H',Inv X pins σ' H' s'/\tn i s'.heap/\(∀b∈fp,H' b=none)/\W i n σ' H') ?_ m0 ⟨0,σ,H2,I2,st2,fun b hb=>(f2 b hb).1,w0⟩
  rintro n s3 ⟨i,σ3,H3,I3,st3,fr3,w3⟩
  rcases turn i n σ3 H3 w3 with⟨stop,qn⟩|⟨go,step⟩
  ·refine Zq (T.done X rfl rfl rfl hc i pins s3 σ3 H3 (fun _ _=>False) I3 (stat fr3) st3 stop) (fun r s4 ⟨hr,I4⟩=>?_) fun _ _ z=>z
   subst hr;exact Qv ⟨σ3,H3,I4,qn⟩
  ·refine Zq (T.item X rfl rfl rfl hc i pins s3 σ3 H3 (fun _ _=>False) I3 (stat fr3) st3 go) (fun r s4 ⟨u,hr,h4⟩=>?_) fun _ _ z=>z
   subst hr;refine Zq h4 (fun _ s5 ⟨x,H5,I5,r5,y5,st5,fr5⟩=>?_) fun _ _ z=>z
   have I5':=I5.pinned (stat fr5) (T.obj _ _ st5)
   have back:∀{σ8:St}{H8:Hp}{s8:Shared}{m':Nat},Inv X (pins++a2E fp s5.heap) σ8 H8 s8->m'<n->W (i+1) m' σ8 H8->∃m,m<n/\∃i σ' H',Inv X pins σ' H' s8/\tn i s8.heap/\(∀b∈fp,H' b=none)/\W i m σ' H':=fun{σ8 H8 s8 m'} I8 hm w8=>by
    refine⟨m',hm,i+1,σ8,H8,I8.unpinned,T.keep _ _ _ st5 fun b hb o e=>(I8.pin (b,o) (Qo _ (Qo _ (a2F hb e)))).1,fun b hb=>?_,w8⟩
    obtain⟨o,e,d⟩:=T.obj _ _ st5 b hb;exact(I8.pin (b,o) (Qo _ (Qo _ (a2F hb e)))).2.1
   refine Zq (hg _ s5 σ3 H5 x u _ I5' r5 (step x H5 y5)) (fun _ s6 ⟨σ6,H6,I6,q6⟩=>?_) nof
   refine Zq (ht _ s6 σ6 H6 _ I6 q6) (fun b s7 ⟨H7,I7,q7⟩=>?_) nof
   cases b with
   |false=>
    simp only[Zz,Yw]at q7 ⊢;obtain⟨m',hm,w7⟩:=q7;exact back I7 hm w7
   |true=>
    simp only[Zh]at q7 ⊢;exact Zq (ha _ s7 σ6 H7 _ I7 q7) (fun _ s8 ⟨σ8,H8,I8,m',hm,w8⟩=>back I8 hm w8) fun _ _ z=>z
 refine Qz (wpAny_runOwn (h:=none) (b5U hd loop (Zq (T.self X.A 0 s2 _ (fun _ _=>False) st2 loop) (fun _ _ q=>q) fun _ _ q=>q.elim)))
end
section
variable{X:Cx}{N':List Str}{scope:Scope}{keep:List Bool}{more:Nat}{tg iter elt:Expr}{ifs:List Expr}{gs:List Comprehension}{g:TG}{tt:TT}{act:Addr->a0R}{pos:Pos}
theorem b0d{E:OE}{pins:OX}{σ:St}{H:Hp}{s:Shared}{it:Addr}{fp:List Addr}{tn:Nat->Heap->Prop}{J:It}{Qf:Addr->Hp->Prop}{RR:Value->Addr->Result->Shared->Prop}
  (ok:CompOk X N' scope keep more)(hc:X.calm=true)(hg:∀s H fp,PG (y1_ X N' scope s H fp) tg g)(ht:∀s H fp,a0s (y1_ X N' scope s H fp) ifs tt)(he:∀s H fp p,a1v (y1_ X N' scope s H fp) (a0G elt (⟨tg,iter,ifs,0⟩::gs) scope pos 0 (.ref p) (y1_ X N' scope s H fp).env) (act p))
  (I:Inv X pins σ H s)(T:Turn X.prog X.w X.K tg J fp it tn)(st:tn 0 s.heap)(hf:∀b∈fp,u7_ X pins H b)
  (run:∀p,H p=none->a4Z J g tt (act p) (u2_ keep more σ) (upd H p (.lst [])) (fun _ H'=>Qf p H'))
  (hRR:∀p C s' H' m,Inv X pins σ H' s'->Qf p H'->s'.heap.Ns C m->C≠X.env.locals->(∀x c,X.env.cells.lookup x=some c->c≠C)->H' C=none->(∀σ'' H'' s'' h',Inv X pins σ'' H'' s''->H'' C=none->Heap.SameBut C s''.heap h'->Inv X pins σ'' H'' {s'' with heap:=h'})->RR (.ref p) C (.ok .next) s'):
  wpAny (model X.prog X.w) X.A (newList []) (fun acc s₃=>wpAny (model X.prog X.w) X.A (newFunctionEnv scope X.env.globals (j7_ X.env.cells scope.names []) [] X.env.qual none .none (some X.env)) (fun cenv s₄=>
   codeAny (model X.prog X.w) X.A (.compStart (.ListComp elt (⟨tg,iter,ifs,0⟩::gs) scope pos) 0 (.ref it) acc {cenv with scope:=relabel scope X.env}) (RR acc cenv.locals) s₄) E s₃) E s:=by
 have hp0:H s.heap.objs.size=none:=I.hok.fresh (Qm _)
 refine Yk ?_
 have I3:Inv X pins σ (upd H s.heap.objs.size (.lst [])) {s with heap:=s.heap.push {cls:=.type "list",dict:=none,data:=.seq ([]:List Value).toArray}}:=
  I.laid (t':=s.toks) (fun b u e=>Qx _ e) (Qm _) ⟨Uz _,[],0,.nil,Qb _ rfl⟩
 have fpOld:∀b∈fp,b<s.heap.objs.size:=fun b hb=>by
  obtain⟨o,e,_⟩:=T.obj 0 _ st b hb;exact Qu e
 have hf3:∀b∈fp,u7_ X pins (upd H s.heap.objs.size (.lst [])) b/\b<(s.heap.push {cls:=.type "list",dict:=none,data:=.seq ([]:List Value).toArray}).objs.size:=fun b hb=>by
  refine⟨⟨by rw[q8_ (Qi (fpOld b hb))];exact(hf b hb).1,(hf b hb).2⟩,?_⟩
  rw[Zi];exact Uw (fpOld b hb)
 have st3:tn 0 (s.heap.push {cls:=.type "list",dict:=none,data:=.seq ([]:List Value).toArray}):=T.keep 0 _ _ st fun b hb o e=>Qx _ e
 generalize hs3:({s with heap:=s.heap.push {cls:=.type "list",dict:=none,data:=.seq ([]:List Value).toArray}}:Shared)=s3 at I3 ⊢
 have hs3h:s3.heap=s.heap.push {cls:=.type "list",dict:=none,data:=.seq ([]:List Value).toArray}:=by rw[←hs3]
 rw[←hs3h]at hf3 st3;generalize hp:s.heap.objs.size=p at hp0 I3 hf3 ⊢;generalize hH3:upd H p (.lst [])=H3 at I3 hf3;refine b4O _ ?_
 have I4:=b4N ok I3 hf3
 generalize hs4:({s3 with heap:=pushCells (s3.heap.push {cls:=.type "dict",data:=.dict #[]}) scope.names}:Shared)=s4 at I4 ⊢
 have st4:tn 0 s4.heap:=T.keep 0 _ _ st3 fun b hb o e=>by rw[←hs4];exact Vn _ _ _ _ (Qx _ e)
 obtain⟨W,⟨m0,w0⟩,turn⟩:=run p hp0;have stat:∀{H':Hp},(∀b∈fp,H' b=none)->∀b∈fp,u7_ (y1_ X N' scope s3 H3 fp) [] H' b:=fun hn b hb=>by
  have z:=I4.ok.exf b hb
  exact⟨hn b hb,z.1,I4.ok.exfs b hb,.inl hb,z.2,fun p hp=>absurd (show p∈([]:OX)from hp) (by simp)⟩
 have loop:codeAny (model X.prog X.w) X.A (.compLoop (.ListComp elt (⟨tg,iter,ifs,0⟩::gs) scope pos) 0 (.ref it) (.ref p) (a2T scope X.env s3.heap.objs.size)) (RR (.ref p) s3.heap.objs.size) s4:=by
  refine b0a (d:=0) rfl (fun n s'=>∃i σ' H',Inv (y1_ X N' scope s3 H3 fp) [] σ' H' s'/\tn i s'.heap/\(∀b∈fp,H' b=none)/\W i n σ' H') ?_ m0 ⟨0,_,H3,I4,st4,fun b hb=>(hf3 b hb).1.1,by rw[←hH3];exact w0⟩
  rintro n s5 ⟨i,σ5,H5,I5,st5,fr5,w5⟩
  rcases turn i n σ5 H5 w5 with⟨stop,qf⟩|⟨go,step⟩
  ·refine thn (T.done (y1_ X N' scope s3 H3 fp) rfl rfl rfl hc i [] s5 σ5 H5 (fun _ _=>False) I5 (stat fr5) st5 stop) fun r s6 ⟨hr,I6⟩=>?_
   subst hr;obtain⟨m6,hn6,_⟩:=I6.loc;have hch:∀b∈fp,(b∈X.ex∨X.s₀.heap.objs.size≤b)/\b≠X.env.locals/\(∀x c,X.env.cells.lookup x=some c->c≠b)/\∀p∈X.pn++pins,p.1≠b:=fun b hb=>by
    obtain⟨_,f1,_,f3,f4,f5⟩:=hf b hb;exact⟨f3,f1,f4,f5⟩
   have IX:Inv X pins σ H5 s6:=I3.call' (s':=s6) (I6.os) (I6.base) I6.hok I6.bare hch
   have szC:X.s₀.heap.objs.size≤s3.heap.objs.size:=I3.sz
   have hCL:s3.heap.objs.size≠X.env.locals:=Xb I3.lt
   have hCc:∀x c,X.env.cells.lookup x=some c->c≠s3.heap.objs.size:=fun x c e=>by
    obtain⟨v,q⟩:=I3.cell x c e;exact Qi q.lt
   have hCp:∀q∈X.pn++pins,q.1≠s3.heap.objs.size:=fun q hq=>Qi (Qu (I3.pin q hq).1)
   refine hRR p s3.heap.objs.size s6 H5 m6 IX qf hn6 hCL hCc I6.free fun σ'' H'' s'' h' I'' hn hs=>?_
   exact I''.turned (t':=s''.toks) (it:=s3.heap.objs.size) (fun b o hb e=>(hs.2 b hb).trans e) hn hCL (.inr szC) hCc hCp
  ·refine thn (T.item (y1_ X N' scope s3 H3 fp) rfl rfl rfl hc i [] s5 σ5 H5 (fun _ _=>False) I5 (stat fr5) st5 go) fun r s6 ⟨u,hr,h6⟩=>?_
   subst hr;refine thn h6 fun _ s7 ⟨x,H7,I7,r7,y7,st7,fr7⟩=>?_
   have I7':=I7.pinned (stat fr7) (T.obj _ _ st7)
   have back:∀{σ8:St}{H8:Hp}{s8:Shared}{m':Nat},Inv (y1_ X N' scope s3 H3 fp) ([]++a2E fp s7.heap) σ8 H8 s8->m'<n->W (i+1) m' σ8 H8->∃m,m<n/\∃i σ' H',Inv (y1_ X N' scope s3 H3 fp) [] σ' H' s8/\tn i s8.heap/\(∀b∈fp,H' b=none)/\W i m σ' H':=fun{σ8 H8 s8 m'} I8 hm w8=>by
    refine⟨m',hm,i+1,σ8,H8,I8.unpinned,T.keep _ _ _ st7 fun b hb o e=>(I8.pin (b,o) (Qo _ (Qo _ (a2F hb e)))).1,fun b hb=>?_,w8⟩
    obtain⟨o,e,d⟩:=T.obj _ _ st7 b hb;exact(I8.pin (b,o) (Qo _ (Qo _ (a2F hb e)))).2.1
   refine thn (hg s3 H3 fp _ s7 σ5 H7 x u _ I7' r7 (step x H7 y7)) fun _ s8 ⟨σ8,H8,I8,q8⟩=>?_
   refine thn (ht s3 H3 fp _ s8 σ8 H8 _ I8 q8) fun b s9 ⟨H9,I9,q9⟩=>?_
   cases b with
   |false=>
    simp only[Zz,Yw]at q9 ⊢;obtain⟨m',hm,w9⟩:=q9;exact back I9 hm w9
   |true=>
    simp only[Zh]at q9 ⊢;exact thn (he s3 H3 fp p _ s9 σ8 H9 _ I9 q9) fun _ s10 ⟨σ10,H10,I10,m',hm,w10⟩=>back I10 hm w10
 refine codeAny_compStart_list loop ?_
 exact Zq (T.self X.A 0 s4 _ (fun _ _=>False) st4 loop) (fun _ _ q=>q) fun _ _ q=>q.elim
def a6O(wi:TI)(keep:List Bool)(more:Nat)(g:TG)(tt:TT)(act:Addr->a0R):TE:=fun σ H Q=>wi σ H fun J H1=>∀p,H1 p=none->a4Z J g tt (act p) (u2_ keep more σ) (upd H1 p (.lst [])) (fun _ H'=>Q (.ref p) H')
theorem b5X{wi:TI}(ok:CompOk X N' scope keep more)(hc:X.calm=true)(hi:PI X tg iter wi)(hg:∀s H fp,PG (y1_ X N' scope s H fp) tg g)(ht:∀s H fp,a0s (y1_ X N' scope s H fp) ifs tt)
  (he:∀s H fp p,a1v (y1_ X N' scope s H fp) (a0G elt (⟨tg,iter,ifs,0⟩::gs) scope pos 0 (.ref p) (y1_ X N' scope s H fp).env) (act p))
  (hs:∀x,foldedSetIterable iter X.env x=pure x:=by intro _;rfl):PE X (.ListComp elt (⟨tg,iter,ifs,0⟩::gs) scope pos) (a6O wi keep more g tt act):=by
 intro pins s σ H Q I h;rw[eval_ListComp];refine wpAny_comprehension_free (use:=none) rfl hs ok.clos ok.kind (fun x hx hl=>by have:=ok.uniq x hx;rwa [hl]at this) (thn (hi pins s σ H _ I h) fun v s1 h1=>thn h1 fun itv s2 h2=>?_)
 obtain⟨it,fp,tn,J,H2,e,I2,T,st2,f2,run⟩:=h2;subst e;refine b0d (Qf:=fun p H'=>Q (.ref p) H') (RR:=fun acc C=>compPost (model X.prog X.w) X.A X.xe none (EP X pins σ Q) acc C) ok hc hg ht he I2 T st2 f2 run ?_
 intro p C s' H' m IX qf hn hCL hCc hCn turn;exact⟨m,hn,fun h' hs'=>⟨.ref p,H',turn σ H' s' h' IX hCn hs',rfl,qf⟩⟩
end
def a0t(m:Mo D):Mo (List D):=fun env=>(m env).map fun q=>([q.1],q.2)
def a0S(g:OZ)(t:Mo Bool)(a:Mo (List D)):List D->Mo (List D)
 |[],env=>some ([],env)
 |d::ds,env=>(g d env).bind fun e1=>(t e1).bind fun p=>if p.1 then(a p.2).bind fun q=>(a0S g t a ds q.2).map fun r=>(q.1++r.1,r.2)else a0S g t a ds p.2
def aIn(mi:Mo (List D))(g:OZ)(t:Mo Bool)(a:Mo (List D)):Mo (List D):=fun env=>(mi env).bind fun p=>a0S g t a p.1 p.2
def a2t(mi:Mo (List D))(keep:List Bool)(more:Nat)(g:OZ)(t:Mo Bool)(a:Mo (List D)):Mo (List D):=fun env=>(mi env).bind fun p=>
 (a0S g t a p.1 (j0_ keep more p.2)).bind fun q=>if q.1.length≤100000 then(w3_ keep p.2 q.2).map fun e=>(q.1,e)else none
theorem b5Y{H:Hp}{p:Addr}{o:HO}(h:H p=some o):upd H p o=H:=by
 funext b
 by_cases hb:b=p
 ·subst hb;rw[y6_,h]
 ·rw[q8_ hb]
section
variable{K:Qq}{B:OA}{n:Nat}
def TAc(K:Qq)(B:OA)(n:Nat)(a:Mo (List D))(p:Addr):a0R:=fun σ H Q=>∃G env zs env' ys,Rel K B G σ env H/\ ¬ Owned σ env p/\G p=none/\H p=some (.lst ys)/\a env=some (zs,env')/\ys.length+zs.length≤100000/\
 ∀σ' G' H' vs,Ev K B G σ env (upd H p (.lst (ys++vs))) G' σ' env' H'->(∀j,j<n->σ'[j]? =σ[j]?)->H' p=some (.lst (ys++vs))->z6_ K G' vs zs->Q σ' H'
theorem b5Z{m:Mo D}{p:Addr}:∀σ H Q,TAc K B n (a0t m) p σ H Q->b0b (TD K B m) p σ H Q:=by
 rintro σ H Q ⟨G,env,zs,env',ys,rl,no,gp,hp,e,hl,k⟩;obtain⟨⟨d,env1⟩,e1,e2⟩:=v5_ e;cases e2;refine⟨G,env,d,env1,rl,e1,fun v G' H' ev r=>?_⟩
 have hp':H' p=some (.lst ys):=ev.keep p _ no nt_lst hp
 refine⟨ys,hp',Qd (by simp at hl;omega) (show 100000≤sizeLine by decide),?_⟩
 exact k σ G' _ [v] (ev.swapAt no (by rw[hp];simp) gp nt_lst (fun φ z=>by rw[hp']at z;cases z)) (fun _ _=>rfl) y6_ (repL_cons r repL_nil)
theorem b0e{g:OZ}{t:Mo Bool}{a:Mo (List D)}{p:Addr}{J:It}{G1:Hp}{σ:St}{env1 envF:Env'}{H1:Hp}{items zs:List D}{ys:List V}{Q:St->Hp->Prop}(rl:Rel K B G1 σ env1 H1)(itd:ItD K J G1 items)(no:¬ Owned σ env1 p)(gp:G1 p=none)
  (hp:H1 p=some (.lst ys))(e3:a0S g t a items env1=some (zs,envF))(hl:ys.length+zs.length≤100000)
  (k:∀σ' G' H' vs,Ev K B G1 σ env1 (upd H1 p (.lst (ys++vs))) G' σ' envF H'->(∀j,j<n->σ'[j]? =σ[j]?)->H' p=some (.lst (ys++vs))->z6_ K G' vs zs->Q σ' H'):
  a4Z J (TGm K B n g) (TTm K B t) (TAc K B n a p) σ H1 Q:=by
 have hpS:∀us,(upd H1 p (.lst us)) p=some (.lst us):=fun us=>y6_
 refine⟨fun i m' σ2 H2=>m'=items.length-i/\i≤items.length/\∃G2 env2 vs acc rest,Ev K B G1 σ env1 (upd H1 p (.lst (ys++vs))) G2 σ2 env2 H2/\(∀j,j<n->σ2[j]? =σ[j]?)/\
   z6_ K G2 vs acc/\a0S g t a (items.drop i) env2=some (rest,envF)/\acc++rest=zs,⟨_,rfl,Uz _,G1,env1,[],[],zs,?_,fun _ _=>rfl,repL_nil,by simpa using e3,by simp⟩,?_⟩
 ·rw[Yl,b5Y hp];exact .refl rl
 rintro i m' σ2 H2 ⟨rfl,hi,G2,env2,vs,acc,rest,ev2,y2,r2,c2,t2⟩;have hp2:H2 p=some (.lst (ys++vs)):=ev2.keep p _ no nt_lst (hpS _);have lH:Le G1 H2:=ev2.same.trans ev2.rel.sub
 by_cases hlt:i<items.length
 ·refine .inr ⟨itd.go i H2 lH hlt,fun x H3 y=>?_⟩
  have ed:items.drop i=items[i]::items.drop (i+1):=List.drop_eq_getElem_cons hlt
  rw[ed]at c2;obtain⟨env4,e7,e8⟩:=z9_ c2;obtain⟨⟨b,env5⟩,e9,e10⟩:=z9_ e8;have hget:items[i]? =some items[i]:=by simp[hlt]
  have st:∃G3,Ev K B G1 σ env1 (upd H1 p (.lst (ys++vs))) G3 σ2 env2 H3/\Le G2 G3/\Rep K G3 x items[i]:=by
   rcases itd.yld i H2 x H3 items[i] lH y hget with⟨rfl,r⟩|⟨q,o,hno,hq,rfl,r⟩
   ·exact⟨G2,ev2,Le.refl,Rep.mono ev2.same _ r⟩
   ·have gq:=ev2.rel.gnone hq
    refine⟨upd G2 q o,ev2.trans (ev2.rel.alloc hq hno),Le.upd gq,Rep.mono (fun b u z=>?_) _ r⟩
    by_cases hb2:b=q
    ·subst hb2;rw[y6_]at z ⊢;exact z
    ·rw[q8_ hb2]at z ⊢;exact ev2.same b u z
  obtain⟨G3,ev3,l3,r3⟩:=st;refine⟨G3,env2,items[i],env4,ev3.rel,r3,e7,fun σ4 G4 H4 ev4 y4=>?_⟩
  refine⟨G4,env4,b,env5,ev4.rel,e9,fun G5 H5 ev5=>?_⟩
  have ev6:=(ev3.trans ev4).trans ev5
  have r5:z6_ K G5 vs acc:=z6_.mono ((l3.trans ev4.same).trans ev5.same) acc r2
  have y5:∀j,j<n->σ4[j]? =σ[j]?:=fun j hj=>(y4 j hj).trans (y2 j hj)
  have hp5:H5 p=some (.lst (ys++vs)):=ev6.keep p _ no nt_lst (hpS _)
  cases b with
  |true=>
   simp only[Zh]at e10 ⊢;obtain⟨⟨z7,env7⟩,e11,e12⟩:=z9_ e10;obtain⟨⟨rest8,env8⟩,e13,e14⟩:=v5_ e12;cases e14;have lz:zs.length=acc.length+(z7.length+rest8.length):=by rw[←t2];simp
   have no5:¬ Owned σ4 env5 p:=fun z=>(ev6.sub p z).elim no fun q=>by rw[hpS]at q;cases q
   refine⟨G5,env5,z7,env7,ys++vs,ev5.rel,no5,ev6.stay p (by rw[hpS];simp) no gp,hp5,e11,by rw[Qt,r2.length];omega,fun σ6 G6 H6 us ev7 y7 h7 r7=>?_⟩
   have nx:∀φ,H5 p≠some (.ext φ):=fun φ z=>by rw[hp5]at z;cases z
   have sw:=ev6.swapAt (o:=.lst (ys++vs++us)) no (by rw[hpS];simp) gp nt_lst nx
   rw[a8j]at sw;refine⟨items.length-(i+1),by omega,rfl,hlt,G6,env7,vs++us,acc++z7,rest8,?_,fun j hj=>(y7 j hj).trans (y5 j hj),(z6_.mono ev7.same acc r5).append r7,e13,by rw[Uo];exact t2⟩
   rw[←Uo];exact sw.trans ev7
  |false=>
   simp only[Zz,Yw]at e10 ⊢;exact⟨items.length-(i+1),by omega,rfl,hlt,G5,env5,vs,acc,rest,ev6,y5,r5,e10,t2⟩
 ·have ei:i=items.length:=by omega
  subst ei;rw[List.drop_length]at c2;cases c2;rw[Yl]at t2;subst t2;exact .inl ⟨itd.stop _ H2 lH (Qm _),k σ2 G2 H2 vs ev2 y2 hp2 r2⟩
theorem b6a{mi:Mo (List D)}{g:OZ}{t:Mo Bool}{a:Mo (List D)}{p:Addr}:∀σ H Q,TAc K B n (aIn mi g t a) p σ H Q->b0c (TIm K B mi) (TGm K B n g) (TTm K B t) (TAc K B n a p) σ H Q:=by
 rintro σ H Q ⟨G,env,zs,env',ys,rl,no,gp,hp,e,hl,k⟩;obtain⟨⟨items,env1⟩,e1,e2⟩:=z9_ e;refine⟨G,env,items,env1,rl,e1,fun J G1 H1 ev1 itd=>?_⟩
 have hp1:H1 p=some (.lst ys):=ev1.keep p _ no nt_lst hp
 refine b0e ev1.rel itd (fun z=>(ev1.sub p z).elim no fun q=>by rw[hp]at q;cases q) (ev1.stay p (by rw[hp];simp) no gp) hp1 e2 hl fun σ' G' H' vs ev y h r=>?_
 have nx:∀φ,H1 p≠some (.ext φ):=fun φ z=>by rw[hp1]at z;cases z
 exact k σ' G' H' vs ((ev1.swapAt (o:=.lst (ys++vs)) no (by rw[hp];simp) gp nt_lst nx).trans ev) y h r
theorem b0f{mi:Mo (List D)}{keep:List Bool}{more:Nat}{g:OZ}{t:Mo Bool}{a:Mo (List D)}(hkl:keep.length=n):
  ∀(σ:St) H Q,σ.length=n->TL K B (a2t mi keep more g t a) σ H Q->a6O (TIm K B mi) keep more (TGm K B n g) (TTm K B t) (TAc K B n a) σ H Q:=by
 rintro σ H Q hσn ⟨G,env,total,env',rl,e,k⟩;obtain⟨⟨items,env1⟩,e1,e2⟩:=z9_ e;obtain⟨⟨total',envF⟩,e3,e4⟩:=z9_ e2;dsimp only at e4;split at e4
 ·rename_i hlen
  obtain⟨env'',e5,e6⟩:=v5_ e4;cases e6;refine⟨G,env,items,env1,rl,e1,fun J G1 H1 ev1 itd p hp=>?_⟩
  have hk:keep.length=σ.length:=by rw[hkl,hσn]
  have gp:G1 p=none:=ev1.rel.gnone hp
  have no1:¬ Owned σ env1 p:=ev1.rel.unowned hp
  have no:¬ Owned (u2_ keep more σ) (j0_ keep more env1) p:=fun z=>no1 (a6t z)
  have relS:∀ys,Rel K B G1 σ env1 (upd H1 p (.lst ys)):=fun ys=>(ev1.rel.allocM hp).rel
  refine b0e (ys:=[]) ((relS []).ext hk) itd no gp y6_ e3 (by simpa using hlen) fun σ2 G2 H2 ys ev2 y2 hp2 r2=>?_
  rw[Vc,a8j]at ev2;rw[Vc]at hp2;have evO:=Ev.out (relS ys) hk ev2 (fun j hj=>y2 j (by omega)) e5
  have evA:=ev1.trans ((ev1.rel.allocM (o:=.lst ys) hp).trans evO)
  have hpn:H p=none:=by
   cases q:H p with
   |none=>rfl
   |some o=>exact absurd hp (ev1.live p (by rw[q];simp))
  have hpS:(upd H1 p (.lst ys)) p=some (.lst ys):=y6_
  refine k p ys G2 H2 evA hpn (fun z=>?_) hp2 (ev2.stay p (by rw[hpS];simp) no gp) r2
  rcases evO.sub p z with q|q
  ·exact no1 q
  ·rw[hpS]at q;cases q
 ·cases e4
end
def EAc(X:Cx)(B:OA)(n:Nat)(elt:Expr)(gens:List Comprehension)(scope:Scope)(pos:Pos)(d:Nat)(p:Addr)(a:Mo (List D)):Prop:=a1v X (a0G elt gens scope pos d (.ref p) X.env) (TAc X.K B n a p)
theorem b0g{X:Cx}{sem:Sem Unit}{t t':a0R}(h:a1v X sem t)(i:∀σ H Q,t' σ H Q->t σ H Q):a1v X sem t':=fun pins s σ H Q I q=>h pins s σ H Q I (i σ H Q q)
section
variable{X:Cx}{B:OA}{N':List Str}{scope scope0:Scope}{keep:List Bool}{more n d:Nat}{tg iter elt:Expr}{ifs:List Expr}{gens gs:List Comprehension}{g:OZ}{t:Mo Bool}{m:Mo D}{mi:Mo (List D)}{a:Mo (List D)}{pos:Pos}{s:Shared}{H:Hp}{fp:List Addr}{p:Addr}
theorem a6P(hn:gens[d+1]? =none)(he:ED (y1_ X N' scope0 s H fp) B elt m):EAc (y1_ X N' scope0 s H fp) B n elt gens scope pos d p (a0t m):=b0g (b5V (fun _ _ z=>z) hn he) b5Z
theorem b6b(hd:gens[d+1]? =some ⟨tg,iter,ifs,0⟩)(hc:X.calm=true)(hi:EI (y1_ X N' scope0 s H fp) B tg iter mi)(hg:EG (y1_ X N' scope0 s H fp) B n tg g)(ht:a0s (y1_ X N' scope0 s H fp) ifs (TTm X.K B t))
  (ha:EAc (y1_ X N' scope0 s H fp) B n elt gens scope pos (d+1) p a)(hs:∀x,foldedSetIterable iter (y1_ X N' scope0 s H fp).env x=pure x:=by intro _;rfl):
  EAc (y1_ X N' scope0 s H fp) B n elt gens scope pos d p (aIn mi g t a):=b0g (b5W (fun _ _ z=>z) hc hd hi hg ht ha hs) b6a
theorem b6c(ok:CompOk X N' scope keep more)(hc:X.calm=true)(hi:EI X B tg iter mi)(hg:∀s H fp,EG (y1_ X N' scope s H fp) B X.N.length tg g)(ht:∀s H fp,a0s (y1_ X N' scope s H fp) ifs (TTm X.K B t))
  (he:∀s H fp p,EAc (y1_ X N' scope s H fp) B X.N.length elt (⟨tg,iter,ifs,0⟩::gs) scope pos 0 p a)
  (hs:∀x,foldedSetIterable iter X.env x=pure x:=by intro _;rfl):EL X B (.ListComp elt (⟨tg,iter,ifs,0⟩::gs) scope pos) (a2t mi keep more g t a):=by
 intro pins s σ H Q I h;exact b5X (act:=TAc X.K B X.N.length a) ok hc hi hg ht (fun s H fp p=>he s H fp p) hs pins s σ H Q I (b0f ok.klen σ H Q I.len h)
end
section
variable{X:Cx}{B:OA}{pos:Pos}{o e:Expr}{ma mb:Mo D}
end
section
variable{X:Cx}{B:OA}{pos:Pos}
end
section
variable{prog:Program}{w:World}{A:Around}{E:OE}{s:Shared}{c1 c2:Bool}
end
section
variable{X:Cx}{pins:OX}{σ:St}{A:Around}{R:Result->Shared->Prop}{c1 c2:Bool}{n l1 l2 S:Addr}{xs ys:List V}
end
section
variable{X:Cx}{B:OA}{pos:Pos}{a b:Expr}{ms:Mo (List D)}
end
section
variable{X:Cx}{B:OA}
def b0h(K:Qq)(neg:Bool):R2:=fun x y H Q=>∃G a ds,Le G H/\Rep K G x a/\(Rep K G y (.lst ds)∨Rep K G y (.tup ds))/\shp a=true/\(toP a).depth≤60/\PyData.canLayAll0 (x5_ ds)=true/\
 Q (.bl (if neg then !((x5_ ds).any fun y=>PyData.eqv y (toP a))else(x5_ ds).any fun y=>PyData.eqv y (toP a))) H
theorem b6d(hu:X.A.units+64<cLine):OpR X (compareOp .NotIn) (b0h X.K true):=by
 intro pins s σ H x y v u Q I rx ry h;obtain⟨G,a,ds,l,ra,rb,ha,hd,hb,q⟩:=h;have hl:=Yo ha;obtain⟨as,h1⟩:=reads_of I l a x v hl rx ra;have hroom:X.A.units+1+min (PyData.depthAll (x5_ ds)) (toP a).depth<cLine:=by
  have:min (PyData.depthAll (x5_ ds)) (toP a).depth≤(toP a).depth:=Nat.min_le_right _ _
  omega
 rcases rb with rb|rb
 ·obtain⟨bs,h2⟩:=reads_of I l (.lst ds) y u (by show PyData.canLay0 (.list (x5_ ds))=true;simpa [PyData.canLay0]using hb) ry rb
  exact SeqAt.notIn_list_reads h2 h1 hb hl hroom ⟨.bl _,H,I,rfl,q⟩
 ·obtain⟨bs,h2⟩:=reads_of I l (.tup ds) y u (by show PyData.canLay0 (.tuple (x5_ ds))=true;simpa [PyData.canLay0]using hb) ry rb
  exact SeqAt.notIn_tuple_reads h2 h1 hb hl hroom ⟨.bl _,H,I,rfl,q⟩
def a3Q(neg:Bool):D->D->Option D:=fun a b=>(D.items b).bind fun ds=>if shp a&&decide ((toP a).depth≤60)&&PyData.canLayAll0 (x5_ ds)then
 some (.bl (if neg then !((x5_ ds).any fun y=>PyData.eqv y (toP a))else(x5_ ds).any fun y=>PyData.eqv y (toP a)))else none
theorem b6e{neg:Bool}:OpD X B (b0h X.K neg) (a3Q neg):=by
 intro G σ env H x y a b d Q rl ra rb e k;obtain⟨ds,e1,e2⟩:=z9_ e;split at e2
 ·rename_i h
  rw[Qw,Qw,Zy]at h;cases e2;refine⟨G,a,ds,rl.sub,ra,?_,h.1.1,h.1.2,h.2,k _ G H (.refl rl) (by simp only[Rep])⟩
  cases b<;>first|(exact absurd (show(none:Option (List D))=some ds from e1) (by simp))|skip
  ·cases e1;exact .inr rb
  ·cases e1;exact .inl rb
 ·cases e2
end
section
variable{prog:Program}{w:World}{A:Around}{E:OE}{s:Shared}
end
section
variable{X:Cx}{B:OA}{pos:Pos}{es:List Expr}{gs:List D->Env'->Option Env'}
end
def lkD:OI->List D->List Int->Option D
 |k'::ks,v::vs,k=>if k'=k then some v else lkD ks vs k
 |_,_,_=>none
def reD:OI->List D->List Int->D->List D
 |k'::ks,v::vs,k,d=>if k'=k then d::reD ks vs k d else v::reD ks vs k d
 |_,vs,_,_=>vs
def a0l:D->Option (List Int)
 |.tup ds=>ints? ds
 |_=>none
section
variable{K:Qq}{G:Hp}
theorem a6Q:∀ns:List Int,(k0_ ns).map kV=ns.map V.int
 |[]=>rfl
 |n::ns=>by show V.int n::(k0_ ns).map kV=_;rw[a6Q ns];rfl
theorem a6R:∀{a b:List Int},k0_ a=k0_ b->a=b
 |[],[],_=>rfl
 |[],_::_,e=>by simp[k0_]at e
 |_::_,[],e=>by simp[k0_]at e
 |x::a,y::b,e=>by
  simp only[k0_,Qh,Vm,Sum.inl.injEq]at e;rw[e.1,a6R e.2]
def a3d(K:Qq)(H:Hp)(b:Addr)(k:List Int):Prop:=H b=some (.tup ((k0_ k).map kV))∨k4_ K b (k0_ k)
theorem a3d.mono{H H':Hp}{b:Addr}{k:List Int}(l:Le H H')(h:a3d K H b k):a3d K H' b k:=h.imp (fun e=>l _ _ e) id
theorem a3R{v:V}{d:D}{k:List Int}(r:Rep K G v d)(h:a0l d=some k):∃b,v=.ref b/\a3d K G b k:=by
 cases d<;>first|(exact absurd (show(none:Option (List Int))=some k from h) (by simp))|skip
 rename_i ds;simp only[Rep]at r;obtain⟨a,xs,rfl,q,t⟩:=r;have hx:=a1d t (show ints? ds=some k from h)
 subst hx;refine⟨a,rfl,?_⟩
 rcases q with q|q
 ·exact .inl (by rw[a6Q];exact q)
 ·exact .inr (.inr (by rw[a6Q];exact q))
theorem a3S{P:Program}{w:World}{H:Hp}{h:Heap}{b:Addr}{k:List Key}(ok:HOk P w H h)(kin:K.In h)(e:H b=some (.tup (k.map kV))∨k4_ K b k):(tupleKind (u6_ P w)).is h k b:=by
 rcases e with e|e
 ·exact b4n ok e
 ·rcases e with e|⟨o,its,n,h1,h2,_,h3,_,h4⟩
  ·cases e
  ·exact⟨o,its,n,kin b o h1,h2,h3,a5X h4⟩
end
section
variable{X:Cx}{pins:OX}{σ:St}{H:Hp}{s:Shared}{a b:Addr}{A:Around}{E:OE}{kvs:List (List Key×V)}
theorem a3T(I:Inv X pins σ H s)(e:H a=some (.dT (k4_ X.K) kvs)):kvs.length≤sizeLine/\(a==sysModules)=false/\∃xs,KT (k4_ X.K) H kvs xs/\s.heap.DictOfH (tupleKind (u6_ X.prog X.w)) a xs:=by
 obtain⟨z,y,xs,r,o,es,ep,h1,h2,h3,h4,h5⟩:=(show x4_ X.prog X.w H s.heap a (.dT (k4_ X.K) kvs)from I.hok a _ e)
 refine⟨z,y,xs,r,o,es,ep,h1,h2,h3,h4,fun x hx=>?_,h5⟩
 have all:∀{l:List (List Key×V)}{m:List (List Key×Addr×Value)},KT (k4_ X.K) H l m->∀x∈m,(tupleKind (u6_ X.prog X.w)).is s.heap x.1 x.2.1:=by
  intro l m q
  induction q with
  |nil=>intro x hx;exact nomatch hx
  |@cons p q ps qs hq t ih=>
   intro x hx
   rcases Qn.mp hx with e|hx
   ·subst e
    exact a3S (K:=X.K) I.hok I.kIn (by rw[←hq.1];exact hq.2.1)
   ·exact ih x hx
 exact all r x hx
theorem b0i{v:V}{k:List Key}{Q:OE}(hu:A.units+1<cLine)(I:Inv X pins σ H s)(e:H a=some (.dT (k4_ X.K) kvs))(eb:H b=some (.tup (k.map kV))∨k4_ X.K b k)(l:a0A kvs k=some v)
  (h:∀w' s',Inv X pins σ H s'->q6_ v w'->Q w' s'):wpAny (model X.prog X.w) A (getItem (.ref a) (.ref b)) Q E s:=by
 obtain⟨z,hd,xs,rel,dd⟩:=a3T I e;obtain⟨w',hw,rw'⟩:=a0X.some_of (v:=v) (o:=(atKey xs k).map (·.2)) (by rw[←l];exact rel.val k)
 obtain⟨p,hp,hp2⟩:=Uj.mp hw;refine wpAny_getItem_heap (Us hu) (a3S (K:=X.K) I.hok I.kIn eb) dd hp ?_
 rw[hp2];exact h w' _ (I.tok _) rw'
theorem b6f{k:List Key}{Q:OE}(hu:A.units+1<cLine)(I:Inv X pins σ H s)(e:H a=some (.dT (k4_ X.K) kvs))(eb:H b=some (.tup (k.map kV))∨k4_ X.K b k)
  (h:∀s',Inv X pins σ H s'->Q (.bool (a0A kvs k).isSome) s'):wpAny (model X.prog X.w) A (compareOp .In (.ref b) (.ref a)) Q E s:=by
 obtain⟨z,hd,xs,rel,dd⟩:=a3T I e;refine wpAny_in_heap (Us hu) (a3S (K:=X.K) I.hok I.kIn eb) hd dd ?_
 have q:=(rel.val k).isSome_eq
 rw[Xw]at q;rw[←q];exact h _ (I.tok _)
theorem b6g{k:List Key}{Q:OE}(hu:A.units+1<cLine)(I:Inv X pins σ H s)(e:H a=some (.dT (k4_ X.K) kvs))(eb:H b=some (.tup (k.map kV))∨k4_ X.K b k)
  (h:∀s',Inv X pins σ H s'->Q (.bool (!(a0A kvs k).isSome)) s'):wpAny (model X.prog X.w) A (compareOp .NotIn (.ref b) (.ref a)) Q E s:=by
 obtain⟨z,hd,xs,rel,dd⟩:=a3T I e;refine wpAny_notIn_heap (Us hu) (a3S (K:=X.K) I.hok I.kIn eb) hd dd ?_
 have q:=(rel.val k).isSome_eq
 rw[Xw]at q;rw[←q];exact h _ (I.tok _)
theorem b6h{k:List Key}{v:V}{r:Value}{Q:Unit->Shared->Prop}(hu:A.units+1<cLine)(I:Inv X pins σ H s)(e:H a=some (.dT (k4_ X.K) kvs))(eb:H b=some (.tup (k.map kV))∨k4_ X.K b k)(l:kvs.length<sizeLine)(rv:q6_ v r)
  (h:∀s',Inv X pins σ (upd H a (.dT (k4_ X.K) (a1a kvs k v))) s'->Q () s'):wpAny (model X.prog X.w) A (setItem (.ref a) (.ref b) r) Q E s:=by
 obtain⟨z,hd,xs,rel,dd⟩:=a3T I e;have hz:xs.length≤sizeLine:=by rw[←Paired.length rel];exact z
 have hl:(a1a kvs k v).length≤sizeLine:=by have:=b4l kvs k v;omega
 refine wpAny_setItem_heap (hsz:=hz) (Us hu) (a3S (K:=X.K) I.hok I.kIn eb) dd fun h' dd' hs=>h _ ?_
 obtain⟨q,es,ep,hq,h2,h3,h4,_,h5⟩:=dd';refine b4o I (by rw[e];exact True.intro) hs ⟨q,hq⟩ ⟨hl,hd,_,(rel.put k eb rv).keeps fun c ys ec=>?_,q,es,ep,hq,h2,h3,h4,h5⟩
 rw[q8_ (b2q ec e (fun z=>nomatch z))]
 exact ec
theorem b0j(I:Inv X pins σ H s)(e:H a=some (.dT (k4_ X.K) kvs)):s.TypeIs (.ref a) "dict":=by
 obtain⟨_,_,xs,_,dd⟩:=a3T I e;exact dd.typeIs
end
section
variable{K:Qq}{G:Hp}
theorem a3e:∀{kvs:List (List Key×V)}{ks:OI}{vs:List D}(k:List Int),kvs.map (·.1)=ks.map k0_->z6_ K G (kvs.map (·.2)) vs->
  (∀d,lkD ks vs k=some d->∃v,a0A kvs (k0_ k)=some v/\Rep K G v d)/\((a0A kvs (k0_ k)).isSome=ks.contains k)
 |[],[],vs,k,_,r=>⟨fun d h=>by simp[lkD]at h,rfl⟩
 |[],_::_,_,_,e,_=>by simp at e
 |_::_,[],_,_,e,_=>by simp at e
 |p::kvs,k'::ks,[],k,e,r=>by have:=r.length;simp at this
 |p::kvs,k'::ks,d'::vs,k,e,r=>by
  simp only[Qh,Vm]at e;obtain⟨e1,e2⟩:=e;rw[Qh]at r;simp only[z6_]at r;obtain⟨x,t,z,r1,r2⟩:=r;cases z;obtain⟨h1,h2⟩:=a3e (ks:=ks) (vs:=vs) k e2 r2
  by_cases hk:k'=k
  ·subst hk
   refine⟨fun d h=>?_,?_⟩
   ·simp only[lkD,Zh,Zb]at h
    subst h;exact⟨p.2,a4u e1,r1⟩
   ·rw[a4u e1];simp
  ·have ne:¬ p.1=k0_ k:=fun z=>hk (a6R (e1.symm.trans z))
   refine⟨fun d h=>?_,?_⟩
   ·simp only[lkD,Qs hk]at h
    obtain⟨v,q1,q2⟩:=h1 d h;exact⟨v,by rw[a4v ne];exact q1,q2⟩
   ·have hb:(k==k')=false:=by simpa using fun z=>hk (Eq.symm z)
    rw[a4v ne,h2,Ji,hb,Xj]
theorem b0k:∀{kvs:List (List Key×V)}{ks:OI}{vs:List D}(k:List Int) {v:V}{d:D},kvs.map (·.1)=ks.map k0_->z6_ K G (kvs.map (·.2)) vs->Rep K G v d->
  (kvs.map fun kv=>if kv.1=k0_ k then(kv.1,v)else kv).map (·.1)=ks.map k0_/\z6_ K G ((kvs.map fun kv=>if kv.1=k0_ k then(kv.1,v)else kv).map (·.2)) (reD ks vs k d)
 |[],[],vs,k,v,d,_,r,_=>⟨rfl,by simpa [reD]using r⟩
 |[],_::_,_,_,_,_,e,_,_=>by simp at e
 |_::_,[],_,_,_,_,e,_,_=>by simp at e
 |p::kvs,k'::ks,[],k,v,d,e,r,_=>by have:=r.length;simp at this
 |p::kvs,k'::ks,d'::vs,k,v,d,e,r,rd=>by
  simp only[Qh,Vm]at e;obtain⟨e1,e2⟩:=e;rw[Qh]at r;simp only[z6_]at r;obtain⟨x,t,z,r1,r2⟩:=r;cases z;obtain⟨h1,h2⟩:=b0k (ks:=ks) (vs:=vs) k e2 r2 rd
  by_cases hk:k'=k
  ·subst hk
   simp only[Qh,Qc e1,reD,Zh];exact⟨by rw[e1,h1],repL_cons rd h2⟩
  ·have ne:¬ p.1=k0_ k:=fun z=>hk (a6R (e1.symm.trans z))
   simp only[Qh,Qs ne,reD,Qs hk];exact⟨by rw[e1,h1],repL_cons r1 h2⟩
def w8_(ks:OI)(k:List Int):OI:=if ks.contains k then ks else ks++[k]
def j5_(ks:OI)(vs:List D)(k:List Int)(d:D):List D:=if ks.contains k then reD ks vs k d else vs++[d]
theorem b6i{kvs:List (List Key×V)}{ks:OI}{vs:List D}(k:List Int){v:V}{d:D}(e:kvs.map (·.1)=ks.map k0_)(r:z6_ K G (kvs.map (·.2)) vs)(rd:Rep K G v d):
  (a1a kvs (k0_ k) v).map (·.1)=(w8_ ks k).map k0_/\z6_ K G ((a1a kvs (k0_ k) v).map (·.2)) (j5_ ks vs k d):=by
 have h:=(a3e (K:=K) (G:=G) k e r).2
 unfold a1a w8_ j5_;rw[a5W,h];cases ks.contains k with
 |true=>simp only[Zh];exact b0k k e r rd
 |false=>
  simp only[Zz,Yw,Uc,Qh,Vf];exact⟨by rw[e],r.append (repL_cons rd repL_nil)⟩
end
theorem b6j{P:Program}{w:World}{H:Hp}{C:Addr->List Key->Prop}(h:Heap)(hb:sysModules<h.objs.size):x4_ P w H (h.push {cls:=.type "dict",data:=.dict #[]}) h.objs.size (.dT C []):=
 ⟨Uz _,beq_eq_false_iff_ne.mpr (Zn (Qi hb)),[],.nil,_,#[],0,Qb _ rfl,⟨rfl,rfl,rfl⟩,rfl,rfl,List.nodup_nil⟩
def b6k(C:Addr->List Key->Prop):TE:=fun _ H Q=>∀p,H p=none->Q (.ref p) (upd H p (.dT C []))
section
variable{X:Cx}{B:OA}{pos:Pos}{a b e:Expr}{ma mb:Mo D}
theorem b6l{C:Addr->List Key->Prop}:PE X (.Dict [] [] pos) (b6k C):=fun pins s σ H Q I h=>
 wpAny_Dict_empty ⟨.ref s.heap.objs.size,_,I.laid (a:=s.heap.objs.size) (o:=.dT C []) (t':=s.toks) (fun _ _ q=>Qx _ q) (Qm _) (b6j s.heap I.big),rfl,h _ (I.hok.fresh (Qm _))⟩
def a6S(i:Nat):Mo Fl:=fun env=>some (.nx,env.set i (.ownD [] []))
theorem b0l{i:Nat}{x:Str}{pos' dpos:Pos}(hN:X.N.Nodup)(hi:X.N[i]? =some x)(hx:Loc X.env.scope x)(hs:swapsWith (.Dict [] [] dpos) (some (.Name x pos')) pos.line X.env=pure false:=by rfl)(hf:X.fn x=true∨X.env.scope.names.lookup x=some .local:=by first|exact .inl rfl|exact .inr rfl|assumption):
  ES X B (.Assign [.Name x pos'] (.Dict [] [] dpos) pos) (a6S i):=by
 refine ps_imp (a5K hN hi hx (b6l (C:=k4_ X.K)) hs hf) ?_
 rintro D σ H ⟨G,env,fl,env',rl,e,k⟩;cases e;intro p hp;have ev:=rl.allocM (o:=.dT (k4_ X.K) []) hp;exact k _ _ _ (ev.setOwnM (m:=.d [] []) (fun z=>rl.old p z hp) hp (rl.unowned hp) y6_ (rl.gnone hp) ⟨[],rfl,rfl,repL_nil⟩ rfl rfl)
def a5a(i:Nat)(mb:Mo D):Mo D:=fun env=>(mb env).bind fun p=>((p.2[i]?).bind W.mutD).bind fun q=>(a0l p.1).bind fun k=>(lkD q.1 q.2 k).map fun d=>(d,p.2)
theorem b0m{i:Nat}{x:Str}{p:Pos}(hu:X.A.units+64<cLine)(ha:PE X (.Name x p) (a0o i))(hb:ED X B b mb)(hs:a3v b)(hr:∀env d env' w ds,mb env=some (d,env')->env'[i]? =some w->w.mut=some ds->∃w0 ds0,env[i]? =some w0/\w0.mut=some ds0):
  ED X B (.Subscript (.Name x p) b pos) (a5a i mb):=by
 intro pins s σ H Q I h;obtain⟨G,env,d,env',rl,e,k⟩:=h;obtain⟨⟨d1,env1⟩,e1,e2⟩:=z9_ e;obtain⟨⟨ks,vs⟩,e3,e4⟩:=z9_ e2;obtain⟨w,e5,e6⟩:=z9_ e3;obtain⟨key,e7,e8⟩:=z9_ e4;obtain⟨d2,e9,e10⟩:=v5_ e8;cases e10;obtain⟨w0,m0,e11,e12⟩:=hr env d1 _ w (.d ks vs) e1 e5 (W.mutD_of e6);obtain⟨q,o,h1,_⟩:=rl.own i w0 m0 e11 e12;refine a8X PySem.F.slot_dict_getitem.lookup hs (thn (ha pins s σ H (fun v H1=>v=.ref q/\H1=H) I ⟨_,h1,rfl,rfl⟩) fun u s1 ⟨x,H1,I1,rx,z1,z2⟩=>?_)
 subst z1 z2;cases rx;refine thn (hb pins s1 σ H1 (fun v H2=>∃G2,Ev X.K B G σ env H1 G2 σ env1 H2/\Rep X.K G2 v d1) I1 ⟨G,env,d1,env1,rl,e1,fun v G2 H2 ev r=>⟨G2,ev,r⟩⟩) fun iv s2 ⟨y,H2,I2,ry,G2,ev,r⟩=>?_
 obtain⟨q',kvs,g1,g2,g3,g4,g5⟩:=ev.rel.ownD i w ks vs e5 e6;rw[h1]at g1;cases g1;obtain⟨b',rfl,kb⟩:=a3R r e7;cases ry;obtain⟨v,l1,l2⟩:=(a3e key g3 g4).1 _ e9;exact⟨b0j I2 g2,b0i (by omega) I2 g2 (kb.mono ev.rel.sub) l1 fun w' s3 I3 rw'=>⟨v,H2,I3,rw',k v G2 H2 ev l2⟩⟩
def a1w:D->D->Option D:=fun a b=>match a with
 |.dct ks vs=>(a0l b).bind fun k=>lkD ks vs k
 |_=>none
theorem b0n(hu:X.A.units+64<cLine)(ha:ED X B a ma)(hb:ED X B b mb)(hs:a3v b):ED X B (.Subscript a b pos) (z5_ a1w ma mb):=by
 intro pins s σ H Q I h;obtain⟨G,env,d,env',rl,e,k⟩:=h;obtain⟨⟨d0,env0⟩,e0,e⟩:=z9_ e;obtain⟨⟨d1,env1⟩,e1,e2⟩:=z9_ e;obtain⟨d2,e3,e4⟩:=v5_ e2;cases e4;unfold a1w at e3;dsimp only at e3;split at e3
 case h_2=>cases e3
 rename_i ks vs;obtain⟨key,e7,e9⟩:=z9_ e3;refine a8X PySem.F.slot_dict_getitem.lookup hs (thn (ha pins s σ H (fun v H1=>∃G1,Ev X.K B G σ env H G1 σ env0 H1/\Rep X.K G1 v (.dct ks vs)) I ⟨G,env,_,env0,rl,e0,fun v G1 H1 ev r=>⟨G1,ev,r⟩⟩) fun u s1 ⟨x,H1,I1,rx,G1,ev1,r1⟩=>?_)
 simp only[Rep]at r1;obtain⟨q,kvs,rfl,g2,g3,g4⟩:=r1;cases rx;refine thn (hb pins s1 σ H1 (fun v H2=>∃G2,Ev X.K B G1 σ env0 H1 G2 σ env1 H2/\Rep X.K G2 v d1) I1 ⟨G1,env0,d1,env1,ev1.rel,e1,fun v G2 H2 ev r=>⟨G2,ev,r⟩⟩) fun iv s2 ⟨y,H2,I2,ry,G2,ev2,r⟩=>?_
 obtain⟨b',rfl,kb⟩:=a3R r e7;cases ry;have hq:H2 q=some (.dT (k4_ X.K) kvs):=ev2.rel.sub _ _ (ev2.same _ _ g2);obtain⟨v,l1,l2⟩:=(a3e key g3 (z6_.mono ev2.same _ g4)).1 _ e9;exact⟨b0j I2 hq,b0i (by omega) I2 hq (kb.mono ev2.rel.sub) l1 fun w' s3 I3 rw'=>⟨v,H2,I3,rw',k v G2 H2 (ev1.trans ev2) l2⟩⟩
def a3f(neg:Bool)(i:Nat)(ma:Mo D):Mo D:=fun env=>(ma env).bind fun p=>((p.2[i]?).bind W.mutD).bind fun q=>(a0l p.1).map fun k=>(.bl (if neg then !q.1.contains k else q.1.contains k),p.2)
theorem b9t{i:Nat}{x:Str}{p:Pos}(hu:X.A.units+64<cLine)(ha:ED X B a ma)(hn:PE X (.Name x p) (a0o i)):PC X .In a (.Name x p) (TD X.K B (a3f false i ma)):=by
 intro pins s σ H Q I h;obtain⟨G,env,d,env',rl,e,k⟩:=h;obtain⟨⟨d1,env1⟩,e1,e2⟩:=z9_ e;obtain⟨⟨ks,vs⟩,e3,e4⟩:=z9_ e2;obtain⟨w,e5,e6⟩:=z9_ e3;obtain⟨key,e7,e8⟩:=v5_ e4;cases e8;refine thn (ha pins s σ H (fun v H1=>∃G1,Ev X.K B G σ env H G1 σ env1 H1/\Rep X.K G1 v d1) I ⟨G,env,d1,env1,rl,e1,fun v G2 H2 ev r=>⟨G2,ev,r⟩⟩) fun iv s1 ⟨y,H1,I1,ry,G1,ev,r⟩=>?_
 obtain⟨q,kvs,g1,g2,g3,g4,g5⟩:=ev.rel.ownD i w ks vs e5 e6;refine thn (hn pins s1 σ H1 (fun v H2=>v=.ref q/\H2=H1) I1 ⟨_,g1,rfl,rfl⟩) fun u s2 ⟨x,H2,I2,rx,z1,z2⟩=>?_
 subst z1 z2;cases rx;obtain⟨b',rfl,kb⟩:=a3R r e7;cases ry;exact b6f (by omega) I2 g2 (kb.mono ev.rel.sub) fun s3 I3=>⟨.bl _,H2,I3,rfl,k _ G1 H2 ev (by rw[(a3e key g3 g4).2];simp only[Rep];rfl)⟩
theorem b6m{i:Nat}{x:Str}{p:Pos}(hu:X.A.units+64<cLine)(ha:ED X B a ma)(hn:PE X (.Name x p) (a0o i)):PC X .NotIn a (.Name x p) (TD X.K B (a3f true i ma)):=by
 intro pins s σ H Q I h;obtain⟨G,env,d,env',rl,e,k⟩:=h;obtain⟨⟨d1,env1⟩,e1,e2⟩:=z9_ e;obtain⟨⟨ks,vs⟩,e3,e4⟩:=z9_ e2;obtain⟨w,e5,e6⟩:=z9_ e3;obtain⟨key,e7,e8⟩:=v5_ e4;cases e8;refine thn (ha pins s σ H (fun v H1=>∃G1,Ev X.K B G σ env H G1 σ env1 H1/\Rep X.K G1 v d1) I ⟨G,env,d1,env1,rl,e1,fun v G2 H2 ev r=>⟨G2,ev,r⟩⟩) fun iv s1 ⟨y,H1,I1,ry,G1,ev,r⟩=>?_
 obtain⟨q,kvs,g1,g2,g3,g4,g5⟩:=ev.rel.ownD i w ks vs e5 e6;refine thn (hn pins s1 σ H1 (fun v H2=>v=.ref q/\H2=H1) I1 ⟨_,g1,rfl,rfl⟩) fun u s2 ⟨x,H2,I2,rx,z1,z2⟩=>?_
 subst z1 z2;cases rx;obtain⟨b',rfl,kb⟩:=a3R r e7;cases ry;exact b6g (by omega) I2 g2 (kb.mono ev.rel.sub) fun s3 I3=>⟨.bl _,H2,I3,rfl,k _ G1 H2 ev (by rw[(a3e key g3 g4).2];simp only[Rep];rfl)⟩
theorem b6n{m:Mo D}(σ:St)(H:Hp)(Q:Bool->Hp->Prop)(h:TTm X.K B (mT m) σ H Q):tB (TD X.K B m) σ H Q:=by
 obtain⟨G,env,b,env',rl,e,k⟩:=h;unfold mT at e;obtain⟨⟨d,env1⟩,e1,e2⟩:=z9_ e;cases d<;>first|(exact absurd (show(none:Option (Bool×Env'))=some _ from e2) (by simp))|skip
 cases e2;exact⟨G,env,_,_,rl,e1,fun v G1 H1 ev r=>⟨_,by simpa only[Rep]using r,k G1 H1 ev⟩⟩
theorem b6o{i:Nat}{x:Str}{p:Pos}(hu:X.A.units+64<cLine)(ha:ED X B a ma)(hn:PE X (.Name x p) (a0o i))(hm:behindInMarks .NotIn (.Name x p)=false):ET X B (.Compare a [.NotIn] [.Name x p] pos) (mT (a3f true i ma)):=
 pt_imp (b2A (b6m hu ha hn) hm) b6n
def b6p(K:Qq):a4p:=fun o i v H Q=>∃a b kvs k,o=.ref a/\i=.ref b/\H a=some (.dT (k4_ K) kvs)/\a3d K H b k/\kvs.length<sizeLine/\Q (upd H a (.dT (k4_ K) (a1a kvs (k0_ k) v)))
theorem b6q(hu:X.A.units+64<cLine):a5H X (b6p X.K):=by
 intro pins s σ H o i v ov iv u Q I ro ri rv h;obtain⟨a,b,kvs,k,rfl,rfl,e,kb,hl,q⟩:=h;cases ro;cases ri;exact b6h (by omega) I e kb hl rv fun s' I'=>⟨_,I',q⟩
def gSD(s:Nat)(mi:Mo D):OZ:=fun d env=>((env[s]?).bind W.mutD).bind fun _=>(mi env).bind fun p=>(p.2[s]?).bind fun w=>w.mutD.bind fun q=>(a0l p.1).bind fun k=>
 if q.1.length<100000 then some (p.2.set s (w.putM (.d (w8_ q.1 k) (j5_ q.1 q.2 k d))))else none
theorem a6T{n s:Nat}{x:Str}{p:Pos}(hu:X.A.units+64<cLine)(ho:PE X (.Name x p) (a0o s))(hi:ED X B b mb)
  (ha:∀v,assign (.Subscript (.Name x p) b pos) X.env v=(do
   let ov←holding [v] (eval (.Name x p) X.env)
   let iv←holding [v,ov] (eval b X.env)
   standAt pos
   holding [v,ov,iv] (setItem ov iv v)
   release [v,ov,iv] []):=by intro _;rfl):EG X B n (.Subscript (.Name x p) b pos) (gSD s mb):=by
 refine a4I (a8r ho hi (b6q hu) ha) ?_
 rintro v σ H Q ⟨G,env,d,env',rl,r,e,k⟩;obtain⟨⟨ks0,vs0⟩,e0,e⟩:=z9_ e;obtain⟨w0,e00,em0⟩:=z9_ e0;obtain⟨⟨d1,env1⟩,e1,e2⟩:=z9_ e;obtain⟨w,e3,e4⟩:=z9_ e2;obtain⟨⟨ks,vs⟩,e5,e6⟩:=z9_ e4;obtain⟨key,e7,e8⟩:=z9_ e6;dsimp only at e8 e3;split at e8
 case isFalse=>cases e8
 rename_i hl;cases e8;obtain⟨q,kvs0,h1,_⟩:=rl.ownD s w0 ks0 vs0 e00 em0;refine⟨_,h1,.bind rl e1 fun iv G1 H1 ev r1=>?_⟩
 obtain⟨q',kvs,g1,g2,g3,g4,g5⟩:=ev.rel.ownD s w ks vs e3 e5;rw[h1]at g1;cases g1;obtain⟨b',rfl,kb⟩:=a3R r1 e7;obtain⟨p1,p2⟩:=b6i (K:=X.K) (G:=G1) key g3 g4 (Rep.mono ev.same _ r);have hz:kvs.length<sizeLine:=by
  have:=Yq List.length g3;rw[Qk,Qk]at this;rw[this];exact Uy hl (by decide)
 exact⟨q,b',kvs,key,rfl,rfl,g2,kb.mono ev.rel.sub,hz,k _ G1 _ (ev.writeM e3 (W.mutD_of e5) h1 ⟨_,rfl,p1,p2⟩) fun _ _=>rfl⟩
end
section
variable{X:Cx}{B:OA}{pos p:Pos}{e:Expr}{es:List Expr}{ma:Mo D}{ms:Mo (List D)}
end
section
variable{K:Qq}{B:OA}{G G1 G2:Hp}{σ:St}{env env1:Env'}{H H1 H2:Hp}{vs:List V}{ds:List D}{a:Addr}
end
section
variable{X:Cx}{B:OA}{pos p:Pos}{e:Expr}{es:List Expr}{ms:Mo (List D)}{fn:Fn}{k n:Nat}{x:Str}
end
def KpA(i:Nat)(m:Mo (List Ar)):Prop:=∀env d env' w ds,m env=some (d,env')->env'[i]? =some w->w.mut=some ds->∃w0 ds0,env[i]? =some w0/\w0.mut=some ds0
theorem b6r{i:Nat}:KpA i q2_:=fun env d env' w ds e h1 h2=>by cases e;exact⟨w,ds,h1,h2⟩
theorem b0o{i:Nat}{m:Mo D}{ms:Mo (List Ar)}(h:Kp i m)(t:KpA i ms):KpA i (z7_ m ms):=fun env d env' w ds e h1 h2=>by
 obtain⟨⟨d1,env1⟩,e1,e2⟩:=z9_ e;obtain⟨⟨d2,env2⟩,e3,e4⟩:=v5_ e2;cases e4;obtain⟨w1,m1,q1,q2⟩:=t env1 _ _ w ds e3 h1 h2;exact h env _ _ w1 m1 e1 q1 q2
theorem b6s{i n:Nat}{f:Fn}{as:Mo (List Ar)}(h:KpA i as):Kp i (mCD n f as):=fun env d env' w ds e h1 h2=>by
 obtain⟨⟨r,env1⟩,e1,e2⟩:=z9_ e;have e0:env1=env':=by
  cases r with
  |d d'=>cases e2;rfl
  |l _=>cases e2
 subst e0;obtain⟨⟨av,env2⟩,e3,e4⟩:=z9_ e1;dsimp only at e4;split at e4
 case isFalse=>cases e4
 split at e4
 ·obtain⟨q,e5,e6⟩:=v5_ e4
  cases e6;exact h env _ _ w ds e3 h1 h2
 ·rename_i j hs
  obtain⟨w0,e5,e6⟩:=z9_ e4;obtain⟨c,e7,e8⟩:=z9_ e6;obtain⟨q,e9,e10⟩:=z9_ e8;obtain⟨c',e11,e12⟩:=v5_ e10;cases e12
  rcases k6_ h1 with⟨z1,z2⟩|⟨z1,z2⟩
  ·subst z1
   exact h env _ _ w0 c e3 e5 e7
  ·exact h env _ _ w ds e3 z2 h2
 ·cases e4
section
variable{X:Cx}{B:OA}{pos p:Pos}{e:Expr}{vs:List Expr}{ma:Mo D}{ms:Mo (List D)}
end
section
variable{X:Cx}{N':List Str}{scope:Scope}{keep:List Bool}{more:Nat}{tg iter elt:Expr}{ifs:List Expr}{gs:List Comprehension}{g:TG}{tt:TT}{act:Addr->a0R}{pos:Pos}
theorem b6t{wi:TI}{i:Nat}{y:Str}{py spos:Pos}(ok:CompOk X N' scope keep more)(hc:X.calm=true)(hN:X.N.Nodup)(hy:X.N[i]? =some y)(hyl:X.env.scope.names.lookup y=some .local)
  (hsw:swapsWith (.ListComp elt (⟨tg,iter,ifs,0⟩::gs) scope pos) (some (.Name y py)) spos.line X.env=pure true)
  (hi:PI X tg iter wi)(hg:∀s H fp,PG (y1_ X N' scope s H fp) tg g)(ht:∀s H fp,a0s (y1_ X N' scope s H fp) ifs tt)(he:∀s H fp p,a1v (y1_ X N' scope s H fp) (a0G elt (⟨tg,iter,ifs,0⟩::gs) scope pos 0 (.ref p) (y1_ X N' scope s H fp).env) (act p))
  (hs:∀x,foldedSetIterable iter X.env x=pure x:=by intro _;rfl):PS X (.Assign [.Name y py] (.ListComp elt (⟨tg,iter,ifs,0⟩::gs) scope pos) spos) (a5J (a6O wi keep more g tt act) (a5I i)):=by
 intro pins s σ H D I h;rw[exec_Assign_Name_used _ _ _ _ hsw];refine Qz (Jn (Qz ?_));show wpAny _ X.A (do let _←comprehension (.ListComp elt (⟨tg,iter,ifs,0⟩::gs) scope pos) scope X.env _ (newList []) false (eval iter X.env) (some (assign (.Name y py) X.env))) _ _ s
 refine Qz (Zq (wpAny_comprehension_free (use:=some (assign (.Name y py) X.env)) (Q:=fun _ s'=>SP X pins D .next s') rfl hs ok.clos ok.kind (fun x hx hl=>by have:=ok.uniq x hx;rwa [hl]at this) (thn (hi pins s σ H _ I h) fun v s1 h1=>thn h1 fun itv s2 h2=>?_)) (fun _ s' hq=>Qv (Qv hq)) fun _ _ e=>e)
 obtain⟨it,fp,tn,J,H2,e,I2,T,st2,f2,run⟩:=h2;subst e;refine b0d (Qf:=fun p H'=>D.nx (σ.set i (some (.ref p))) H') (RR:=fun acc C=>compPost (model X.prog X.w) X.A X.xe (some (assign (.Name y py) X.env)) (fun _ s'=>SP X pins D .next s') acc C) ok hc hg ht he I2 T st2 f2 run ?_
 intro p C s' H' m IX qf hn hCL hCc hCn turn;refine wpAny_assign_Name (a8l (v:=.ref p) (u:=.ref p) IX hN hy (.inl hyl) rfl (fun s'' I'' hs''=>?_) (.inr hyl))
 obtain⟨a,hsb,ha⟩:=hs'';have hCa:C≠a:=by
  rcases ha with z|z
  ·rw[z];exact hCL
  ·exact fun q=>hCc y a z q.symm
 exact⟨m,hn.sameBut hsb hCa,fun h' hs'=>⟨_,H',turn _ H' s'' h' I'' hCn hs',qf⟩⟩
end
section
variable{X:Cx}{B:OA}{N':List Str}{scope scope0:Scope}{keep:List Bool}{more n d:Nat}{tg iter elt:Expr}{ifs:List Expr}{gens gs:List Comprehension}{g:OZ}{t:Mo Bool}{m:Mo D}{mi:Mo (List D)}{a:Mo (List D)}{pos:Pos}{s:Shared}{H:Hp}{fp:List Addr}{p:Addr}
theorem b0p{i:Nat}{y:Str}{py spos:Pos}(ok:CompOk X N' scope keep more)(hc:X.calm=true)(hN:X.N.Nodup)(hy:X.N[i]? =some y)(hyl:X.env.scope.names.lookup y=some .local)
  (hsw:swapsWith (.ListComp elt (⟨tg,iter,ifs,0⟩::gs) scope pos) (some (.Name y py)) spos.line X.env=pure true)
  (hi:EI X B tg iter mi)(hg:∀s H fp,EG (y1_ X N' scope s H fp) B X.N.length tg g)(ht:∀s H fp,a0s (y1_ X N' scope s H fp) ifs (TTm X.K B t))
  (he:∀s H fp p,EAc (y1_ X N' scope s H fp) B X.N.length elt (⟨tg,iter,ifs,0⟩::gs) scope pos 0 p a)
  (hs:∀x,foldedSetIterable iter X.env x=pure x:=by intro _;rfl):ES X B (.Assign [.Name y py] (.ListComp elt (⟨tg,iter,ifs,0⟩::gs) scope pos) spos) (w5_ i (a2t mi keep more g t a)):=by
 intro pins s σ H D I h;obtain⟨G,env,fl,env',rl,e,k⟩:=h;obtain⟨⟨d,env1⟩,e1,e2⟩:=v5_ e;cases e2;exact b6t (act:=TAc X.K B X.N.length a) ok hc hN hy hyl hsw hi hg ht (fun s H fp p=>he s H fp p) hs pins s σ H D I (b0f ok.klen σ H _ I.len ⟨G,env,d,_,rl,e1,fun a xs G' H' ev ha no h' g' r=>k _ G' H' (ev.setOwn (fun z=>rl.old a z ha) ha no h' g' r)⟩)
end
def W.view:W->Option D
 |.dat d=>some d
 |.own ds=>some (.lst ds)
 |.par ds=>some (.lst ds)
 |.ownD ks vs=>some (.dct ks vs)
 |.parD ks vs=>some (.dct ks vs)
 |.nil=>none
def D.flat:D->Bool
 |.non=>true
 |.bl _=>true
 |.int _=>true
 |.str _=>true
 |_=>false
def a3g(env:Env'):List Nat->Option (List D)
 |[]=>some []
 |i::is=>((env[i]?).bind W.view).bind fun d=>(a3g env is).map fun ds=>d::ds
def a3h(n:Nat)(f:Fn)(is:List Nat):Mo D:=fun env=>(a3g env is).bind fun ds=>if ds.length=n then(f (ds.map W.dat)).bind fun q=>match q.1 with
 |.d d=>if d.flat then some (d,env)else none
 |_=>none else none
inductive NamesAt (X:Cx):List Expr->List Nat->Prop
 |nil:NamesAt X [] []
 |cons {x:Str}{p:Pos}{i:Nat}{es:List Expr}{is:List Nat}:PE X (.Name x p) (a0o i)->NamesAt X es is->NamesAt X (.Name x p::es) (i::is)
def TVs(is:List Nat):TA:=fun σ H Q=>∃vs,Paired (fun i v=>σ[i]? =some (some v)) is vs/\Q vs H
theorem b0q{X:Cx}:∀{es:List Expr}{is:List Nat},NamesAt X es is->PA X es (TVs is)
 |_,_,.nil=>pa_imp a2I fun σ H Q ⟨vs,h,q⟩=>by cases h;exact q
 |_,_,.cons h t=>pa_imp (a0Y h (b0q t) rfl) fun σ H Q ⟨vs,h,q⟩=>by
  cases h with
  |cons h1 h2=>exact⟨_,h1,_,h2,q⟩
section
variable{K:Qq}{B:OA}{G:Hp}{σ:St}{env:Env'}{H:Hp}
open Classical in
noncomputable def a0u (G:Hp) (σ:St) (env:Env') (H:Hp):Hp:=fun b=>if Owned σ env b then H b else G b
theorem a6U(rl:Rel K B G σ env H):Le G (a0u G σ env H):=fun b o e=>by
 unfold a0u;split
 ·exact rl.sub b o e
 ·exact e
theorem b6u(rl:Rel K B G σ env H):Le (a0u G σ env H) H:=fun b o e=>by
 unfold a0u at e;split at e
 ·exact e
 ·exact rl.sub b o e
theorem b0r{b:Addr}(h:Owned σ env b):a0u G σ env H b=H b:=Qc h
theorem b6v(rl:Rel K B G σ env H){i:Nat}{v:V}{d:D}(hv:σ[i]? =some (some v))(h:((env[i]?).bind W.view)=some d):Rep K (a0u G σ env H) v d:=by
 obtain⟨w,e1,e2⟩:=z9_ h;have mutc:∀m,w.mut=some m->(∀G1 a o,G1 a=some o->RepM K G1 o m->Rep K G1 (.ref a) d)->Rep K (a0u G σ env H) v d:=fun m em hr=>by
  obtain⟨a,o,h1,h2,h3,h4⟩:=rl.own i w m e1 em;rw[hv]at h1;cases h1;exact hr _ a o (by rw[b0r ⟨i,w,m,e1,em,hv⟩];exact h2) (h3.mono (a6U rl))
 have hl:∀ds,d=.lst ds->∀G1 a o,G1 a=some o->RepM K G1 o (.l ds)->Rep K G1 (.ref a) d:=fun ds z G1 a o h ⟨xs,z2,q⟩=>by subst z z2;exact a5Z h q
 have hd:∀ks vs,d=.dct ks vs->∀G1 a o,G1 a=some o->RepM K G1 o (.d ks vs)->Rep K G1 (.ref a) d:=fun ks vs z G1 a o h ⟨kvs,z2,q1,q2⟩=>by subst z z2;simp only[Rep];exact⟨a,kvs,rfl,h,q1,q2⟩
 cases w with
 |nil=>cases e2
 |dat d'=>
  cases e2;obtain⟨v',q1,q2⟩:=rl.dat i d e1;rw[hv]at q1;cases q1;exact Rep.mono (a6U rl) d q2
 |own ds=>cases e2;exact mutc _ rfl (hl ds rfl)
 |par ds=>cases e2;exact mutc _ rfl (hl ds rfl)
 |ownD ks vs=>cases e2;exact mutc _ rfl (hd ks vs rfl)
 |parD ks vs=>cases e2;exact mutc _ rfl (hd ks vs rfl)
theorem b0s(rl:Rel K B G σ env H):∀{is:List Nat}{vs:List V}{ds:List D},Paired (fun i v=>σ[i]? =some (some v)) is vs->a3g env is=some ds->z6_ K (a0u G σ env H) vs ds
 |[],_,ds,.nil,e=>by cases e;exact repL_nil
 |i::is,_,ds,.cons h t,e=>by
  obtain⟨d,e1,e2⟩:=z9_ e;obtain⟨ds',e3,e4⟩:=v5_ e2;subst e4;exact repL_cons (b6v rl h e1) (b0s rl t e3)
theorem b6w{vs:List V}{ds:List D}{a:Addr}:¬ Owned (vs.map some) (ds.map W.dat) a:=by
 rintro⟨i,w,m,e1,e2,_⟩;rw[Zj]at e1;cases q:ds[i]? with
 |none=>rw[q]at e1;cases e1
 |some d=>rw[q]at e1;cases e1;cases e2
theorem b6x(rl:Rel K B G σ env H){vs:List V}{ds:List D}(r:z6_ K (a0u G σ env H) vs ds):Rel K j9_ (a0u G σ env H) (vs.map some) (ds.map W.dat) H:=by
 have no:∀(i:Nat) (w:W) (m:Mu),(ds.map W.dat)[i]? =some w->w.mut=some m->False:=fun i w m e1 e2=>by
  rw[Zj]at e1;cases q:ds[i]? with
  |none=>rw[q]at e1;cases e1
  |some d=>rw[q]at e1;cases e1;cases e2
 refine⟨b6u rl,by simp[r.length],fun i d e=>?_,fun i w m e1 e2=>(no i w m e1 e2).elim,fun i j w w' m m' a e1 e2=>(no i w m e1 e2).elim,fun i w a e1 eo _ h=>h,fun b h=>h.elim,rl.tabs,fun b o e=>?_⟩
 ·rw[Zj]at e
  cases q:ds[i]? with
  |none=>rw[q]at e;cases e
  |some d'=>
   rw[q]at e;cases e;obtain⟨v,g1,g2⟩:=r.get q;exact⟨v,by rw[Zj,g1];rfl,g2⟩
 ·unfold a0u at e
  split at e
  ·rename_i ow
   obtain⟨i,w,m,q1,q2,q3⟩:=ow;obtain⟨a,o',p1,p2,p3,_⟩:=rl.own i w m q1 q2;rw[q3]at p1;cases p1;rw[p2]at e;cases e;exact p3.nt
  ·exact rl.gnt b o e
theorem b6y(rl:Rel K B G σ env H){vs:List V}{ds:List D}{G2 H2:Hp}{ws':List W}(ev:Ev K j9_ (a0u G σ env H) (vs.map some) (ds.map W.dat) H G2 (vs.map some) ws' H2):Ev K B G σ env H G σ env H2:=by
 have le2:Le G H2:=((a6U rl).trans ev.same).trans ev.rel.sub
 refine⟨⟨le2,rl.len,rl.dat,fun i w m e1 e2=>?_,rl.inj,rl.fresh,fun b h=>ev.live b (rl.old b h),ev.rel.tabs,rl.gnt⟩,Le.refl,fun b o _ t e=>ev.keep b o b6w t e,ev.live,fun b _ _ g=>g,fun a z=>.inl z,fun i w e hp=>⟨rfl,w,e,hp⟩,rfl⟩
 obtain⟨a,o,h1,h2,h3,h4⟩:=rl.own i w m e1 e2;exact⟨a,o,h1,ev.rel.sub _ _ (ev.same _ _ (by rw[b0r ⟨i,w,m,e1,e2,h1⟩];exact h2)),h3,h4⟩
end
section
variable{X:Cx}{B:OA}{pos p:Pos}{e:Expr}{es:List Expr}{is:List Nat}{fn:Fn}{k n:Nat}{x:Str}
theorem b6z(D:Def X.prog X.w X.K X.mg X.base x k n fn)(hr:Room k X.A)(hg:Gl X x)(ha:NamesAt X (e::es) is)(hdb:(x==("__debug__":Str))=false:=by decide)
  (he:starEach (e::es) X.env=(false,eval e X.env)::starEach es X.env:=by rfl)(hpl:(backTo pos (starEach es X.env)).any (·.1)=false:=by rfl):
  ED X B (.Call (.Name x p) (e::es) [] pos) (a3h n fn is):=by
 obtain⟨f,fd,ps,F,rfl,hm,hk,hb⟩:=D.ex;refine pe_imp (a5R F hr hg hm hk hb .nil a5V (b0q ha) hdb he hpl) ?_
 rintro σ H Q ⟨G,env,d,env',rl,e,k⟩;obtain⟨ds,e1,e2⟩:=z9_ e;split at e2
 case isFalse=>cases e2
 rename_i hn;obtain⟨⟨r,ws'⟩,e3,e4⟩:=z9_ e2;cases r with
 |l _=>cases e4
 |d d'=>
  dsimp only at e4;split at e4
  case isFalse=>cases e4
  rename_i hf;cases e4;have hvs:∀(is:List Nat) (ds:List Mir.D),a3g env is=some ds->∃vs:List V,Paired (fun i v=>σ[i]? =some (some v)) is vs:=by
   intro is
   induction is with
   |nil=>intro ds _;exact⟨[],.nil⟩
   |cons i is ih=>
    intro ds h;obtain⟨d0,h1,h2⟩:=z9_ h;obtain⟨ds1,h3,h4⟩:=v5_ h2;obtain⟨w,w1,w2⟩:=z9_ h1;obtain⟨vs,hv⟩:=ih ds1 h3;have:∃v,σ[i]? =some (some v):=by
     cases w with
     |nil=>cases w2
     |dat d2=>obtain⟨v,q,_⟩:=rl.dat i _ w1;exact⟨v,q⟩
     |own ds2=>obtain⟨a,_,q,_⟩:=rl.own i _ _ w1 rfl;exact⟨_,q⟩
     |par ds2=>obtain⟨a,_,q,_⟩:=rl.own i _ _ w1 rfl;exact⟨_,q⟩
     |ownD _ _=>obtain⟨a,_,q,_⟩:=rl.own i _ _ w1 rfl;exact⟨_,q⟩
     |parD _ _=>obtain⟨a,_,q,_⟩:=rl.own i _ _ w1 rfl;exact⟨_,q⟩
    obtain⟨v,q⟩:=this;exact⟨v::vs,.cons q hv⟩
  obtain⟨vs,hv⟩:=hvs is ds e1;have rp:=b0s rl hv e1;refine⟨vs,hv,?_⟩;show SpF X.K ps.length fn (vs++[]) H Q _;rw[Yl];refine⟨a0u G σ env H,ds.map W.dat,.d d,ws',by simpa using hn,fun w hw=>?_,b6x rl rp,e3,fun v G2 H2 ev r2=>k v G H2 (b6y rl ev) ?_⟩
  ·obtain⟨d1,_,rfl⟩:=Qe.mp hw
   exact .inl ⟨d1,rfl⟩
  ·cases d<;>first|(simp only[Rep]at r2 ⊢;exact r2)|cases hf
end
end L2.Mir
namespace L2.Mir
open PySem PyProof PyProof.Rows L2
variable{X:Cx}{B:OA}
def a0H:OI->OI->Bool
 |[],[]=>false
 |[],_::_=>true
 |_::_,[]=>false
 |x::xs,y::ys=>if x=y then a0H xs ys else HT.lexLt x y
theorem b6A(x y:List Int)(xs ys:OI):a0H (x::xs) (y::ys)=if x=y then a0H xs ys else HT.lexLt x y:=rfl
inductive RowsAre (h:Heap):List Value->OI->Prop
 |nil:RowsAre h [] []
 |cons {a:Addr}{its:Array Value}{k:List Int}{vs:List Value}{ks:OI}(t:IsTup h a its) (i:IntsAre its.toList k) (r:RowsAre h vs ks):RowsAre h (.ref a::vs) (k::ks)
theorem RowsAre.length{h:Heap}{vs:List Value}{ks:OI}(r:RowsAre h vs ks):vs.length=ks.length:=by
 induction r with
 |nil=>rfl
 |cons _ _ _ ih=>simp[ih]
theorem a6V{h:Heap}:∀{vs:List Value}{ns:List Int},IntsAre vs ns->∃as,ReadsAll h vs (ns.map PyData.int) as
 |_,_,.nil=>⟨_,.nil⟩
 |_,_,.cons n t r=>by
  obtain⟨as,q⟩:=a6V (h:=h) r;exact⟨_,.cons (.int n t) q⟩
theorem a2u:∀ns:List Int,PyData.canLayAll0 (ns.map PyData.int)=true
 |[]=>rfl
 |n::ns=>by simp[PyData.canLayAll0,PyData.canLay0,a2u ns]
theorem b0t:∀ns:List Int,PyData.depthAll (ns.map PyData.int)≤1
 |[]=>by simp[PyData.depthAll]
 |n::ns=>by
  have:=b0t ns;simp only[Qh,PyData.depthAll,PyData.depth]
  omega
theorem b0u:∀l k:List Int,PyData.eqvAll (l.map PyData.int) (k.map PyData.int)=decide (l=k)
 |[],[]=>by simp[PyData.eqvAll]
 |[],_::_=>by simp[PyData.eqvAll]
 |_::_,[]=>by simp[PyData.eqvAll]
 |a::l,b::k=>by
  simp only[Qh,PyData.eqvAll,b0u l k,PyData.eqv]
  by_cases h:a=b<;>simp[h]
theorem b6B{A:Around}{s:Shared}{a b:Addr}{xs ys:Array Value}{l k:List Int}(ta:IsTup s.heap a xs)(ia:IntsAre xs.toList l)(tb:IsTup s.heap b ys)(ib:IntsAre ys.toList k)(hu:A.units+8<cLine):
  SeqAt.EqAt A s (.ref a) (.ref b) (decide (l=k)):=by
 obtain⟨o,h1,h2,n,h3⟩:=ta;obtain⟨o',g1,g2,n',g3⟩:=tb;obtain⟨as,ra⟩:=a6V (h:=s.heap) ia;obtain⟨bs,rb⟩:=a6V (h:=s.heap) ib;have c1:(PyData.tuple (l.map .int)).canLay0=true:=by simpa [PyData.canLay0]using a2u l
 have c2:(PyData.tuple (k.map .int)).canLay0=true:=by simpa [PyData.canLay0]using a2u k
 have d1:(PyData.tuple (l.map .int)).depth≤2:=by
  have:=b0t l;simp only[PyData.depth];omega
 have:=SeqAt.eqAt_reads (.tuple (l.map .int)) (.tuple (k.map .int)) A s (.ref a) (.ref b) _ _ (.tuple h1 h2 h3 ra) (.tuple g1 g2 g3 rb) c1 c2 (by
  have:min (PyData.tuple (l.map .int)).depth (PyData.tuple (k.map .int)).depth≤(PyData.tuple (l.map .int)).depth:=Nat.min_le_left _ _
  omega)
 have e:PyData.eqv (.tuple (l.map .int)) (.tuple (k.map .int))=decide (l=k):=by
  rw[←b0u l k];simp[PyData.eqv]
 rw[e]at this;exact this
section
open PySem.SeqAt
open PySem.AutoSeq1 (wpAny_loadPart')
open PySem.MeetsSeq PySem.MeetsSeq2 PySem.MeetsSeq3
theorem b6C(l b:Addr)(items items2:Array Value)(n n2:Nat)(dd dd2:Option Addr)(sl sl2:Array (Option Value))(ns ms:OI):
  Meets (Builtin.«tuple.__lt__» ⟨[.ref l,.ref b],[]⟩)
   (fun A R s=>A.units+16<cLine/\RowsAre s.heap items.toList ns/\RowsAre s.heap items2.toList ms/\s.heap.get? l=some {cls:=.type "tuple",dict:=dd,data:=.seq items n,slots:=sl}/\s.heap.get? b=some {cls:=.type "tuple",dict:=dd2,data:=.seq items2 n2,slots:=sl2}/\
    R (.ok (.ret (.bool (a0H ns ms)))) s):=
 .of_wp fun prog w A R s h=>by
  obtain⟨hp,g,d,tk,os⟩:=s;obtain⟨hu,hi,hj,hl,hb,h⟩:=h;have f2:=AutoSeq1.sub_tuple_tuple;have z1:items.size=ns.length:=by rw[←hi.length];simp
  have z2:items2.size=ms.length:=by rw[←hj.length];simp
  wp_walk using Zc hl,Zc hb,wpAny_forIn_list _ (fun rest b s'=>b.1=none/\s'=⟨hp,g,d,tk,os⟩/\∃(vs ws:List Value) (ns' ms':OI),rest=vs.zip ws/\
   RowsAre hp vs ns'/\RowsAre hp ws ms'/\ns'.length+items2.size=ms'.length+items.size/\R (.ok (.ret (.bool (a0H ns' ms')))) ⟨hp,g,d,tk,os⟩) _
  case turn=>
   rintro⟨y,x⟩ rest b s' ⟨hb',rfl,vs,ws,ns',ms',hz,hvi,hwi,hlen,hR⟩;cases hvi with
   |nil=>rw[List.zip_nil_left]at hz;cases hz
   |@cons a its k vs ks ta ia hvi'=>
    cases hwi with
    |nil=>rw[List.zip_nil_right]at hz;cases hz
    |@cons a' its' k' ws ks' tb ib hwi'=>
     rw[Jr]at hz;injection hz with hyx hrest
     injection hyx with hy hx
     subst hy hx;rw[b6A]at hR;simp only[Zp]at hlen;have he:=b6B (A:=A.in1) (s:=⟨hp,g,d,tk,os⟩) ta ia tb ib (by show A.units+1+8<cLine;omega)
     refine Qz (he prog w _ _ ?_)
     by_cases e:k=k'
     ·rw[Qc e]at hR
      rw[Zs e]
      wp_walk
      exact⟨rfl,rfl,_,_,_,_,hrest,hvi',hwi',by omega,hR⟩
     ·rw[Qs e]at hR
      rw[Qr e];have hri:∀(E:OE) (Q:OE),Q (.bool (HT.lexLt k k')) ⟨hp,g,d,tk,os⟩->wpAny (model prog w) A.in1 (richCompare .Lt (.ref a) (.ref a')) Q E ⟨hp,g,d,tk,os⟩:=fun E Q hq=>
       (HT.lt_tupInts ta tb ia ib (by show A.units+1<cLine;omega) hq:wpAny (model prog w) A.in1 (compareOp .Lt (.ref a) (.ref a')) Q E ⟨hp,g,d,tk,os⟩)
      wp_walk using hri
      exact⟨_,rfl,by simpa using hR⟩
  case fin=>
   rintro⟨b1,b2⟩ s' ⟨hb',rfl,vs,ws,ns',ms',hz,hvi,hwi,hlen,hR⟩;simp only at hb';subst hb';have hv:a0H ns' ms'=decide (items.size<items2.size):=by
    cases hvi with
    |nil=>
     cases hwi with
     |nil=>
      simp only[Jj]at hlen;show false=_;exact(Qr (by omega)).symm
     |cons _ _ hw=>
      simp only[Jj,Zp]at hlen;show true=_;exact(Zs (by omega)).symm
    |cons _ _ hv=>
     cases hwi with
     |nil=>
      simp only[Jj,Zp]at hlen;show false=_;exact(Qr (by omega)).symm
     |cons _ _ hw=>
      rw[Jr]at hz;cases hz
   rw[hv]at hR
   wp_walk
   exact⟨_,rfl,by simpa [Builtin.Tuple.tupleCompareSizes]using hR⟩
  case h=>
   exact⟨rfl,rfl,items.toList,items2.toList,ns,ms,rfl,hi,hj,by omega,h⟩
end
section
variable{prog:Program}{w:World}{A:Around}{E:OE}{s:Shared}
theorem b6D{l b:Addr}{items items2:Array Value}{ns ms:OI}{Q:OE}(hl:IsTup s.heap l items)(hb:IsTup s.heap b items2)(hi:RowsAre s.heap items.toList ns)(hj:RowsAre s.heap items2.toList ms)
  (hu:A.units+64<cLine)(h:Q (.bool (a0H ns ms)) s):wpAny (model prog w) A (compareOp .Lt (.ref l) (.ref b)) Q E s:=by
 obtain⟨⟨cls,dd,data,sl⟩,ho,hc,n,hd⟩:=id hl;obtain⟨⟨cls2,dd2,data2,sl2⟩,ho2,hc2,n2,hd2⟩:=id hb;simp only at hc hd hc2 hd2;subst hc hd hc2 hd2;exact richCompare_meets_room (op:=.Lt) ⟨_,ho,rfl⟩ ⟨_,ho2,rfl⟩ PySem.F.slot_tuple_lt PySem.F.entry_tuple_lt (PySem.F.args_tuple_lt_2 _ _) (b6C l b items items2 n n2 dd dd2 sl sl2 ns ms)
  ⟨by omega,hi,hj,ho,ho2,show Value.bool (a0H ns ms)≠Value.notImplemented/\Q (.bool (a0H ns ms)) s from⟨(fun x=>nomatch x),h⟩⟩ (by omega)
end
def rows?:List D->Option (OI)
 |[]=>some []
 |.tup x::r=>(ints? x).bind fun a=>(rows? r).map fun l=>a::l
 |_::_=>none
section
variable{X:Cx}{B:OA}{pins:OX}{σ:St}{G H:Hp}{s:Shared}
theorem a5b(I:Inv X pins σ H s)(l:Le G H):∀{ds:List D}{xs:List V}{us:List Value}{ks:OI},q3_ xs us->z6_ X.K G xs ds->rows? ds=some ks->RowsAre s.heap us ks
 |[],_,_,_,v,r,e=>by
  simp only[z6_]at r;subst r;cases v;cases e;exact .nil
 |d::ds,_,_,ks,v,r,e=>by
  simp only[z6_]at r;obtain⟨x,t,rfl,q,r⟩:=r;cases d<;>first|(exact absurd (show(none:Option (OI))=some ks from e) (by simp))|skip
  rename_i es;obtain⟨k,e1,e2⟩:=z9_ (show(ints? es).bind _=some ks from e)
  obtain⟨l',e3,e4⟩:=v5_ e2;subst e4;simp only[Rep]at q;obtain⟨a,ys,rfl,hq,rp⟩:=q;have hy:=a1d rp e1;subst hy;cases v with
  |cons v1 v2=>
   cases v1;obtain⟨its,rv,p1,_⟩:=I.tuple (l.sqT hq);exact .cons p1 (by simpa using a2e rv) (a5b I l v2 r e3)
def a5c(K:Qq):R2:=fun x y H Q=>∃G as bs ns ms,Le G H/\Rep K G x (.tup as)/\Rep K G y (.tup bs)/\rows? as=some ns/\rows? bs=some ms/\Q (.bl (a0H ns ms)) H
theorem b6E(hu:X.A.units+64<cLine):OpR X (compareOp .Lt) (a5c X.K):=by
 intro pins s σ H x y v u Q I rx ry h;obtain⟨G,as,bs,ns,ms,l,ra,rb,ha,hb,q⟩:=h;simp only[Rep]at ra rb;obtain⟨a,xs,rfl,qa,pa⟩:=ra;obtain⟨b,ys,rfl,qb,pb⟩:=rb;cases rx;cases ry;obtain⟨its,r1,p1,_⟩:=I.tuple (l.sqT qa);obtain⟨its2,r2,p2,_⟩:=I.tuple (l.sqT qb);exact b6D p1 p2 (by simpa using a5b I l r1 pa ha) (by simpa using a5b I l r2 pb hb) hu ⟨.bl (a0H ns ms),H,I,rfl,q⟩
def b0v:D->D->Option D
 |.tup as,.tup bs=>(ints? as).bind fun ns=>(ints? bs).map fun ms=>.bl (HT.lexLt ns ms)
 |_,_=>none
def b0w:D->D->Option D
 |.tup as,.tup bs=>(rows? as).bind fun ns=>(rows? bs).map fun ms=>.bl (a0H ns ms)
 |_,_=>none
def a3i:=fOr dLt (fOr b0v b0w)
theorem b6F:OpD X B (a4s X.K) b0v:=by
 intro G σ env H x y a b d Q rl ra rb e k;cases a<;>cases b<;>first|(exact absurd (show(none:Option D)=some d from e) (by simp))|skip
 rename_i as bs;obtain⟨ns,e1,e2⟩:=z9_ (show(ints? as).bind _=some d from e)
 obtain⟨ms,e3,e4⟩:=v5_ e2;subst e4;simp only[Rep]at ra rb;obtain⟨p,xs,rfl,qa,pa⟩:=ra;obtain⟨p',ys,rfl,qb,pb⟩:=rb;have hx:=a1d pa e1;have hy:=a1d pb e3;subst hx hy;exact⟨p,p',ns,ms,rfl,rfl,rl.sub.sqT qa,rl.sub.sqT qb,k _ G H (.refl rl) (by simp only[Rep])⟩
theorem b6G:OpD X B (a5c X.K) b0w:=by
 intro G σ env H x y a b d Q rl ra rb e k;cases a<;>cases b<;>first|(exact absurd (show(none:Option D)=some d from e) (by simp))|skip
 rename_i as bs;obtain⟨ns,e1,e2⟩:=z9_ (show(rows? as).bind _=some d from e)
 obtain⟨ms,e3,e4⟩:=v5_ e2;subst e4;exact⟨G,as,bs,ns,ms,rl.sub,ra,rb,e1,e3,k _ G H (.refl rl) (by simp only[Rep])⟩
theorem b6H(hu:X.A.units+64<cLine):OpR X (compareOp .Lt) (fun x y H Q=>rI0 (fun i j=>.bl (decide (i<j))) x y H Q∨(a4s X.K x y H Q∨a5c X.K x y H Q)):=OpR.or a5P (OpR.or (b3W (by omega)) (b6E hu))
theorem b6I:OpD X B (fun x y H Q=>rI0 (fun i j=>.bl (decide (i<j))) x y H Q∨(a4s X.K x y H Q∨a5c X.K x y H Q)) a3i:=a6b.or (b6F.or b6G)
end
def a6W(i j:Int):Prop:=0<j/\Builtin.divisionGoesByPylong i j=false
def a3U(i j:Int):Bool:=decide (0<j)&&!Builtin.divisionGoesByPylong i j
def a3j:=fI a3U fun i j=>.int (i/j)
theorem a5d{X:Cx}:OpR X (binaryOp .FloorDiv) (rI a6W fun i j=>.int (i/j)):=opI fun i j _ _ _ _ _ hc q=>by
 have h1:(0:Int)<j:=hc.1
 exact floordiv_int (by omega) (by rw[Int.fdiv_eq_ediv_of_nonneg i (by omega)];exact q) (.inl hc.2)
theorem a5e{X:Cx}{B:OA}:OpD X B (rI a6W fun i j=>.int (i/j)) a3j:=a3y (fun i j h=>by simpa [a6W,a3U]using h) fun _ _ _ _=>by simp only[Rep]
section
variable{X:Cx}{B:OA}{e st:Expr}{ma:Mo D}{pos p2:Pos}
end
section
variable{prog:Program}{w:World}{A:Around}{E:OE}{s:Shared}
theorem b6J{p:Addr}{its:List Value}{ns:List Int}{Q:OE}(hh:A.handled=none)(hl:IsTup s.heap p its.toArray)(hi:IntsAre its ns)
  (q:∀h' tk t',(∀b o,s.heap.get? b=some o->h'.get? b=some o)->Q (.int ns.sum t') {s with heap:=h',toks:=tk}):wpAny (model prog w) A (call (.builtin "sum") [.ref p]) Q E s:=by
 have hl:s.heap.IsTuple p its.toArray:=hl
 have hlt:p<s.heap.objs.size:=by obtain⟨_,e,_⟩:=hl;exact Qu e
 refine call_sum_walkG (Js hl ?_);refine⟨s.heap.objs.size,[s.heap.objs.size,p],[s.heap.objs.size],its.toArray.size,_,_,fun i=>ns.getD i 0,rfl,Walks.tuple (A:=A.in1) hh _ p (Qi hlt) its.toArray,
  ⟨⟨_,Qb _ rfl,rfl,rfl⟩,hl.push _⟩,fun b hb=>?_,fun i v hP=>a3a hi i v (by simpa using hP),fun h' tk t' hk'=>?_⟩
 ·have hs:=Qu (Qb s.heap (o:={cls:=.type "tuple_iterator",data:=.fields #[.ref p,.int 0 0]}) rfl)
  rcases Qn.mp hb with rfl|hb
  ·exact hs
  ·rcases Qn.mp hb with rfl|hb
   ·exact Uy hlt hs
   ·cases hb
 ·rw[Qp,hi.length,Ur,Vx (Qm _)]
  exact q h' tk t' (Vk hk')
variable{h₀:Heap}{L kS D:Addr}{m:OU}{news0:OX}{e1:Nat}{Fin:List Value->Nat->Shared->Prop}
theorem b0x{n:Int}{t:Tok}:∀{vs:List Value}{ns:List Int},IntsAre vs ns->IntsAre (vs++[.int n t]) (ns++[n])
 |_,_,.nil=>.cons n t .nil
 |_,_,.cons a u r=>.cons a u (b0x r)
end
section
variable{X:Cx}{pins:OX}{σ:St}{H:Hp}{s:Shared}
def a6X:List (Str×Value):=[(Str.ofString "key",.builtin "sum"),(Str.ofString "reverse",.bool true)]
end
section
variable{X:Cx}{B:OA}{e:Expr}{ma:Mo D}{p p1 kp1 kp2 pos:Pos}{j:Nat}{p2:Pos}
end
section
open PySem.SeqAt
open PySem.AutoSeq1 (wpAny_loadPart')
open PySem.MeetsSeq PySem.MeetsSeq2 PySem.MeetsSeq3
end
section
variable{X:Cx}{B:OA}{pos:Pos}{o e:Expr}{ma mb:Mo D}
end
section
variable{K:Qq}{B:OA}{H0 G G':Hp}{σ σ':St}{env env':Env'}{H H':Hp}{r:Nat}
end
section
variable(K:Qq)(B:OA)(r:Nat)
end
section
variable{X:Cx}{B:OA}{r:Nat}{e a b:Expr}{pos:Pos}{st:Stmt}{rest:List Stmt}
end
section
variable{X:Cx}{B:OA}{r:Nat}{e a b tg:Expr}{pos:Pos}{st:Stmt}{rest:List Stmt}
end
mutual
def D.lf:D->Bool
 |.non=>true
 |.bl _=>true
 |.int _=>true
 |.str _=>true
 |.tup ds=>lfL ds
 |_=>false
def lfL:List D->Bool
 |[]=>true
 |d::ds=>d.lf&&lfL ds
end
section
variable{K:Qq}{G G':Hp}
mutual
theorem rep_lf(h:∀b xs,G b=some (.tup xs)->G' b=some (.tup xs)):∀(d:D) {v:V},d.lf=true->Rep K G v d->Rep K G' v d
 |.non,v,_,r=>by simpa only[Rep]using r
 |.bl b,v,_,r=>by simpa only[Rep]using r
 |.int i,v,_,r=>by simpa only[Rep]using r
 |.str x,v,_,r=>by simpa only[Rep]using r
 |.tup ds,v,l,r=>by
  simp only[Rep]at r ⊢;obtain⟨a,xs,e,q,t⟩:=r;exact⟨a,xs,e,q.imp (fun e=>h _ _ e) id,repL_lf h ds (by simpa only[D.lf]using l) t⟩
 |.lst ds,v,l,r=>by simp[D.lf]at l
 |.emp,v,l,r=>by simp[D.lf]at l
 |.obj o,v,l,r=>by simp[D.lf]at l
 |.dct _ _,v,l,r=>by simp[D.lf]at l
theorem repL_lf(h:∀b xs,G b=some (.tup xs)->G' b=some (.tup xs)):∀(ds:List D) {xs:List V},lfL ds=true->z6_ K G xs ds->z6_ K G' xs ds
 |[],_,_,r=>by simpa only[z6_]using r
 |d::ds,_,l,r=>by
  simp only[z6_]at r ⊢;obtain⟨x,t,e,q,u⟩:=r;have l':d.lf=true/\lfL ds=true:=by simpa only[lfL,Qw]using l
  exact⟨x,t,e,rep_lf h d l'.1 q,repL_lf h ds l'.2 u⟩
end
end
section
variable{K:Qq}{B:OA}{H0 G:Hp}{σ:St}{env:Env'}{H:Hp}
end
section
variable{X:Cx}{B:OA}{r:Nat}{pos p px:Pos}{fn:Fn}{k n:Nat}{x y:Str}
end
section
variable{K:Qq}{B:OA}{G G1:Hp}{σ σ1:St}{env env1:Env'}{H H1:Hp}
end
section
variable{X:Cx}{B:OA}{r:Nat}{N':List Str}{scope:Scope}{keep:List Bool}{more:Nat}{tg iter elt:Expr}{g:OZ}{ml mi:Mo (List D)}{pos:Pos}
end
section
variable{X:Cx}{B:OA}{e:Expr}{ma:Mo D}{pos p2:Pos}
end
open PySem.W Builtin Builtin.ObjectAttr Builtin.Getset_descriptor PySem.Calls
theorem fl1:typeLookup (.type "function") "__getattribute__"=pure (some (.builtin "object.__getattribute__")):=by rfl
theorem fl5:getOf (some (.builtin "object.__class__"))=pure (some (.builtin "getset_descriptor.__get__")):=by rfl
section
variable{prog:Program}{w:World}{A:Around}{E:OE}{x:Addr}{h:Heap}{g:Array GenState}{d:Drawn}{t:Nat}{os:OsState}
end
section
variable{X:Cx}{B:OA}{e:Expr}{es:List Expr}{p pos:Pos}{y:Str}{i k n:Nat}{as:Mo (List Ar)}
end
section
variable{prog:Program}{w:World}{A:Around}{E:OE}{s:Shared}
end
inductive PairsAt (K:Qq) (G:Hp):List V->List (List Int×V)->Prop
 |nil:PairsAt K G [] []
 |cons {q b:Addr}{k:List Int}{v:V}{xs:List V}{ps:List (List Int×V)}:SqU K G q [.ref b,v]->a3d K G b k->PairsAt K G xs ps->PairsAt K G (.ref q::xs) ((k,v)::ps)
section
variable{X:Cx}{pins:OX}{σ:St}{A:Around}{R:Result->Shared->Prop}{l it d:Addr}{xs:List V}{G:Hp}
end
section
variable{X:Cx}{B:OA}
end
end L2.Mir
namespace L2.Mir
open PySem PySem.Spec PyProof.Rows PySem.W
structure DefT(P:Program)(w:World)(K:Frag)(mg:OU)(base:Heap)(x:Str)(k n:Nat)(fn:Fn)(ts:List Addr):Prop where
 ex:∃(f:Addr) (fd:FuncData) (ps:List Str),FnOk P w K mg base CX0 k f fd ps (SpT K ts n fn)/\ps.length=n/\mg x=some (.ref f)/\keepIn K (.ref f)=true/\a0e K fd ps []
section
variable{X:Cx}{B:OA}{pos p:Pos}{e:Expr}{es:List Expr}{as:Mo (List Ar)}{fn:Fn}{k n:Nat}{x:Str}{ts:List Addr}{f:Addr}{fd:FuncData}{ps:List Str}{t:TA}{E:XK}
end
theorem k9_{N P:List Str}{sc:Scope}(a:sc.kind=.function:=by rfl)(b:sc.isCoroutine=false:=by rfl)(c:sc.isGenerator=false:=by rfl)(d:N.Nodup:=by decide+kernel)(e:N.take P.length=P:=by rfl)(f:∀x∈P,sc.names.lookup x=some .local∨sc.names.lookup x=some .cell:=by decide+kernel)(g:∀y∈sc.names,y.2≠.free:=by decide+kernel):FnScope N P sc:=⟨a,b,c,d,e,f,g⟩
theorem us1{α:Type}{M:List α->Prop}(h:∀a,M [a]):∀us:List α,us.length=1->M us
 |[a],_=>h a
theorem us2{α:Type}{M:List α->Prop}(h:∀a b,M [a,b]):∀us:List α,us.length=2->M us
 |[a,b],_=>h a b
theorem us3{α:Type}{M:List α->Prop}(h:∀a b c,M [a,b,c]):∀us:List α,us.length=3->M us
 |[a,b,c],_=>h a b c
theorem us4{α:Type}{M:List α->Prop}(h:∀a b c d,M [a,b,c,d]):∀us:List α,us.length=4->M us
 |[a,b,c,d],_=>h a b c d
section
variable{X:Cx}{B:OA}{pos:Pos}{o e:Expr}{ma mb:Mo D}
end
section
variable{X:Cx}{B:OA}{pos:Pos}{o e:Expr}{ma mb:Mo D}
end
section
variable{X:Cx}{B:OA}{tg e:Expr}{ma:Mo D}
end
section
variable{X:Cx}{B:OA}{pos:Pos}{e e2:Expr}{ma mb:Mo D}
end
def lkK:List (Key×Key)->Key->Option Key
 |[],_=>none
 |p::l,k=>if p.1=k then some p.2 else lkK l k
structure DkG(P:Program)(w:World)(K:Qq)(mg:OU)(x:Str)(kvs:List (Key×Key)):Prop where
 ex:∃a,mg x=some (.ref a)/\(a==sysModules)=false/\∀h:Heap,K.In h->(∃o,h.get? a=some o/\o.cls=.type "dict")/\∃g:Key->Option Value,h.MapOf (u6_ P w) a g/\∀k,a0X ((lkK kvs k).map kV) (g k)
section
variable{X:Cx}{B:OA}{pos:Pos}{a b:Expr}{ma mb:Mo D}{kvs:List (Key×Key)}
end
section
variable{X:Cx}{B:OA}{pos:Pos}{k1 k2 k3 v1 v2 v3:Expr}{a1 a2 a3 b1 b2 b3:Key}
end
inductive Ents (P:Program) (w:World):List DictEntry->List (Key×Key)->Prop
 |nil:Ents P w [] []
 |cons {e:DictEntry}{p:Key×Key}{es:List DictEntry}{kvs:List (Key×Key)}:q6_ (kV p.1) e.key->e.hash=(u6_ P w).hash p.1->q6_ (kV p.2) e.val->Ents P w es kvs->Ents P w (e::es) (p::kvs)
section
variable{X:Cx}{B:OA}{a b e st:Expr}{ma mb:Mo D}{pos p2:Pos}
end
def lkF:List (Str×Str)->Key->Option Str
 |[],_=>none
 |p::l,k=>if(.inr p.1:Key)=k then some p.2 else lkF l k
def b6K(mg:OU):Option Str->Option Value->Prop
 |none,o=>o=none
 |some n,o=>∃f,mg n=some (.ref f)/\o=some (.ref f)
structure DfG(P:Program)(w:World)(K:Qq)(mg:OU)(x:Str)(kvs:List (Str×Str)):Prop where
 ex:∃a,mg x=some (.ref a)/\(a==sysModules)=false/\∀h:Heap,K.In h->(∃o,h.get? a=some o/\o.cls=.type "dict")/\∃g:Key->Option Value,h.MapOf (u6_ P w) a g/\∀k,b6K mg (lkF kvs k) (g k)
 wk:(kvs.map fun p=>(.inr p.1:Key)).Nodup->∃a vs ep,mg x=some (.ref a)/\(a==sysModules)=false/\vs.map (·.1)=kvs.map (fun p=>(.inr p.1:Key))/\∀h:Heap,K.In h->h.DictAt (u6_ P w) a vs ep
section
variable{X:Cx}{B:OA}{pos:Pos}{a b:Expr}{ma mb:Mo D}{kvs:List (Str×Str)}
end
inductive EntF (P:Program) (w:World) (mg:OU):List DictEntry->List (Str×Str)->Prop
 |nil:EntF P w mg [] []
 |cons {e:DictEntry}{p:Str×Str}{f:Addr}{es:List DictEntry}{kvs:List (Str×Str)}:q6_ (.str p.1) e.key->e.hash=(u6_ P w).hash (.inr p.1)->e.val=.ref f->mg p.2=some (.ref f)->EntF P w mg es kvs->EntF P w mg (e::es) (p::kvs)
section
variable{K:Qq}{B:OA}{G G':Hp}{σ σ':St}{env env':Env'}{H H':Hp}
end
section
variable{X:Cx}{B:OA}{pos:Pos}{k1 k2 k3 k4 v1 v2 v3 v4:Expr}{a1 a2 a3 a4:Str}{m1 m2 m3 m4:Mo D}
end
section
variable{X:Cx}{B:OA}{pos p:Pos}{fn:Fn}{k:Nat}{x:Str}
end
section
variable{X:Cx}{B:OA}{tg:Expr}{kvs:List (Str×Str)}
end
section
variable{prog:Program}{w:World}{A:Around}{R:Result->Shared->Prop}{I S:Addr}{fp wr:List Addr}{n:Nat}{P:Nat->Value->Prop}{St:Nat->Heap->Prop}{bt:Nat->Nat->Bool}{Z:Heap->Prop}
end
section
variable{X:Cx}{B:OA}
end
section
variable{X:Cx}{B:OA}{pos p p1:Pos}{e2:Expr}{m:Mo D}{fn:Fn}{k i:Nat}{x y:Str}
end
section
variable{prog:Program}{w:World}{A:Around}{s:Shared}{fin:Bool}{Q:Bool->Shared->Prop}
end
section
variable{X:Cx}{B:OA}{pins:OX}{σ:St}{G H:Hp}{s:Shared}
end
theorem a6Y{g:OZ}{t:Mo Bool}{m:Mo D}:∀{ds:List D}{env e:Env'}{r:List D},j1_ g t m ds env=some (r,e)->a0S g t (a0t m) ds env=some (r,e)/\r.length≤ds.length
 |[],env,e,r,h=>by cases h;exact⟨rfl,Qm _⟩
 |d::ds,env,e,r,h=>by
  obtain⟨e1,h1,h⟩:=z9_ h;obtain⟨⟨b,e2⟩,h2,h⟩:=z9_ h;have goal:∀z,((g d env).bind fun e1=>(t e1).bind fun p=>if p.1 then(a0t m p.2).bind fun q'=>(a0S g t (a0t m) ds q'.2).map fun r=>(q'.1++r.1,r.2)else a0S g t (a0t m) ds p.2)=z->a0S g t (a0t m) (d::ds) env=z:=fun z h=>h
  cases b with
  |false=>
   obtain⟨a1,a2⟩:=a6Y (show j1_ g t m ds e2=some (r,e)from h)
   exact⟨goal _ (by rw[h1,Qj,h2];exact a1),Xy a2⟩
  |true=>
   obtain⟨⟨x,e3⟩,h3,h⟩:=z9_ (show(m e2).bind (fun q=>(j1_ g t m ds q.2).map fun r=>(q.1::r.1,r.2))=some (r,e)from h)
   obtain⟨⟨r',e4⟩,h4,h5⟩:=v5_ h;cases h5;obtain⟨a1,a2⟩:=a6Y h4;refine⟨goal _ ?_,Nat.succ_le_succ a2⟩;have he:a0t m e2=some ([x],e3):=by
    show(m e2).map _=_;rw[h3]
    rfl
   rw[h1,Qj,h2];show(a0t m e2).bind _=_;rw[he];show(a0S g t (a0t m) ds e3).map _=_;rw[a1]
   rfl
theorem b0y{mi:Mo (List D)}{keep:List Bool}{more:Nat}{g:OZ}{t:Mo Bool}{m:Mo D}{env:Env'}{x:List D×Env'}(h:y0_ mi keep more g t m env=some x):a2t mi keep more g t (a0t m) env=some x:=by
 obtain⟨p,h1,h⟩:=z9_ h;split at h
 case isFalse=>cases h
 rename_i hl;obtain⟨⟨r,e⟩,h2,h3⟩:=z9_ h;obtain⟨a1,a2⟩:=a6Y h2;unfold a2t;rw[h1,Qj,a1,Qj,Qc (Zo a2 hl)];exact h3
section
variable{X:Cx}{B:OA}{N':List Str}{scope:Scope}{keep:List Bool}{more:Nat}{tg iter elt:Expr}{ifs:List Expr}{g:OZ}{t:Mo Bool}{m:Mo D}{mi:Mo (List D)}{pos:Pos}
theorem a0m(ok:CompOk X N' scope keep more)(hc:X.calm=true)(hi:EI X B tg iter mi)(hg:∀s H fp,EG (y1_ X N' scope s H fp) B X.N.length tg g)(ht:∀s H fp,a0s (y1_ X N' scope s H fp) ifs (TTm X.K B t))(he:∀s H fp,ED (y1_ X N' scope s H fp) B elt m)
  (hs:∀x,foldedSetIterable iter X.env x=pure x:=by intro _;rfl):EL X B (.ListComp elt [⟨tg,iter,ifs,0⟩] scope pos) (y0_ mi keep more g t m):=
 pe_imp (b6c ok hc hi hg ht (fun s H fp p=>a6P rfl (he s H fp)) hs) fun σ H Q ⟨G,env,d,env',rl,e,k⟩=>⟨G,env,d,env',rl,b0y e,k⟩
theorem b0z{i:Nat}{y:Str}{py spos:Pos}(ok:CompOk X N' scope keep more)(hc:X.calm=true)(hN:X.N.Nodup)(hy:X.N[i]? =some y)(hyl:X.env.scope.names.lookup y=some .local)
  (hsw:swapsWith (.ListComp elt [⟨tg,iter,ifs,0⟩] scope pos) (some (.Name y py)) spos.line X.env=pure true)
  (hi:EI X B tg iter mi)(hg:∀s H fp,EG (y1_ X N' scope s H fp) B X.N.length tg g)(ht:∀s H fp,a0s (y1_ X N' scope s H fp) ifs (TTm X.K B t))(he:∀s H fp,ED (y1_ X N' scope s H fp) B elt m)
  (hs:∀x,foldedSetIterable iter X.env x=pure x:=by intro _;rfl):ES X B (.Assign [.Name y py] (.ListComp elt [⟨tg,iter,ifs,0⟩] scope pos) spos) (w5_ i (y0_ mi keep more g t m)):=by
 refine ps_imp (b0p (i:=i) ok hc hN hy hyl hsw hi hg ht (fun s H fp p=>a6P rfl (he s H fp)) hs) ?_
 rintro D σ H ⟨G,env,fl,env',rl,e,k⟩;obtain⟨⟨d,env1⟩,e1,e2⟩:=v5_ e;cases e2;refine⟨G,env,.nx,env1.set i (.own d),rl,?_,k⟩;show(a2t mi keep more g t (a0t m) env).map _=_;rw[b0y e1]
 rfl
end
section
variable{X:Cx}{k n:Nat}
end
structure PS where
 a:Array Nat
 pd:Array (Nat×Nat×Nat)
 mg:Nat
def a6Z:Bool->Keyed->Array Keyed->Nat->Nat->Nat->StateT SortSt Sem (Option Nat):=sortPriv%PySem.Builtin.gallop
def mgX:Nat->StateT SortSt Sem Unit:=sortPriv%PySem.Builtin.setMinGallop
def loX:Array Keyed->Array Keyed->StateT SortSt Sem (Array Keyed):=sortPriv%PySem.Builtin.mergeLo
structure Lt where
 N:Nat
 lt:Nat->Nat->Bool
structure Sx where
 prog:Program
 w:World
 A:Around
 E:OE
 s:Shared
 κ:SortKind
 it:Nat->Keyed
 L:Lt
 ok:∀i j (C:Bool->Shared->Prop),i<L.N->j<L.N->C (L.lt i j) s->wpAny (model prog w) A (keyLt' κ (it i).1 (it j).1) C (fun _ _=>False) s
variable{Y:Sx}{α β γ δ:Type}
abbrev Sx.st(Y:Sx)(S:PS):SortSt:=SortSt.mk' Y.κ (S.a.map Y.it) S.pd S.mg none
def At(Y:Sx)(enc:β->α)(m:StateT SortSt Sem α)(S:PS)(o:Option (β×PS)):Prop:=
 ∀r S',o=some (r,S')->∀Q:α->SortSt->Shared->Prop,Q (enc r) (Y.st S') Y.s->kasC (model Y.prog Y.w) Y.A Y.E m Q (Y.st S) Y.s
theorem a1S{enc:β->α}{m:StateT SortSt Sem α}{S:PS}:At Y enc m S none:=fun _ _ h=>nomatch h
theorem v2_{enc:β->α}{v:α}{b:β}{S:PS}(h:v=enc b):At Y enc (pure v) S (some (b,S)):=by
 intro r S' e Q q;cases e;rw[h];exact kasC_pure q
theorem v3_{e1:β->α}{e2:δ->γ}{m:StateT SortSt Sem α}{k:α->StateT SortSt Sem γ}{S:PS}{o:Option (β×PS)}{g:β×PS->Option (δ×PS)}(h:At Y e1 m S o)(hk:∀b S',At Y e2 (k (e1 b)) S' (g (b,S'))):
  At Y e2 (m>>=k) S (o.bind g):=by
 intro r S' e Q q;obtain⟨⟨b,S1⟩,h1,h2⟩:=z9_ e;exact Ja (h b S1 h1 _ (hk b S1 r S' h2 Q q))
theorem x1_{enc:β->α}{c:Prop}[Decidable c]{m n:StateT SortSt Sem α}{S:PS}{o p:Option (β×PS)}(h1:c->At Y enc m S o)(h2:¬ c->At Y enc n S p):At Y enc (if c then m else n) S (if c then o else p):=by
 by_cases h:c
 ·rw[Qc h,Qc h];exact h1 h
 ·rw[Qs h,Qs h];exact h2 h
theorem b0A{a:Array Nat}{i:Nat}{S:PS}:At Y Y.it (elem' (a.map Y.it) i) S (a[i]?.map fun x=>(x,S)):=by
 intro r S' e Q q;obtain⟨x,h1,h2⟩:=v5_ e;cases h2;rw[elem'_eq,Vo,h1];exact kasC_pure q
theorem a5f{i j:Nat}{S:PS}:At Y some (lt' (Y.it i) (Y.it j)) S (if i<Y.L.N/\j<Y.L.N then some (Y.L.lt i j,S)else none):=by
 intro r S' e Q q;split at e
 ·rename_i h
  cases e;rw[lt'_eq];refine Ja (kasC_get ?_);refine Ja (kasC_lift (Xk (Zq (Y.ok i j (fun b s'=>b=Y.L.lt i j/\s'=Y.s) h.1 h.2 ⟨rfl,rfl⟩) (fun c s' hc=>?_) fun _ _ hF=>hF.elim)))
  obtain⟨rfl,rfl⟩:=hc;exact kasC_pure q
 ·cases e
def ltS(Y:Lt)(i j:Nat)(S:PS):Option (Bool×PS):=if i<Y.N/\j<Y.N then some (Y.lt i j,S)else none
def a3k(Y:Lt)(i j:Nat)(S:PS):Option (Bool×PS):=S.a[i]?.bind fun x=>S.a[j]?.bind fun y=>ltS Y x y S
theorem a3V{i j:Nat}{S:PS}:At Y some (ltAt' i j) S (a3k Y.L i j S):=by
 intro r S' e Q q;obtain⟨x,h1,e⟩:=z9_ e;obtain⟨y,h2,e⟩:=z9_ e;rw[ltAt'_eq];refine Ja (kasC_get ?_);show kasC _ _ _ (do let x←elem' (S.a.map Y.it) i;let y←elem' (S.a.map Y.it) j;lt' x y) Q _ _
 rw[elem'_eq,elem'_eq,Vo,Vo,h1,h2];exact Ja (kasC_pure (Ja (kasC_pure (a5f r S' e Q q))))
theorem a3W{enc:β->α}{x:String}{k:Unit->StateT SortSt Sem α}{S:PS}{o:Option (β×PS)}(h:At Y enc (k ()) S o):At Y enc ((liftM (rule x):StateT SortSt Sem Unit)>>=k) S o:=by
 intro r S' e Q q;exact Ja (kasC_lift (Ju (h r S' e Q q)))
theorem a1x{enc:β->α}{k:SortSt->StateT SortSt Sem α}{S:PS}{o:Option (β×PS)}(h:At Y enc (k (Y.st S)) S o):At Y enc (get>>=k) S o:=by
 intro r S' e Q q;exact Ja (kasC_get (h r S' e Q q))
theorem a2v{enc:β->α}{f:SortSt->SortSt}{k:PUnit->StateT SortSt Sem α}{S S1:PS}{o:Option (β×PS)}(hf:f (Y.st S)=Y.st S1)(h:At Y enc (k ⟨⟩) S1 o):At Y enc (modify f>>=k) S o:=by
 intro r S' e Q q;refine Ja (kasC_modify ?_);rw[hf];exact h r S' e Q q
def a0b(g:β->PS->Option (ForInStep β×PS)):Nat->β->PS->Option (β×PS)
 |0,b,S=>some (b,S)
 |n+1,b,S=>(g b S).bind fun p=>match p.1 with
  |.done b'=>some (b',p.2)
  |.yield b'=>a0b g n b' p.2
def u4_(enc:β->α):ForInStep β->ForInStep α
 |.done b=>.done (enc b)
 |.yield b=>.yield (enc b)
theorem a3l{enc:β->α}{f:Nat->α->StateT SortSt Sem (ForInStep α)}{g:β->PS->Option (ForInStep β×PS)}(h:∀x b S,At Y (u4_ enc) (f x (enc b)) S (g b S)){a c:Nat}{b:β}{S:PS}:
  At Y enc (forIn [a:c] (enc b) f) S (a0b g (c-a) b S):=by
 have go:∀(l:List Nat) (b:β) (S:PS),At Y enc (forIn l (enc b) f) S (a0b g l.length b S):=by
  intro l
  induction l with
  |nil=>
   intro b S r S' e Q q;cases e;exact kasC_nil q
  |cons x l ih=>
   intro b S r S' e Q q;obtain⟨⟨st,S1⟩,h1,h2⟩:=z9_ e;refine kasC_cons (h x b S st S1 h1 _ ?_);cases st with
   |done b'=>
    cases h2;exact q
   |yield b'=>exact ih b' S1 r S' h2 Q q
 intro r S' e Q q;refine kasC_range (go _ b S r S' ?_ Q q);rw[List.length_range'];exact e
abbrev Mz:=StateT SortSt Sem
variable{Y:Sx}{α β γ δ:Type}
def bX(left:Bool)(key:Keyed)(arr:Array Keyed)(base i:Nat):Mz (Option Bool):=do
 let x←elem' arr (base+i)
 if left=true then lt' x key else do
  let r←lt' key x
  pure (r.map fun b=>!b)
def g3X(bey:Nat->Mz (Option Bool))(n lo hi:Nat):Mz (Option Nat):=do
 let t←forIn [0:n] ((none,lo,hi):Option (Option Nat)×Nat×Nat) fun _ t=>if t.2.1 ≥ t.2.2 then pure (.done (none,t.2.1,t.2.2))else do
  let y←bey (t.2.1+(t.2.2-t.2.1)/2)
  match y with
  |some b=>if b=true then pure (.yield (none,t.2.1+(t.2.2-t.2.1)/2+1,t.2.2))else pure (.yield (none,t.2.1,t.2.1+(t.2.2-t.2.1)/2))
  |_=>pure (.done (some none,t.2.1,t.2.2))
 match t.1 with
 |some r=>pure r
 |none=>pure (some t.2.2)
def g2X(bey:Nat->Mz (Option Bool))(at_:Nat->Nat)(stp:Bool->Bool)(n most:Nat)(k:Nat->Nat->Mz (Option Nat)):Mz (Option Nat):=do
 let t←forIn [0:n] ((none,0,1):Option (Option Nat)×Nat×Nat) fun _ t=>if t.2.2 ≥ most then pure (.done (none,t.2.1,t.2.2))else do
  let y←bey (at_ t.2.2)
  match y with
  |some b=>if stp b=true then pure (.done (none,t.2.1,t.2.2))else pure (.yield (none,t.2.2,2 * t.2.2+1))
  |_=>pure (.done (some none,t.2.1,t.2.2))
 match t.1 with
 |some r=>pure r
 |none=>k t.2.1 t.2.2
theorem b6L(left:Bool)(key:Keyed)(arr:Array Keyed)(base n hint:Nat):a6Z left key arr base n hint=(do
  let y←bX left key arr base hint
  match y with
  |some b=>if b=true then g2X (bX left key arr base) (fun o=>hint+o) (fun b=>!b) n (n-hint) (fun l o=>g3X (bX left key arr base) n (hint+l+1) (hint+min o (n-hint)))else g2X (bX left key arr base) (fun o=>hint-o) (fun b=>b) n (hint+1) (fun l o=>g3X (bX left key arr base) n (hint+1-min o (hint+1)) (hint-l))
  |_=>pure none):=by
 refine congr (Yq bind ?_) (funext fun y=>?_)
 ·rfl
 ·cases y with
  |none=>rfl
  |some b=>
   show(if b=true then _ else _)=(if b=true then _ else _)
   congr 1
   ·unfold g2X
    refine congr (Yq bind ?_) (funext fun y=>?_)
    ·congr 1
    ·obtain⟨o,l,h⟩:=y
     cases o with
     |some o=>rfl
     |none=>
      unfold g3X;refine congr (Yq bind ?_) (funext fun y=>?_)
      ·congr 1
      ·obtain⟨o,_,_⟩:=y;cases o<;>rfl
   ·unfold g2X
    refine congr (Yq bind ?_) (funext fun y=>?_)
    ·congr 1
    ·obtain⟨o,l,h⟩:=y
     cases o with
     |some o=>rfl
     |none=>
      unfold g3X;refine congr (Yq bind ?_) (funext fun y=>?_)
      ·congr 1
      ·obtain⟨o,_,_⟩:=y;cases o<;>rfl
def bS(Y:Lt)(left:Bool)(key:Nat)(arr:Array Nat)(base i:Nat)(S:PS):Option (Bool×PS):=(arr[base+i]?.map fun x=>(x,S)).bind fun p=>if left=true then ltS Y p.1 key p.2 else(ltS Y key p.1 p.2).bind fun q=>some (!q.1,q.2)
theorem a3X{left:Bool}{key:Nat}{arr:Array Nat}{base i:Nat}{S:PS}:At Y some (bX left (Y.it key) (arr.map Y.it) base i) S (bS Y.L left key arr base i S):=by
 unfold bX bS;refine v3_ b0A fun x S'=>?_
 exact x1_ (fun _=>a5f) fun _=>v3_ (e1:=some) a5f fun b S2=>v2_ rfl
def g3S(bey:Nat->PS->Option (Bool×PS))(n lo hi:Nat)(S:PS):Option (Nat×PS):=
 (a0b (fun(b:Nat×Nat) S=>if b.1 ≥ b.2 then some (.done b,S)else(bey (b.1+(b.2-b.1)/2) S).bind fun p=>if p.1=true then some (.yield (b.1+(b.2-b.1)/2+1,b.2),p.2)else some (.yield (b.1,b.1+(b.2-b.1)/2),p.2)) (n-0) (lo,hi) S).bind fun p=>some (p.1.2,p.2)
abbrev e2(b:Nat×Nat):Option (Option Nat)×Nat×Nat:=(none,b.1,b.2)
theorem b0B{bx:Nat->Mz (Option Bool)}{bs:Nat->PS->Option (Bool×PS)}(hb:∀i S,At Y some (bx i) S (bs i S)){n lo hi:Nat}{S:PS}:At Y some (g3X bx n lo hi) S (g3S bs n lo hi S):=by
 unfold g3X g3S;refine v3_ (a3l (enc:=e2) (b:=(lo,hi)) fun x b S=>?_) fun b S'=>v2_ rfl
 exact x1_ (fun _=>v2_ rfl) fun _=>v3_ (hb _ _) fun c S2=>x1_ (fun _=>v2_ rfl) fun _=>v2_ rfl
def g2S(bey:Nat->PS->Option (Bool×PS))(at_:Nat->Nat)(stp:Bool->Bool)(n most:Nat)(k:Nat->Nat->PS->Option (Nat×PS))(S:PS):Option (Nat×PS):=
 (a0b (fun(b:Nat×Nat) S=>if b.2 ≥ most then some (.done b,S)else(bey (at_ b.2) S).bind fun p=>if stp p.1=true then some (.done b,p.2)else some (.yield (b.2,2 * b.2+1),p.2)) (n-0) (0,1) S).bind fun p=>k p.1.1 p.1.2 p.2
theorem b0C{bx:Nat->Mz (Option Bool)}{bs:Nat->PS->Option (Bool×PS)}(hb:∀i S,At Y some (bx i) S (bs i S)){at_:Nat->Nat}{stp:Bool->Bool}{n most:Nat}{kx:Nat->Nat->Mz (Option Nat)}{ks:Nat->Nat->PS->Option (Nat×PS)}(hk:∀i j S,At Y some (kx i j) S (ks i j S)){S:PS}:At Y some (g2X bx at_ stp n most kx) S (g2S bs at_ stp n most ks S):=by
 unfold g2X g2S;refine v3_ (a3l (enc:=e2) (b:=(0,1)) fun x b S=>?_) fun b S'=>hk _ _ _
 exact x1_ (fun _=>v2_ rfl) fun _=>v3_ (hb _ _) fun c S2=>x1_ (fun _=>v2_ rfl) fun _=>v2_ rfl
def a2w(Y:Lt)(left:Bool)(key:Nat)(arr:Array Nat)(base n hint:Nat)(S:PS):Option (Nat×PS):=
 (bS Y left key arr base hint S).bind fun p=>if p.1=true then g2S (bS Y left key arr base) (fun o=>hint+o) (fun b=>!b) n (n-hint) (fun l o=>g3S (bS Y left key arr base) n (hint+l+1) (hint+min o (n-hint))) p.2
  else g2S (bS Y left key arr base) (fun o=>hint-o) (fun b=>b) n (hint+1) (fun l o=>g3S (bS Y left key arr base) n (hint+1-min o (hint+1)) (hint-l)) p.2
theorem a7a{left:Bool}{key:Nat}{arr:Array Nat}{base n hint:Nat}{S:PS}:At Y some (a6Z left (Y.it key) (arr.map Y.it) base n hint) S (a2w Y.L left key arr base n hint S):=by
 rw[b6L];unfold a2w;refine v3_ a3X fun b S'=>?_
 exact x1_ (fun _=>b0C (fun _ _=>a3X) fun _ _ _=>b0B fun _ _=>a3X) fun _=>b0C (fun _ _=>a3X) fun _ _ _=>b0B fun _ _=>a3X
def a3Y(i j:Nat)(S:PS):PS:={S with a:=mirror S.a i j ((j-i)/2)}
def b0D(i j:Nat)(S:PS):PS:={S with a:=bubble S.a i (i-j)}
theorem a1T{i j:Nat}{S:PS}:At Y id (reverseSlice' i j) S (some ((),a3Y i j S)):=by
 intro r S' e Q q;cases e;rw[reverseSlice'_eq];refine kasC_modify ?_
 have e1:mirror (S.a.map Y.it) i j ((j-i)/2)=(mirror S.a i j ((j-i)/2)).map Y.it:=kas_swaps_map Y.it (fun k=>i+k) (fun k=>j-1-k) _ S.a
 show Q () (SortSt.mk' Y.κ (mirror (S.a.map Y.it) i j ((j-i)/2)) S.pd S.mg none) Y.s;rw[e1];exact q
theorem b6M{i j:Nat}{S:PS}:At Y id (moveDown' i j) S (some ((),b0D i j S)):=by
 intro r S' e Q q;cases e;rw[moveDown'_eq];refine kasC_modify ?_
 have e1:bubble (S.a.map Y.it) i (i-j)=(bubble S.a i (i-j)).map Y.it:=kas_swaps_map Y.it (fun k=>i-k) (fun k=>i-k-1) _ S.a
 show Q () (SortSt.mk' Y.κ (bubble (S.a.map Y.it) i (i-j)) S.pd S.mg none) Y.s;rw[e1];exact q
def asX(lo a m:Nat):Mz (Option (Option Nat)×Nat):=forIn [a:m] ((none,a):Option (Option Nat)×Nat) fun _ t=>do
 let y←ltAt' (lo+t.2) (lo+t.2-1)
 match y with
 |some b=>if b=true then pure (.done (none,t.2))else pure (.yield (none,t.2+1))
 |_=>pure (.done (some none,t.2))
def asS(Y:Lt)(lo a m:Nat)(S:PS):Option (Nat×PS):=a0b (fun(b:Nat) S=>(a3k Y (lo+b) (lo+b-1) S).bind fun p=>if p.1=true then some (.done b,p.2)else some (.yield (b+1),p.2)) (m-a) a S
abbrev e1(b:Nat):Option (Option Nat)×Nat:=(none,b)
theorem a3Z{lo a m:Nat}{S:PS}:At Y e1 (asX lo a m) S (asS Y.L lo a m S):=by
 unfold asX asS;exact a3l (enc:=e1) (b:=a) fun x b S=>v3_ a3V fun c S2=>x1_ (fun _=>v2_ rfl) fun _=>v2_ rfl
def t3S(Y:Lt)(lo n m:Nat)(S:PS):Option (Nat×PS):=(some ((),a3Y lo (lo+n) S)).bind fun p=>(asS Y lo n m p.2).bind fun q=>some (q.1,q.2)
def dsX(lo a m:Nat):Mz (Option (Option Nat)×Nat×Nat):=forIn [a:m] ((none,a,0):Option (Option Nat)×Nat×Nat) fun _ t=>do
 let y←ltAt' (lo+t.2.1) (lo+t.2.1-1)
 match y with
 |some b=>if b=true then(if t.2.2>0 then(reverseSlice' (lo+t.2.1-(t.2.2+1)) (lo+t.2.1)>>=fun _=>pure (.yield (none,t.2.1+1,0)))else pure (.yield (none,t.2.1+1,0)))else do
   let y←ltAt' (lo+t.2.1-1) (lo+t.2.1)
   match y with
   |some c=>if c=true then pure (.done (none,t.2.1,t.2.2))else pure (.yield (none,t.2.1+1,t.2.2+1))
   |_=>pure (.done (some none,t.2.1,t.2.2))
 |_=>pure (.done (some none,t.2.1,t.2.2))
def dsS(Y:Lt)(lo a m:Nat)(S:PS):Option ((Nat×Nat)×PS):=a0b (fun(t:Nat×Nat) S=>(a3k Y (lo+t.1) (lo+t.1-1) S).bind fun p=>if p.1=true then(if t.2>0 then(some ((),a3Y (lo+t.1-(t.2+1)) (lo+t.1) p.2)).bind fun q=>some (.yield (t.1+1,0),q.2)else some (.yield (t.1+1,0),p.2))
  else(a3k Y (lo+t.1-1) (lo+t.1) p.2).bind fun q=>if q.1=true then some (.done t,q.2)else some (.yield (t.1+1,t.2+1),q.2)) (m-a) (a,0) S
theorem b0E{lo a m:Nat}{S:PS}:At Y e2 (dsX lo a m) S (dsS Y.L lo a m S):=by
 unfold dsX dsS;refine a3l (enc:=e2) (b:=(a,0)) fun x b S=>v3_ a3V fun c S2=>?_
 refine x1_ (fun _=>x1_ (fun _=>?_) fun _=>v2_ rfl) fun _=>?_
 ·exact v3_ a1T fun u S3=>v2_ rfl
 ·exact v3_ a3V fun d S3=>x1_ (fun _=>v2_ rfl) fun _=>v2_ rfl
def dpS(Y:Lt)(lo n m:Nat)(S:PS):Option (Nat×PS):=(dsS Y lo (n+1) m S).bind fun p=>if p.1.2>0 then(some ((),a3Y (lo+p.1.1-(p.1.2+1)) (lo+p.1.1) p.2)).bind fun q=>t3S Y lo p.1.1 m q.2 else t3S Y lo p.1.1 m p.2
variable{Y:Sx}{α β γ δ:Type}
def a7b(Y:Lt)(lo m:Nat)(S:PS):Option (Nat×PS):=(asS Y lo 1 m S).bind fun p=>if(p.1==m)=true then some (p.1,p.2)else if p.1>1 then(a3k Y lo (lo+p.1-1) p.2).bind fun q=>if q.1=true then some (p.1,q.2)else(some ((),a3Y lo (lo+p.1) q.2)).bind fun u=>dpS Y lo p.1 m u.2
 else dpS Y lo p.1 m p.2
theorem b6N{lo m:Nat}{S:PS}:At Y some (countRun' lo m) S (a7b Y.L lo m S):=by
 unfold a7b;refine v3_ (e1:=e1) (a3Z (lo:=lo) (a:=1) (m:=m)) fun b S1=>?_
 refine x1_ (fun _=>v2_ rfl) fun _=>?_
 refine x1_ (fun _=>?_) fun _=>?_
 ·refine v3_ a3V fun c S2=>?_
  refine x1_ (fun _=>v2_ rfl) fun _=>?_
  refine v3_ a1T fun u S3=>?_
  unfold dpS;refine a3W (v3_ (b0E (lo:=lo) (a:=b+1) (m:=m)) fun t S4=>x1_ (fun _=>v3_ a1T fun u S5=>?_) fun _=>?_)
  ·unfold t3S
   exact v3_ a1T fun u S6=>v3_ a3Z fun c S7=>v2_ rfl
  ·unfold t3S
   exact v3_ a1T fun u S6=>v3_ a3Z fun c S7=>v2_ rfl
 ·unfold dpS
  refine a3W (v3_ (b0E (lo:=lo) (a:=b+1) (m:=m)) fun t S4=>x1_ (fun _=>v3_ a1T fun u S5=>?_) fun _=>?_)
  ·unfold t3S
   exact v3_ a1T fun u S6=>v3_ a3Z fun c S7=>v2_ rfl
  ·unfold t3S
   exact v3_ a1T fun u S6=>v3_ a3Z fun c S7=>v2_ rfl
def a5g(g:Nat->β->PS->Option (ForInStep β×PS)):Nat->Nat->β->PS->Option (β×PS)
 |0,_,b,S=>some (b,S)
 |n+1,x,b,S=>(g x b S).bind fun p=>match p.1 with
  |.done b'=>some (b',p.2)
  |.yield b'=>a5g g n (x+1) b' p.2
theorem b6O{enc:β->α}{f:Nat->α->StateT SortSt Sem (ForInStep α)}{g:Nat->β->PS->Option (ForInStep β×PS)}(h:∀x b S,At Y (u4_ enc) (f x (enc b)) S (g x b S)){a c:Nat}{b:β}{S:PS}:
  At Y enc (forIn [a:c] (enc b) f) S (a5g g (c-a) a b S):=by
 have go:∀(n a:Nat) (b:β) (S:PS),At Y enc (forIn (List.range' a n) (enc b) f) S (a5g g n a b S):=by
  intro n
  induction n with
  |zero=>
   intro a b S r S' e Q q;cases e;exact kasC_nil q
  |succ n ih=>
   intro a b S r S' e Q q;obtain⟨⟨st,S1⟩,h1,h2⟩:=z9_ e;show kasC _ _ _ (forIn (a::List.range' (a+1) n) _ _) _ _ _;refine kasC_cons (h a b S st S1 h1 _ ?_);cases st with
   |done b'=>
    cases h2;exact q
   |yield b'=>exact ih (a+1) b' S1 r S' h2 Q q
 intro r S' e Q q;exact kasC_range (go _ a b S r S' e Q q)
def plS(Y:Lt)(lo k:Nat)(S:PS):Option ((Nat×Nat)×PS):=a0b (fun(b:Nat×Nat) S=>if b.1 ≥ b.2 then some (.done b,S)else(a3k Y (lo+k) (lo+(b.1+b.2)/2) S).bind fun p=>if p.1=true then some (.yield (b.1,(b.1+b.2)/2),p.2)else some (.yield ((b.1+b.2)/2+1,b.2),p.2)) (k-0) (0,k) S
def a7c(Y:Lt)(lo n ok:Nat)(S:PS):Option (Bool×PS):=(a5g (fun k (_:Unit) S=>(plS Y lo k S).bind fun p=>(some ((),b0D (lo+k) (lo+p.1.1) p.2)).bind fun q=>some (.yield (),q.2)) (n-max ok 1) (max ok 1) () S).bind fun p=>some (true,p.2)
abbrev e3(b:Nat×Nat):Option Bool×Nat×Nat:=(none,b.1,b.2)
abbrev e0{α:Type}(_:Unit):Option α×Unit:=(none,())
theorem b6P{lo n ok:Nat}{S:PS}:At Y id (binarySort' lo n ok) S (a7c Y.L lo n ok S):=by
 unfold a7c;refine v3_ (e1:=e0) (b6O (enc:=e0) (b:=()) fun k b S=>?_) fun b S'=>v2_ rfl
 unfold plS;refine v3_ (a3l (enc:=e3) (b:=(0,k)) fun x b S=>?_) fun b S1=>?_
 ·exact x1_ (fun _=>v2_ rfl) fun _=>v3_ a3V fun c S2=>x1_ (fun _=>v2_ rfl) fun _=>v2_ rfl
 ·exact v3_ b6M fun u S2=>v2_ rfl
theorem a0v(a:Array Nat)(it:Nat->Keyed)(i j:Nat):(a.map it).extract i j=(a.extract i j).map it:=by simp
theorem a0w(a:Array Nat)(it:Nat->Keyed)(x:Nat):(a.map it).push (it x)=(a.push x).map it:=by simp
theorem a0T(a b:Array Nat)(it:Nat->Keyed):a.map it++b.map it=(a++b).map it:=by simp
theorem a1y(a:Array Nat)(it:Nat->Keyed):(a.map it).size=a.size:=by simp
theorem b0F{n:Nat}{S:PS}:At Y id (mgX n) S (some ((),{S with mg:=n})):=by
 intro r S' e Q q;cases e;exact kasC_modify q
variable{Y:Sx}{α β γ δ:Type}
theorem a1g{enc:β->α}{c d:Prop}[Decidable c][Decidable d]{m n:StateT SortSt Sem α}{S:PS}{o p:Option (β×PS)}(hc:c↔d)(h1:d->At Y enc m S o)(h2:¬ d->At Y enc n S p):At Y enc (if c then m else n) S (if d then o else p):=by
 by_cases h:d
 ·rw[Qc (hc.mpr h),Qc h];exact h1 h
 ·rw[Qs (fun z=>h (hc.mp z)),Qs h];exact h2 h
abbrev An:=Array Nat
def don(a b out:An)(ia ib:Nat):An:=out++a.extract ia a.size++b.extract ib b.size
def loa(a b out:An)(ia ib:Nat):An:=out++b.extract ib b.size++a.extract ia a.size
abbrev T6:=Option An×An×Nat×Nat×Nat×Nat
abbrev T7:=Option An×An×Nat×Nat×Nat×Nat×Nat
abbrev T5:=Option An×An×Nat×Nat×Nat
abbrev oM(it:Nat->Keyed)(o:Option An):Option (Array Keyed):=o.map fun a=>a.map it
abbrev c5(it:Nat->Keyed)(t:T5):Option (Array Keyed)×Array Keyed×Nat×Nat×Nat:=(oM it t.1,t.2.1.map it,t.2.2.1,t.2.2.2.1,t.2.2.2.2)
abbrev c6(it:Nat->Keyed)(t:T6):Option (Array Keyed)×Array Keyed×Nat×Nat×Nat×Nat:=(oM it t.1,t.2.1.map it,t.2.2.1,t.2.2.2.1,t.2.2.2.2.1,t.2.2.2.2.2)
abbrev c7(it:Nat->Keyed)(t:T7):Option (Array Keyed)×Array Keyed×Nat×Nat×Nat×Nat×Nat:=(oM it t.1,t.2.1.map it,t.2.2.1,t.2.2.2.1,t.2.2.2.2.1,t.2.2.2.2.2.1,t.2.2.2.2.2.2)
def elS(a:An)(i:Nat)(S:PS):Option (Nat×PS):=a[i]?.map fun x=>(x,S)
def lo1(Y:Lt)(a b:An)(mg:Nat)(t:T6)(S:PS):Option (ForInStep T6×PS):=
 (elS b t.2.2.2.1 S).bind fun p=>(elS a t.2.2.1 p.2).bind fun q=>(ltS Y p.1 q.1 q.2).bind fun c=>if c.1=true then(elS b t.2.2.2.1 c.2).bind fun x=>
   if(t.2.2.2.1+1==b.size)=true then some (.done (some (don a b (t.2.1.push x.1) t.2.2.1 (t.2.2.2.1+1)),t.2.1.push x.1,t.2.2.1,t.2.2.2.1+1,0,t.2.2.2.2.2+1),x.2)
   else if t.2.2.2.2.2+1 ≥ mg then some (.done (none,t.2.1.push x.1,t.2.2.1,t.2.2.2.1+1,0,t.2.2.2.2.2+1),x.2)else some (.yield (none,t.2.1.push x.1,t.2.2.1,t.2.2.2.1+1,0,t.2.2.2.2.2+1),x.2)
  else(elS a t.2.2.1 c.2).bind fun x=>
   if(t.2.2.1+1+1==a.size)=true then some (.done (some (loa a b (t.2.1.push x.1) (t.2.2.1+1) t.2.2.2.1),t.2.1.push x.1,t.2.2.1+1,t.2.2.2.1,t.2.2.2.2.1+1,0),x.2)
   else if t.2.2.2.2.1+1 ≥ mg then some (.done (none,t.2.1.push x.1,t.2.2.1+1,t.2.2.2.1,t.2.2.2.2.1+1,0),x.2)else some (.yield (none,t.2.1.push x.1,t.2.2.1+1,t.2.2.2.1,t.2.2.2.2.1+1,0),x.2)
def lo4(a b:An)(mg k k2 ia:Nat)(out:An)(ib:Nat)(S:PS):Option (ForInStep T7×PS):=(elS a ia S).bind fun z=>
 if(ia+1+1==a.size)=true then some (.done (some (loa a b (out.push z.1) (ia+1) ib),out.push z.1,ia+1,ib,mg,k,k2),z.2)
 else if(decide (k<7)&&decide (k2<7))=true then some (.done (none,out.push z.1,ia+1,ib,mg,k,k2),z.2)else some (.yield (none,out.push z.1,ia+1,ib,mg,k,k2),z.2)
def lo3(Y:Lt)(a b:An)(mg k bc ib:Nat)(out:An)(ia:Nat)(S:PS):Option (ForInStep T7×PS):=(elS b ib S).bind fun x=>
 if(ib+1==b.size)=true then some (.done (some (don a b (out.push x.1) ia (ib+1)),out.push x.1,ia,ib+1,mg,k,bc),x.2)
 else(elS a ia x.2).bind fun y=>(a2w Y true y.1 b (ib+1) (b.size-(ib+1)) 0 y.2).bind fun q=>if q.1>0 then
   (if(ib+1+q.1==b.size)=true then some (.done (some (don a b (out.push x.1++b.extract (ib+1) (ib+1+q.1)) ia (ib+1+q.1)),out.push x.1++b.extract (ib+1) (ib+1+q.1),ia,ib+1+q.1,mg,k,q.1),q.2)
    else lo4 a b mg k q.1 ia (out.push x.1++b.extract (ib+1) (ib+1+q.1)) (ib+1+q.1) q.2)
  else lo4 a b mg k q.1 ia (out.push x.1) (ib+1) q.2
def a7d(Y:Lt)(a b:An)(t:T7)(mg:Nat)(S:PS):Option (ForInStep T7×PS):=(some ((),{S with mg:=mg})).bind fun u=>(elS b t.2.2.2.1 u.2).bind fun x=>(a2w Y false x.1 a t.2.2.1 (a.size-t.2.2.1) 0 x.2).bind fun q=>if q.1>0 then
   (if(t.2.2.1+q.1+1==a.size)=true then some (.done (some (loa a b (t.2.1++a.extract t.2.2.1 (t.2.2.1+q.1)) (t.2.2.1+q.1) t.2.2.2.1),t.2.1++a.extract t.2.2.1 (t.2.2.1+q.1),t.2.2.1+q.1,t.2.2.2.1,mg,q.1,t.2.2.2.2.2.2),q.2)
    else if(t.2.2.1+q.1==a.size)=true then some (.done (some (don a b (t.2.1++a.extract t.2.2.1 (t.2.2.1+q.1)) (t.2.2.1+q.1) t.2.2.2.1),t.2.1++a.extract t.2.2.1 (t.2.2.1+q.1),t.2.2.1+q.1,t.2.2.2.1,mg,q.1,t.2.2.2.2.2.2),q.2)
    else lo3 Y a b mg q.1 t.2.2.2.2.2.2 t.2.2.2.1 (t.2.1++a.extract t.2.2.1 (t.2.2.1+q.1)) (t.2.2.1+q.1) q.2)
  else lo3 Y a b mg q.1 t.2.2.2.2.2.2 t.2.2.2.1 t.2.1 t.2.2.1 q.2
def lo2(Y:Lt)(a b:An)(t:T7)(S:PS):Option (ForInStep T7×PS):=if t.2.2.2.2.1>1 then a7d Y a b t (t.2.2.2.2.1-1) S else a7d Y a b t t.2.2.2.2.1 S
def lo0(Y:Lt)(a b:An)(t:T5)(S:PS):Option (ForInStep T5×PS):=(a0b (lo1 Y a b t.2.2.2.2) (a.size+b.size-0) (none,t.2.1,t.2.2.1,t.2.2.2.1,0,0) S).bind fun p=>match p.1.1 with
 |some r=>some (.done (some r,p.1.2.1,p.1.2.2.1,p.1.2.2.2.1,t.2.2.2.2),p.2)
 |none=>(a0b (lo2 Y a b) (a.size+b.size-0) (none,p.1.2.1,p.1.2.2.1,p.1.2.2.2.1,t.2.2.2.2+1,p.1.2.2.2.2.1,p.1.2.2.2.2.2) p.2).bind fun q=>match q.1.1 with
  |some r=>some (.done (some r,q.1.2.1,q.1.2.2.1,q.1.2.2.2.1,q.1.2.2.2.2.1),q.2)
  |none=>(some ((),{q.2 with mg:=q.1.2.2.2.2.1+1})).bind fun u=>some (.yield (none,q.1.2.1,q.1.2.2.1,q.1.2.2.2.1,q.1.2.2.2.2.1+1),u.2)
def loS(Y:Lt)(a b:An)(S:PS):Option (An×PS):=(elS b 0 S).bind fun x=>if(1==b.size)=true then some (don a b #[x.1] 0 1,x.2)else if(0+1==a.size)=true then some (loa a b #[x.1] 0 1,x.2)
 else(a0b (lo0 Y a b) (a.size+b.size-0) (none,#[x.1],0,1,x.2.mg) x.2).bind fun p=>match p.1.1 with
  |some r=>some (r,p.2)
  |none=>none
theorem a0U{a:An}{i:Nat}{S:PS}:At Y Y.it (elem' (a.map Y.it) i) S (elS a i S):=b0A
theorem a1z{a:An}{i:Nat}:((i==(a.map Y.it).size)=true)↔((i==a.size)=true):=by rw[Array.size_map]
theorem a2x{enc:β->α}{f:Nat->α->StateT SortSt Sem (ForInStep α)}{g:β->PS->Option (ForInStep β×PS)}{v:α}{b:β}{c d:Nat}{S:PS}(h0:v=enc b)(hc:c=d)(h:∀x b S,At Y (u4_ enc) (f x (enc b)) S (g b S)):
  At Y enc (forIn [0:c] v f) S (a0b g (d-0) b S):=by
 subst h0 hc;exact a3l h
theorem b0G{left:Bool}{key:Nat}{arr:An}{base n n' hint:Nat}{S:PS}(h:n=n'):At Y some (a6Z left (Y.it key) (arr.map Y.it) base n hint) S (a2w Y.L left key arr base n' hint S):=by
 subst h;exact a7a
theorem sz2{a b:An}:(a.map Y.it).size+(b.map Y.it).size=a.size+b.size:=by simp
theorem szs{a:An}{i:Nat}:(a.map Y.it).size-i=a.size-i:=by simp
theorem b0H(it:Nat->Keyed)(x:Nat): #[it x]=(#[x]:An).map it:=by simp
theorem b6Q{a b:An}{S:PS}:At Y (fun r:An=>r.map Y.it) (loX (a.map Y.it) (b.map Y.it)) S (loS Y.L a b S):=by
 unfold loS;refine a3W (v3_ a0U fun x S1=>?_)
 refine a1g a1z (fun _=>v2_ ?_) fun _=>a1g a1z (fun _=>v2_ ?_) fun _=>a1x ?_
 ·rw[b0H];simp only[don,a0T,a0v,a1y]
 ·rw[b0H];simp only[loa,a0T,a0v,a1y]
 refine v3_ (e1:=c5 Y.it) (a2x (enc:=c5 Y.it) (b:=(none,#[x],0,1,S1.mg)) (by simp) sz2 fun _ t S2=>?_) fun t S2=>?_
 ·unfold lo0
  refine v3_ (e1:=c6 Y.it) (a2x (enc:=c6 Y.it) (b:=(none,t.2.1,t.2.2.1,t.2.2.2.1,0,0)) (by simp) sz2 fun _ t S3=>?_) fun u S3=>?_
  ·unfold lo1
   refine v3_ a0U fun p S1=>v3_ a0U fun q S2=>v3_ a5f fun c S3=>?_
   refine x1_ (fun _=>v3_ a0U fun x S4=>?_) fun _=>v3_ a0U fun x S4=>?_
   ·refine a1g a1z (fun _=>v2_ ?_) fun _=>x1_ (fun _=>v2_ ?_) fun _=>v2_ ?_
    ·simp only[u4_,don,a0w,a0T,a0v,a1y,Yu]<;>rfl
    ·simp only[u4_,a0w,Je]<;>rfl
    ·simp only[u4_,a0w,Je]<;>rfl
   ·refine a1g a1z (fun _=>v2_ ?_) fun _=>x1_ (fun _=>v2_ ?_) fun _=>v2_ ?_
    ·simp only[u4_,loa,a0w,a0T,a0v,a1y,Yu]<;>rfl
    ·simp only[u4_,a0w,Je]<;>rfl
    ·simp only[u4_,a0w,Je]<;>rfl
  ·obtain⟨o,out,ia,ib,ac,bc⟩:=u
   cases o with
   |some r=>exact v2_ rfl
   |none=>
    refine a3W (v3_ (e1:=c7 Y.it) (a2x (enc:=c7 Y.it) (b:=(none,out,ia,ib,t.2.2.2.2+1,ac,bc)) (by simp) sz2 fun _ t S4=>?_) fun u S4=>?_)
    ·unfold lo2
     refine x1_ (fun _=>?_) fun _=>?_
     all_goals
      unfold a7d;refine v3_ b0F fun _ S5=>v3_ a0U fun x S6=>v3_ (b0G szs) fun k S7=>?_
      refine x1_ (fun _=>a1g a1z (fun _=>v2_ (by simp only[u4_,loa,a0w,a0T,a0v,a1y,Yu]<;>rfl)) fun _=>a1g a1z (fun _=>v2_ (by simp only[u4_,don,a0w,a0T,a0v,a1y,Yu]<;>rfl)) fun _=>?_) fun _=>?_
      all_goals
       unfold lo3;refine v3_ a0U fun y S8=>a1g a1z (fun _=>v2_ (by simp only[u4_,don,a0w,a0T,a0v,a1y,Yu]<;>rfl)) fun _=>?_
       refine v3_ a0U fun z S9=>v3_ (b0G szs) fun k2 S10=>?_
       refine x1_ (fun _=>a1g a1z (fun _=>v2_ (by simp only[u4_,don,a0w,a0T,a0v,a1y,Yu]<;>rfl)) fun _=>?_) fun _=>?_
       all_goals
        unfold lo4;refine v3_ a0U fun z S11=>a1g a1z (fun _=>v2_ (by simp only[u4_,loa,a0w,a0T,a0v,a1y,Yu]<;>rfl)) fun _=>x1_ (fun _=>v2_ (by simp only[u4_,a0w,a0T,a0v,Je]<;>rfl)) fun _=>v2_ (by simp only[u4_,a0w,a0T,a0v,Je]<;>rfl)
    ·obtain⟨o,out,ia,ib,mg,ac,bc⟩:=u
     cases o with
     |some r=>exact v2_ rfl
     |none=>exact v3_ b0F fun _ S5=>v2_ rfl
 ·obtain⟨o,out,ia,ib,mg⟩:=t
  cases o with
  |some r=>exact v2_ rfl
  |none=>exact a1S
variable{Y:Sx}{α β γ δ:Type}
theorem b6R{enc:β->α}{st:SortSt}{k:PUnit->StateT SortSt Sem α}{S S1:PS}{o:Option (β×PS)}(hf:st=Y.st S1)(h:At Y enc (k ⟨⟩) S1 o):At Y enc ((set st:StateT SortSt Sem PUnit)>>=k) S o:=by
 intro r S' e Q q;refine Ja ?_
 unfold kasC;rw[StateT.run_set];refine Qv ?_
 rw[hf];exact h r S' e Q q
def a2y{γ:Type}(sa:Nat)(l:List (γ ×Nat))(a:Array γ):Array γ:=l.foldl (fun a x=>a.setIfInBounds (sa+x.2) x.1) a
theorem b0I(it:Nat->Keyed)(sa:Nat):∀(l:List (Nat×Nat)) (a:An),a2y sa (l.map fun x=>(it x.1,x.2)) (a.map it)=(a2y sa l a).map it
 |[],_=>rfl
 |x::l,a=>by
  show a2y sa (l.map fun x=>(it x.1,x.2)) ((a.map it).setIfInBounds (sa+x.2) (it x.1))=_
  rw[show(a.map it).setIfInBounds (sa+x.2) (it x.1)=(a.setIfInBounds (sa+x.2) x.1).map it by simp]
  exact b0I it sa l _
theorem b6S(it:Nat->Keyed)(r:An):(r.map it).toList.zipIdx=r.toList.zipIdx.map fun x=>(it x.1,x.2):=by
 rw[Array.toList_map,List.zipIdx_map]
 rfl
def a5h(Y:Lt)(i:Nat)(S:PS):Option (Bool×PS):=match S.pd[i]?,S.pd[i+1]? with
 |some (sa,na,pw),some (sb,nb,_)=>(elS S.a sb {S with pd:=(S.pd.setIfInBounds i (sa,na+nb,pw)).eraseIdxIfInBounds (i+1)}).bind fun x=>(a2w Y false x.1 S.a sa na 0 x.2).bind fun k=>
   if(na-k.1==0)=true then some (true,k.2)else(elS S.a (sa+k.1+(na-k.1)-1) k.2).bind fun y=>(a2w Y true y.1 S.a sb nb (nb-1) y.2).bind fun q=>
    if(q.1==0)=true then some (true,q.2)else if na-k.1≤q.1 then(loS Y (S.a.extract (sa+k.1) sb) (S.a.extract sb (sb+q.1)) q.2).bind fun r=>some (true,{r.2 with a:=a2y (sa+k.1) r.1.toList.zipIdx r.2.a})else none
 |_,_=>none
theorem a7e{i:Nat}{S:PS}:At Y id (mergeAt' i) S (a5h Y.L i S):=by
 unfold a5h;refine a1x ?_
 dsimp only;cases h1:S.pd[i]? with
 |none=>exact a1S
 |some p1=>
  cases h2:S.pd[i+1]? with
  |none=>exact a1S
  |some p2=>
   obtain⟨sa,na,pw⟩:=p1;obtain⟨sb,nb,pw2⟩:=p2;dsimp only;refine b6R (S1:={S with pd:=(S.pd.setIfInBounds i (sa,na+nb,pw)).eraseIdxIfInBounds (i+1)}) rfl ?_
   refine v3_ a0U fun x S1=>v3_ a7a fun k S2=>?_
   refine x1_ (fun _=>v2_ rfl) fun _=>?_
   refine v3_ a0U fun y S3=>v3_ a7a fun q S4=>?_
   refine x1_ (fun _=>v2_ rfl) fun _=>x1_ (fun _=>?_) fun _=>a1S
   have el:=b6Q (Y:=Y) (a:=S.a.extract (sa+k) sb) (b:=S.a.extract sb (sb+q)) (S:=S4)
   rw[←a0v,←a0v]at el;refine v3_ el fun r S5=>a2v (S1:={S5 with a:=a2y (sa+k) r.toList.zipIdx S5.a}) ?_ (a1x (v2_ rfl))
   show SortSt.mk' Y.κ (a2y (sa+k) ((r.map Y.it).toList.zipIdx) (S5.a.map Y.it)) S5.pd S5.mg none=SortSt.mk' Y.κ ((a2y (sa+k) r.toList.zipIdx S5.a).map Y.it) S5.pd S5.mg none;rw[b6S,b0I]
def a7f(Y:Lt)(pw:Nat)(_:Unit)(S:PS):Option (ForInStep Unit×PS):=match (if S.pd.size>1 then S.pd[S.pd.size-2]? else none)with
 |some (_,_,older)=>if older≤pw then some (.done (),S)else(a5h Y (S.pd.size-2) S).bind fun p=>if(!p.1)=true then none else some (.yield (),p.2)
 |none=>some (.done (),S)
def a5i(Y:Lt)(size lo n:Nat)(S:PS):Option (ForInStep Nat×PS):=match S.pd.back? with
 |some (s1,n1,_)=>(a0b (a7f Y (power' size (2 * s1+n1) (2 * s1+n1+n1+n) size)) (size-0) () S).bind fun u=>some (.yield (lo+n),{u.2 with pd:=(u.2.pd.modify (u.2.pd.size-1) fun x=>(x.1,x.2.1,power' size (2 * s1+n1) (2 * s1+n1+n1+n) size)).push (lo,n,0)})
 |none=>some (.yield (lo+n),{S with pd:=S.pd.push (lo,n,0)})
def b0J(Y:Lt)(size lo:Nat)(S:PS):Option (ForInStep Nat×PS):=if lo ≥ size then some (.done lo,S)else(a7b Y lo (size-lo) S).bind fun p=>
 if p.1<minRun' size size 0 then(a7c Y lo (min (size-lo) (minRun' size size 0)) p.1 p.2).bind fun q=>if(!q.1)=true then none else a5i Y size lo (min (size-lo) (minRun' size size 0)) q.2 else a5i Y size lo p.1 p.2
def b0K(Y:Lt)(_:Unit)(S:PS):Option (ForInStep Unit×PS):=if S.pd.size≤1 then some (.done (),S)else
 (a5h Y (if(Option.any (fun x=>decide (x<(S.pd[S.pd.size-2+1]?.elim 0 fun x=>x.2.1))) (if S.pd.size-2>0 then(S.pd[S.pd.size-2-1]?).map (fun x=>x.2.1)else none))=true then S.pd.size-2-1 else S.pd.size-2) S).bind fun p=>if(!p.1)=true then none else some (.yield (),p.2)
def a7g(Y:Lt)(S:PS):Option (Unit×PS):=(a0b (b0J Y S.a.size) (S.a.size-0) 0 S).bind fun p=>(a0b (b0K Y) (S.a.size-0) () p.2).bind fun q=>some ((),q.2)
abbrev eN(n:Nat):Option Unit×Nat:=(none,n)
theorem b6T{S:PS}:At Y id sortRuns' S (a7g Y.L S):=by
 unfold a7g;refine a1x ?_
 refine v3_ (e1:=eN) (a2x (enc:=eN) (b:=0) (d:=S.a.size) rfl (by simp) fun _ lo S0=>?_) fun lo S1=>?_
 ·unfold b0J
  refine a1g (by simp) (fun _=>v2_ rfl) fun _=>?_
  have hz:(S.a.map Y.it).size=S.a.size:=by simp
  show At Y _ (countRun' lo ((S.a.map Y.it).size-lo)>>=_) _ _;rw[hz];refine v3_ b6N fun n S2=>?_
  refine x1_ (fun _=>a3W (v3_ b6P fun ok S3=>x1_ (fun _=>a1S) fun _=>?_)) fun _=>?_
  ·unfold a5i
   refine a1x ?_
   dsimp only;cases h1:S3.pd.back? with
   |none=>
    refine a2v (S1:={S3 with pd:=S3.pd.push (lo,(min (S.a.size-lo) (minRun' S.a.size S.a.size 0)),0)}) rfl ?_
    exact v2_ rfl
   |some p=>
    obtain⟨s1,n1,pw⟩:=p;refine v3_ (e1:=e0) (a2x (enc:=e0) (b:=()) rfl rfl fun _ b S1=>?_) fun _ S1=>?_
    ·unfold a7f
     refine a1x ?_
     dsimp only;cases h2:(if S1.pd.size>1 then S1.pd[S1.pd.size-2]? else none)with
     |none=>exact v2_ rfl
     |some p=>
      obtain⟨_,_,older⟩:=p;refine x1_ (fun _=>v2_ rfl) fun _=>v3_ a7e fun ok S2=>?_
      exact x1_ (fun _=>a1S) fun _=>v2_ rfl
    ·refine a2v (S1:={S1 with pd:=S1.pd.modify (S1.pd.size-1) fun x=>(x.1,x.2.1,power' S.a.size (2 * s1+n1) (2 * s1+n1+n1+(min (S.a.size-lo) (minRun' S.a.size S.a.size 0))) S.a.size)}) rfl ?_
     refine a2v (S1:={S1 with pd:=(S1.pd.modify (S1.pd.size-1) fun x=>(x.1,x.2.1,power' S.a.size (2 * s1+n1) (2 * s1+n1+n1+(min (S.a.size-lo) (minRun' S.a.size S.a.size 0))) S.a.size)).push (lo,(min (S.a.size-lo) (minRun' S.a.size S.a.size 0)),0)}) rfl ?_
     exact v2_ rfl
  ·unfold a5i
   refine a1x ?_
   dsimp only;cases h1:S2.pd.back? with
   |none=>
    refine a2v (S1:={S2 with pd:=S2.pd.push (lo,n,0)}) rfl ?_
    exact v2_ rfl
   |some p=>
    obtain⟨s1,n1,pw⟩:=p;refine v3_ (e1:=e0) (a2x (enc:=e0) (b:=()) rfl rfl fun _ b S1=>?_) fun _ S1=>?_
    ·unfold a7f
     refine a1x ?_
     dsimp only;cases h2:(if S1.pd.size>1 then S1.pd[S1.pd.size-2]? else none)with
     |none=>exact v2_ rfl
     |some p=>
      obtain⟨_,_,older⟩:=p;refine x1_ (fun _=>v2_ rfl) fun _=>v3_ a7e fun ok S2=>?_
      exact x1_ (fun _=>a1S) fun _=>v2_ rfl
    ·refine a2v (S1:={S1 with pd:=S1.pd.modify (S1.pd.size-1) fun x=>(x.1,x.2.1,power' S.a.size (2 * s1+n1) (2 * s1+n1+n1+n) S.a.size)}) rfl ?_
     refine a2v (S1:={S1 with pd:=(S1.pd.modify (S1.pd.size-1) fun x=>(x.1,x.2.1,power' S.a.size (2 * s1+n1) (2 * s1+n1+n1+n) S.a.size)).push (lo,n,0)}) rfl ?_
     exact v2_ rfl
 ·refine v3_ (e1:=e0) (a2x (enc:=e0) (b:=()) (d:=S.a.size) rfl (by simp) fun _ b S2=>?_) fun _ S2=>v2_ rfl
  unfold b0K;refine a1x (x1_ (fun _=>v2_ rfl) fun _=>v3_ a7e fun ok S3=>?_)
  exact x1_ (fun _=>a1S) fun _=>v2_ rfl
section
variable{prog:Program}{w:World}{A:Around}{E:OE}
theorem a1U{n:Nat}(h:n≤1000):n≤sizeLine:=by rw[sizeLine_eq];omega
theorem b0L{D kS:Addr}{e1:Nat}{h0:Heap}{s0:Shared}{body:Value->PUnit->Sem (ForInStep PUnit)}{Q:PUnit->Shared->Prop}(hne:D≠kS)(hk0:∀o,h0.get? kS=some o->False)(hh:A.handled=none)
  (hb:∀x (s:Shared) (R:ForInStep PUnit->Shared->Prop),wpAny (model prog w) A (call (.builtin "sum") [x]) (fun k s'=>wpAny (model prog w) A (Builtin.List.listUpdate (.ref kS) (·.push k)) (fun _ s''=>R (.yield ⟨⟩) s'') E s') (fun _ _=>False) s->wpAny (model prog w) A (body x ⟨⟩) R E s):
  ∀(r:List Value) (ns:OI) (ks:List Value) (kz:List Int) (e tk:Nat) (h:Heap),RowsAre h0 r ns->IntsAre ks kz->ks.length+r.length≤1000->(∀b o,h0.get? b=some o->h.get? b=some o)->h.get? kS=some (seqObj "list" ks.toArray e)->h.get? D=some (seqObj "list" #[] e1)->
   (∀ks' e' tk' h',IntsAre ks' (kz++ns.map List.sum)->(∀b o,h0.get? b=some o->h'.get? b=some o)->h'.get? kS=some (seqObj "list" ks'.toArray e')->h'.get? D=some (seqObj "list" #[] e1)->Q ⟨⟩ {s0 with heap:=h',toks:=tk'})->
   wpAny (model prog w) A (forIn r PUnit.unit body) Q E {s0 with heap:=h,toks:=tk}
 |[],ns,ks,kz,e,tk,h,hr,hi,hz,kp,gk,gd,hQ=>by
  cases hr;rw[Vt];exact Qv (hQ ks e tk h (by simpa using hi) kp gk gd)
 |v::r,ns,ks,kz,e,tk,h,hr,hi,hz,kp,gk,gd,hQ=>by
  cases hr with
  |@cons a its k vs ks0 t i r0=>
   rw[Xm];have t':IsTup h a its.toList.toArray:=by
    obtain⟨o,q1,q2,n,q3⟩:=t;exact⟨o,kp _ _ q1,q2,n,by simpa using q3⟩
   refine Qz (hb _ _ _ (b6J (s:={s0 with heap:=h,toks:=tk}) hh t' i fun h' tk' t2 kp2=>?_))
   have gk':=kp2 _ _ gk
   have ea:ks.toArray.push (Value.int k.sum t2)=(ks++[Value.int k.sum t2]).toArray:=by simp
   rw[Zp]at hz;have hsz:(ks.toArray.push (Value.int k.sum t2)).size≤sizeLine:=by rw[Array.size_push,Qp];exact a1U (by omega)
   refine listUpdate_at (s:={s0 with heap:=h',toks:=tk'}) gk' rfl ?_ (a1U (by rw[Qp];omega)) (Xy hsz)
   have s1:=Ys h' kS (Obj.mapSeq (·.push (Value.int k.sum t2)))
   have gk2:=get?_update_seq gk' (·.push (Value.int k.sum t2))
   rw[ea]at gk2;refine b0L hne hk0 hh hb r ks0 (ks++[Value.int k.sum t2]) (kz++[k.sum]) _ tk' _ r0 (b0x hi) (by rw[Qt,List.length_singleton];omega) (fun b o hbo=>(s1.2 b (fun z=>by subst z;exact hk0 o hbo)).trans (kp2 b o (kp b o hbo))) gk2 ((s1.2 D hne).trans (kp2 _ _ gd)) fun ks' e' tk2 h2 q1 q2 q3 q4=>?_
   exact hQ ks' e' tk2 h2 (by simpa using q1) q2 q3 q4
def a5j(n:Nat)(lt:Nat->Nat->Bool):Option (Array Nat):=(a7g ⟨n,lt⟩ ⟨(List.range n).toArray,#[],7⟩).bind fun p=>if p.2.a.size=n then some p.2.a else none
theorem b6U{s:Shared}{κ:SortKind}{ks vs:List Value}{lt:Nat->Nat->Bool}{p:Array Nat}{Q:Unit×SortSt->Shared->Prop}(hl:ks.length=vs.length)
  (ok:∀i j (C:Bool->Shared->Prop),i<vs.length->j<vs.length->C (lt i j) s->wpAny (model prog w) A (keyLt' κ (ks.getD i Value.none) (ks.getD j Value.none)) C (fun _ _=>False) s)(hp:a5j vs.length lt=some p)
  (h:∀st',p.size=vs.length->arrOf st'=p.map (kas_item (ks.toArray.zip vs.toArray))->failedOf st'=none->Q ((),st') s):wpAny (model prog w) A (sortRuns'.run (SortSt.mk' κ (ks.toArray.zip vs.toArray) #[] 7 none)) Q E s:=by
 obtain⟨⟨u,S'⟩,h1,h2⟩:=z9_ hp;dsimp only at h2;split at h2
 ·rename_i hn
  cases h2;have hok:∀i j (C:Bool->Shared->Prop),i<vs.length->j<vs.length->C (lt i j) s->wpAny (model prog w) A (keyLt' κ (kas_item (ks.toArray.zip vs.toArray) i).1 (kas_item (ks.toArray.zip vs.toArray) j).1) C (fun _ _=>False) s:=fun i j C hi hj hc=>by
   rw[kat_item hl,kat_item hl];exact ok i j C hi hj hc
  let Y:Sx:={prog:=prog,w:=w,A:=A,E:=E,s:=s,κ:=κ,it:=kas_item (ks.toArray.zip vs.toArray),L:=⟨vs.length,lt⟩,ok:=hok}
  have est:SortSt.mk' κ (ks.toArray.zip vs.toArray) #[] 7 none=Y.st ⟨(List.range vs.length).toArray,#[],7⟩:=by
   have e:=kas_range (ks.toArray.zip vs.toArray)
   rw[show(ks.toArray.zip vs.toArray).size=vs.length by simp[hl]]at e
   show SortSt.mk' κ (ks.toArray.zip vs.toArray) #[] 7 none=SortSt.mk' κ ((List.toArray (List.range vs.length)).map (kas_item (ks.toArray.zip vs.toArray))) #[] 7 none;rw[e]
  rw[est];exact(b6T (Y:=Y) () S' h1 (fun _ st s'=>Q ((),st) s') (h _ hn rfl rfl))
 ·cases h2
theorem b6V{s:Shared}{l:Addr}{vs:List Value}{ns:OI}{p:Array Nat}{Q:OE}(hh:A.handled=none)(hl:s.heap.IsList l vs.toArray)(ht:RowsAre s.heap vs ns)(h2:2≤vs.length)(hz:vs.length≤1000)
  (hp:a5j vs.length (fun i j=>decide (((ns.map List.sum).reverse).getD i 0<((ns.map List.sum).reverse).getD j 0))=some p)
  (h:∀c h' tk,(∀b o,s.heap.get? b=some o->h'.get? b=some o)->h'.get? (s.heap.objs.size+1)=some (seqObj "list" ((p.toList.map fun i=>vs.reverse.getD i Value.none).reverse).toArray c)->Q (.ref (s.heap.objs.size+1)) {s with heap:=h',toks:=tk}):
  wpAny (model prog w) A (call (.builtin "sorted") [.ref l] a6X) Q E s:=by
 refine call_function_entry_kw kind_sorted plain_sorted entry_sorted (ksk_s2 _ _ _) ?_
 unfold Builtin.«sorted»;refine Qz (m:=checkCount "sorted" 1 1 _) (Qv ?_);refine Qz (collect_list hl ?_ (a1U hz));refine Qz (wpAny_newList ?_ (a1U hz));generalize hH1:((s.heap.push (seqObj "list" #[] 0)).update s.heap.objs.size (Obj.mapSeq (· ++vs.toArray)))=H1
 have hsz:H1.objs.size=s.heap.objs.size+1:=by rw[←hH1,Heap.size_update,size_push']
 have keep:∀b o,s.heap.get? b=some o->(H1.push (seqObj "list" vs.toArray 0)).get? b=some o:=fun b o q=>by
  have hlt:b<s.heap.objs.size:=Qu q
  refine Qx _ ?_
  rw[←hH1,Heap.get?_update_ne _ _ _ _ (Qi hlt)];exact Qx _ q
 have gD:(H1.push (seqObj "list" vs.toArray 0)).get? H1.objs.size=some (seqObj "list" vs.toArray 0):=Qb _ rfl
 show wpAny _ _ _ _ _ {s with heap:=H1.push (seqObj "list" vs.toArray 0)}
 refine Qz (Jv (wpAny_call_entry_kw slot_list_sort ⟨_,gD,rfl⟩ entry_list_sort ?body (ksk_l2 _ _ _)))
 case body=>
  show wpAny (model prog w) A.in1.in1 (Builtin.«list.sort» ⟨[.ref H1.objs.size],a6X⟩) _ _ _;have ht5:Builtin.«list.sort» ⟨[.ref H1.objs.size],a6X⟩=ksk_tree H1.objs.size (.builtin "sum") true:=ksk_t5 "sum" H1.objs.size true;rw[ht5];unfold ksk_tree;refine Qz (listItems_at gD rfl ?_);refine Qz (listUpdate_at gD rfl ?_ (by rw[Qp];exact a1U hz) (Uz _))
  have u1:=Ys (H1.push (seqObj "list" vs.toArray 0)) H1.objs.size (Obj.mapSeq fun _=>(#[]:Array Value))
  obtain⟨e1,g1⟩:∃e1,((H1.push (seqObj "list" vs.toArray 0)).update H1.objs.size (Obj.mapSeq fun _=>(#[]:Array Value))).get? H1.objs.size=some (seqObj "list" #[] e1):=⟨_,get?_update_seq gD fun _=>#[]⟩
  generalize hH2:(H1.push (seqObj "list" vs.toArray 0)).update H1.objs.size (Obj.mapSeq fun _=>(#[]:Array Value))=H2 at u1 g1
  have kp2:∀b o,s.heap.get? b=some o->H2.get? b=some o:=fun b o q=>by
   refine(u1.2 b ?_).trans (keep b o q);have:=Qu q;exact Qi (by rw[hsz];exact Uw this)
  refine Qz (seqEpoch_at (s:={s with heap:=H2}) g1 rfl ?_)
  refine Qz (wpAny_newTuple ?_ (by show vs.length≤_;exact a1U hz))
  refine Qz (wpAny_newList ?_ (Uz _));refine Jv ?_
  generalize hH3:H2.push (seqObj "tuple" vs.toArray 0)=H3;have kp3:∀b o,H2.get? b=some o->(H3.push (seqObj "list" #[] 0)).get? b=some o:=fun b o q=>Qx _ (by rw[←hH3];exact Qx _ q)
  have gk:(H3.push (seqObj "list" #[] 0)).get? H3.objs.size=some (seqObj "list" #[] 0):=Qb _ rfl
  have hne:H1.objs.size≠H3.objs.size:=by
   have h1:=Qu g1
   rw[←hH3,size_push'];exact Qi (Uw h1)
  have hk0:∀o,s.heap.get? H3.objs.size=some o->False:=fun o q=>by
   have h1:=Qu (kp2 _ _ q)
   rw[←hH3,size_push']at h1;exact absurd h1 (Nat.not_lt_of_le (Nat.le_succ _))
  show wpAny _ A.in1.in1 (ksk_rest H1.objs.size (.builtin "sum") true vs.toArray e1 (.ref H3.objs.size)) _ _ {s with heap:=H3.push (seqObj "list" #[] 0)}
  unfold ksk_rest;refine Qz (Ju ?_)
  first
   |rw[List.forIn_toArray]
   |(rw[←Array.forIn_toList];simp only[List.toList_toArray])
   |rw[←Array.forIn_toList]
  refine Qz (b0L (A:=A.in1.in1) (s0:=s) (D:=H1.objs.size) (kS:=H3.objs.size) (e1:=e1) (h0:=s.heap) hne hk0 (by simp[hh]) (fun x s' R hx=>?_) vs ns [] [] 0 s.toks _ ht .nil (by simpa using hz) (fun b o q=>kp3 b o (kp2 b o q)) gk (kp3 _ _ g1) fun ks' e' tk' h' hi kp gk' gd'=>?_)
  ·refine Qz (Xk (Zq hx (fun k s'' hk=>?_) fun _ _ hF=>hF.elim))
   exact Qz (Zq hk (fun _ s3 h3=>Qv h3) fun _ _ e=>e)
  ·have hi':IntsAre ks' (ns.map List.sum):=by simpa using hi
   have hlen:ks'.length=vs.length:=by rw[hi'.length,Qk,ht.length]
   refine Qz (listItems_at (s:={s with heap:=h',toks:=tk'}) gk' rfl ?_)
   unfold ksk_end;dsimp only;rw[Qc rfl];refine Qz (Ju ?_);have hn2:¬ vs.toArray.size<2:=by rw[Qp];omega
   rw[Qs hn2,Qs hn2];have hkd:=PyProof.Rows.ksk_kind (keys:=ks'.toArray) (kz:=ns.map List.sum) (by simpa using hi') (by simp;omega)
   rw[hkd];refine Qz (Qv ?_);rw[kat_pairs true hlen];have hlr:(katRev true ks').length=(katRev true vs).length:=by rw[kat_len,kat_len,hlen]
   have hr:IntsAre ks'.reverse (ns.map List.sum).reverse:=hi'.reverse
   have at':∀i,i<vs.length->∃t,ks'.reverse.getD i Value.none=.int (((ns.map List.sum).reverse).getD i 0) t:=fun i hi=>by
    have hl:i<ks'.reverse.length:=by rw[List.length_reverse];omega
    obtain⟨t,e⟩:=a3a hr i (ks'.reverse[i]) (by rw[Zt hl])
    exact⟨t,by rw[Ug,Zt hl,Option.getD_some];exact e⟩
   refine Qz (b6U (lt:=fun i j=>decide (((ns.map List.sum).reverse).getD i 0<((ns.map List.sum).reverse).getD j 0)) (p:=p) hlr (fun i j C hi hj hc=>?_) (by rw[kat_len];exact hp) fun st' hps har hf=>?_)
   ·rw[kat_len]at hi hj
    obtain⟨t1,q1⟩:=at' i hi;obtain⟨t2,q2⟩:=at' j hj;show wpAny _ _ (keyLt' oneType' (ks'.reverse.getD i Value.none) (ks'.reverse.getD j Value.none)) C _ _;rw[q1,q2];exact kat_lt_int hc
   ·have hout:=kat_snds hlr har
    have hpl:p.toList.length=vs.length:=by rw[Uf,hps,kat_len]
    unfold ksk_tail;dsimp only;rw[hout,kat_outs];have gkz:ks'.toArray.size≤sizeLine:=by rw[Qp,hlen];exact a1U hz
    refine Qz (listUpdate_at (s:={s with heap:=h',toks:=tk'}) gk' rfl ?_ gkz (Uz _))
    have u4:=Ys h' H3.objs.size (Obj.mapSeq fun _=>(#[]:Array Value))
    generalize h'.update H3.objs.size (Obj.mapSeq fun _=>(#[]:Array Value))=H4 at u4
    refine Qz (wpAny_letGo ?_);have gd4:H4.get? H1.objs.size=some (seqObj "list" #[] e1):=(u4.2 _ hne).trans gd';refine Qz (seqEpoch_at (s:={s with heap:=H4,toks:=tk'}) gd4 rfl ?_)
    have hsz5:(List.toArray (katRev true (p.toList.map fun i=>(katRev true vs).getD i Value.none))).size≤sizeLine:=by
     rw[Qp,kat_len,Qk,hpl];exact a1U hz
    refine Qz (listUpdate_at (s:={s with heap:=H4,toks:=tk'}) gd4 rfl ?_ (Uz _) (Xy hsz5))
    have u5:=Ys H4 H1.objs.size (Obj.mapSeq fun _=>List.toArray (katRev true (p.toList.map fun i=>(katRev true vs).getD i Value.none)))
    have g5:=get?_update_seq gd4 fun _=>List.toArray (katRev true (p.toList.map fun i=>(katRev true vs).getD i Value.none))
    generalize H4.update H1.objs.size (Obj.mapSeq fun _=>List.toArray (katRev true (p.toList.map fun i=>(katRev true vs).getD i Value.none)))=H5 at u5 g5
    rw[hf];simp only[bne_self_eq_false,Zz,Yw];refine Qv ⟨_,rfl,Qv ⟨_,rfl,?_⟩⟩;rw[hsz]at g5 ⊢;refine h _ H5 tk' (fun b o q=>?_) g5
    have hb:=Qu q
    refine(u5.2 b (fun z=>?_)).trans ((u4.2 b (fun z=>by subst z;exact hk0 o q)).trans (kp b o q))
    rw[z,hsz]at hb;exact absurd hb (Nat.not_lt_of_le (Nat.le_succ _))
end
section
variable{X:Cx}{B:OA}{e:Expr}{ma:Mo D}{p p1 kp1 kp2 pos:Pos}{j:Nat}{p2:Pos}
def a2z(ds:List D):Option (List D):=(rows? ds).bind fun ks=>if 2≤ks.length/\ks.length≤1000 then
 (a5j ks.length (fun i j=>decide (((ks.map List.sum).reverse).getD i 0<((ks.map List.sum).reverse).getD j 0))).bind fun p=>if p.toList.length≤1000 then(p.toList.mapM fun i=>ds.reverse[i]?).map List.reverse else none else none
def a7h(m:Mo D):Mo (List D):=fun env=>(m env).bind fun p=>match p.1 with
 |.lst ds=>(a2z ds).map fun es=>(es,p.2)
 |_=>none
theorem b6W(hc:X.calm=true)(he:ED X B e ma)(hg:Gl X "sorted")(hm:X.mg "sorted"=none)(hg2:Gl X "sum")(hm2:X.mg "sum"=none)
  (hs:starEach [e] X.env=(false,eval e X.env)::starEach [] X.env:=by rfl)(hpl:(backTo pos (starEach [] X.env)).any (·.1)=false:=by rfl):
  EL X B (.Call (.Name "sorted" p) [e] [⟨some "key",.Name "sum" p1,kp1⟩,⟨some "reverse",.Constant (.bool true) j p2,kp2⟩] pos) (a7h ma):=by
 have pe:PE X (.Call (.Name "sorted" p) [e] [⟨some "key",.Name "sum" p1,kp1⟩,⟨some "reverse",.Constant (.bool true) j p2,kp2⟩] pos) (fun σ H Q=>TDs X.K B (z2_ ma z4_) σ H fun vs H1=>∃a G ys ds es,vs=[.ref a]/\Le G H1/\SqL X.K G a ys/\z6_ X.K G ys ds/\a2z ds=some es/\∀l zs,H1 l=none->z6_ X.K G zs es->Q (.ref l) (upd H1 l (.lst zs))):=by
  intro pins s σ H Q I h;refine Ul (a2b I hg hm b5F ?_ (by decide) (by decide))
  refine PyProof.Rows.callWith_kw (thn ((z8_ he q1_ hs:EDs X B [e] (z2_ ma z4_)) pos pins s σ H _ I h) fun us s1 ⟨vs,H1,I1,r1,q1⟩=>?_) (by simp only[hs,backTo];rfl) (by simp only[hs,backTo];rfl) rfl rfl
  refine PyProof.Rows.kws_cons (a2b I1 hg2 hm2 a2s (PyProof.Rows.kws_cons ?_) (by decide) (by decide))
  refine thn (a8m (b:=true) pins s1 σ H1 (fun x H2=>x=.bl true/\H2=H1) I1 ⟨rfl,rfl⟩) fun vb s1' ⟨xb,H1',I1',rb,qb⟩=>PyProof.Rows.kws_nil ?_
  obtain⟨rfl,rfl⟩:=qb;cases rb;obtain⟨a,G,ys,ds,es,rfl,l,hq,rp,hs',q⟩:=q1;obtain⟨u,rfl,rx⟩:=a1E r1;cases rx;clear I1;obtain⟨vs,rv,pl,hz⟩:=I1'.list (l.sqL hq);obtain⟨ks,e1,e2⟩:=z9_ hs';split at e2
  case isFalse=>cases e2
  rename_i hn;obtain⟨pa,e3,e4⟩:=z9_ e2;split at e4
  case isFalse=>cases e4
  rename_i hpl;obtain⟨es0,e5,e6⟩:=v5_ e4;subst e6;have ht:RowsAre s1'.heap vs ks:=a5b I1' l rv rp e1;have hlen:=ht.length;obtain⟨zs,h1,h2⟩:=a9L rp.reverse rv.reverse e5;refine b6V (p:=pa) (I1'.ok.hd hc) pl.isList ht (by omega) (by omega) (by rw[hlen];exact e3) fun c h' tk kp gD=>?_
  have hzl:zs.reverse.length≤sizeLine:=by
   have:=h1.length;rw[Qk]at this;rw[List.length_reverse,this];exact Jg (a4t hpl)
  have hs1:s1'.heap.objs.size≤s1'.heap.objs.size+1:=Nat.le_succ _
  exact⟨.ref (s1'.heap.objs.size+1),_,I1'.laid (a:=s1'.heap.objs.size+1) (o:=.lst zs.reverse) (t':=tk) kp hs1 ⟨hzl,_,_,h1.reverse,gD⟩,rfl,q _ zs.reverse (I1'.hok.fresh hs1) h2.reverse⟩
 refine pe_imp pe ?_
 rintro σ H Q ⟨G,env,d,env',rl,e,k⟩;obtain⟨⟨d1,env1⟩,e1,e2⟩:=z9_ e;dsimp only at e2;split at e2
 ·rename_i ds
  obtain⟨es,e3,e4⟩:=v5_ e2;cases e4;refine⟨G,env,[.lst ds],_,rl,by unfold z2_;rw[e1];rfl,fun vs G1 H1 ev r1=>?_⟩
  obtain⟨x,rfl,q⟩:=a0p r1;simp only[Rep]at q;obtain⟨a,ys,rfl,h1,h2⟩:=q;exact⟨a,G1,ys,ds,_,rfl,ev.rel.sub,h1,h2,e3,fun l zs hl rz=>a6f ev hl rz k⟩
 ·cases e2
end
end L2.Mir
namespace L2.Mir
open PySem L2
abbrev rgD(n:Nat):List D:=(List.range n).map fun(i:Nat)=>D.int (i:Int)
theorem b6X(n:Nat):a0B 0 n=rgD n:=by
 unfold a0B rgD;exact Yp fun i _=>by simp
theorem a7i{M:Mo D}{e e1:Env'}{n:Nat}{j:Int}(hM:M e=some (.int j,e1))(hj:j=(n:Int))(hn:n≤10000):a0q (z2_ M z4_) e=some (rgD n,e1):=by
 subst hj;have:=a9Q (ms:=z2_ M z4_) (env:=e) (e1:=e1) (j:=(n:Int)) (by unfold z2_ z4_;rw[hM];rfl) (by omega) (by omega)
 rw[this,Jw,b6X]
theorem b6Y{base:Env'}{w v:W}{k:Nat}(h:base.length=k):(base++[w]).set k v=base++[v]:=by
 subst h;simp
theorem b6Z{base:Env'}{w w2 v v2:W}{k:Nat}(h:base.length=k):((base++[w,w2]).set k v).set (k+1) v2=base++[v,v2]:=by
 subst h;rw[List.set_append_right _ _ (Qm _),Nat.sub_self,List.set_append_right _ _ (by omega)]
 simp
theorem b0M{α:Type}{t:Mo Bool}{m:Mo D}{base:Env'}{q f:α->D}{p:α->Bool}{k:Nat}(hk:base.length=k):∀{l:List α},(∀a∈l,t (base++[.dat (q a)])=some (p a,base++[.dat (q a)])/\(p a=true->m (base++[.dat (q a)])=some (f a,base++[.dat (q a)])))->∀w,∃w',j1_ (gN k) t m (l.map q) (base++[w])=some ((l.filter p).map f,base++[w'])
 |[],_,w=>⟨w,rfl⟩
 |a::l,h,w=>by
  obtain⟨h1,h2⟩:=h a (by simp)
  obtain⟨w',e⟩:=b0M hk (l:=l) (fun x hx=>h x (by simp[hx])) (.dat (q a))
  refine⟨w',?_⟩;rw[Qh];unfold j1_ gN;rw[Qj,b6Y hk,h1,Qj];cases hp:p a with
  |false=>simp only[Zz,Yw];rw[List.filter_cons_of_neg (by simp[hp])];exact e
  |true=>
   simp only[Zh];rw[h2 hp,Qj,List.filter_cons_of_pos hp,Qh];show(j1_ (gN k) t m (l.map q) (base++[.dat (q a)])).map _=_;rw[e];rfl
theorem b0N{α:Type}{mi:Mo (List D)}{keep:List Bool}{t:Mo Bool}{m:Mo D}{env base:Env'}{l:List α}{q f:α->D}{p:α->Bool}{k:Nat}(hi:mi env=some (l.map q,env))(hl:l.length≤100000)(hb:j0_ keep 0 env=base)(hk:base.length=k)
  (h:∀a∈l,t (base++[.dat (q a)])=some (p a,base++[.dat (q a)])/\(p a=true->m (base++[.dat (q a)])=some (f a,base++[.dat (q a)])))(ho:∀w,w3_ keep env (base++[w])=some env):y0_ mi keep 1 (gN k) t m env=some ((l.filter p).map f,env):=by
 obtain⟨w',e⟩:=b0M hk h .nil;refine a3O hi (by simpa using hl) (e2:=base++[w']) ?_ (ho w')
 have:j0_ keep 1 env=base++[.nil]:=by rw[←hb];unfold j0_;simp
 rw[this];exact e
theorem a5k{α:Type}{mi:Mo (List D)}{keep:List Bool}{m:Mo D}{env base:Env'}{l:List α}{q f:α->D}{k:Nat}(hi:mi env=some (l.map q,env))(hl:l.length≤100000)(hb:j0_ keep 0 env=base)(hk:base.length=k)
  (h:∀a∈l,m (base++[.dat (q a)])=some (f a,base++[.dat (q a)]))(ho:∀w,w3_ keep env (base++[w])=some env):y0_ mi keep 1 (gN k) y4_ m env=some (l.map f,env):=by
 have:=b0N (p:=fun _=>true) (t:=y4_) hi hl hb hk (fun a ha=>⟨rfl,fun _=>h a ha⟩) ho
 rw[this,Uh.mpr (fun _ _=>rfl)]
theorem a5l{α:Type}{t:Mo Bool}{m:Mo D}{base:Env'}{q q2 f:α->D}{p:α->Bool}{k:Nat}(hk:base.length=k):∀{l:List α},(∀a∈l,t (base++[.dat (q a),.dat (q2 a)])=some (p a,base++[.dat (q a),.dat (q2 a)])/\(p a=true->m (base++[.dat (q a),.dat (q2 a)])=some (f a,base++[.dat (q a),.dat (q2 a)])))->∀w w2,∃w' w2',j1_ (gT 2 (gCn (gN k) (gCn (gN (k+1)) gNl))) t m (l.map fun a=>.tup [q a,q2 a]) (base++[w,w2])=some ((l.filter p).map f,base++[w',w2'])
 |[],_,w,w2=>⟨w,w2,rfl⟩
 |a::l,h,w,w2=>by
  obtain⟨h1,h2⟩:=h a (by simp)
  obtain⟨w',w2',e⟩:=a5l hk (l:=l) (fun x hx=>h x (by simp[hx])) (.dat (q a)) (.dat (q2 a))
  refine⟨w',w2',?_⟩;rw[Qh];unfold j1_;have hg:gT 2 (gCn (gN k) (gCn (gN (k+1)) gNl)) (.tup [q a,q2 a]) (base++[w,w2])=some (base++[.dat (q a),.dat (q2 a)]):=by
   show some (((base++[w,w2]).set k _).set (k+1) _)=_;rw[b6Z hk]
  rw[hg,Qj,h1,Qj];cases hp:p a with
  |false=>simp only[Zz,Yw];rw[List.filter_cons_of_neg (by simp[hp])];exact e
  |true=>
   simp only[Zh];rw[h2 hp,Qj,List.filter_cons_of_pos hp,Qh];show(j1_ _ t m (l.map _) (base++[.dat (q a),.dat (q2 a)])).map _=_;rw[e];rfl
theorem b7a{α:Type}{mi:Mo (List D)}{keep:List Bool}{t:Mo Bool}{m:Mo D}{env base:Env'}{l:List α}{q q2 f:α->D}{p:α->Bool}{k:Nat}(hi:mi env=some (l.map (fun a=>.tup [q a,q2 a]),env))(hl:l.length≤100000)(hb:j0_ keep 0 env=base)(hk:base.length=k)
  (h:∀a∈l,t (base++[.dat (q a),.dat (q2 a)])=some (p a,base++[.dat (q a),.dat (q2 a)])/\(p a=true->m (base++[.dat (q a),.dat (q2 a)])=some (f a,base++[.dat (q a),.dat (q2 a)])))(ho:∀w w2,w3_ keep env (base++[w,w2])=some env):
  y0_ mi keep 2 (gT 2 (gCn (gN k) (gCn (gN (k+1)) gNl))) t m env=some ((l.filter p).map f,env):=by
 obtain⟨w',w2',e⟩:=a5l hk h .nil .nil;refine a3O hi (by simpa using hl) (e2:=base++[w',w2']) ?_ (ho w' w2')
 have:j0_ keep 2 env=base++[.nil,.nil]:=by rw[←hb];unfold j0_;simp
 rw[this];exact e
theorem a5m{α:Type}{mi:Mo (List D)}{keep:List Bool}{m:Mo D}{env base:Env'}{l:List α}{q q2 f:α->D}{k:Nat}(hi:mi env=some (l.map (fun a=>.tup [q a,q2 a]),env))(hl:l.length≤100000)(hb:j0_ keep 0 env=base)(hk:base.length=k)
  (h:∀a∈l,m (base++[.dat (q a),.dat (q2 a)])=some (f a,base++[.dat (q a),.dat (q2 a)]))(ho:∀w w2,w3_ keep env (base++[w,w2])=some env):y0_ mi keep 2 (gT 2 (gCn (gN k) (gCn (gN (k+1)) gNl))) y4_ m env=some (l.map f,env):=by
 have:=b7a (p:=fun _=>true) (t:=y4_) hi hl hb hk (fun a ha=>⟨rfl,fun _=>h a ha⟩) ho
 rw[this,Uh.mpr (fun _ _=>rfl)]
theorem a4a{g:OZ}{b:Mo Fl}:∀{ds:List D}{P:Nat->Env'->Prop}{env:Env'},(∀i d e,ds[i]? =some d->P i e->∃e1 e2,g d e=some e1/\b e1=some (.nx,e2)/\P (i+1) e2)->P 0 env->∃env',loop g b ds env=some (.nx,env')/\P ds.length env'
 |[],P,env,_,p=>⟨env,rfl,p⟩
 |d::ds,P,env,h,p=>by
  obtain⟨e1,e2,h1,h2,h3⟩:=h 0 d env rfl p;obtain⟨e3,h4,h5⟩:=a4a (ds:=ds) (P:=fun i e=>P (i+1) e) (fun i x e hi q=>h (i+1) x e (by simpa using hi) q) h3
  refine⟨e3,?_,h5⟩;unfold loop;rw[h1];simp only[Qj];rw[h2];exact h4
theorem b0O{g:OZ}{b:Mo Fl}{n:Nat}(P:Nat->Env'->Prop){env:Env'}(h:∀i<n,∀e,P i e->∃e1 e2,g (.int (i:Int)) e=some e1/\b e1=some (.nx,e2)/\P (i+1) e2)(p:P 0 env):∃env',loop g b (rgD n) env=some (.nx,env')/\P n env':=by
 obtain⟨e',h1,h2⟩:=a4a (ds:=rgD n) (g:=g) (b:=b) (P:=P) (env:=env) (fun i d e hi q=>by
  unfold rgD at hi;rw[Zj]at hi
  by_cases hl:i<n
  ·rw[Vi hl]at hi
   cases hi;exact h i hl e q
  ·rw[Vb (by simpa using hl)]at hi;cases hi) p
 refine⟨e',h1,?_⟩;have:(rgD n).length=n:=by simp[rgD]
 rw[this]at h2;exact h2
theorem a8J{m:Mo D}{ml mh:Mo (Option Int)}{e:Env'}{xs:List D}{lo hi:Option Int}(h:m e=some (.tup xs,e))(h1:ml e=some (lo,e))(h2:mh e=some (hi,e)):mSl m ml mh e=some (.tup (a1r xs lo hi),e):=by
 unfold mSl;rw[h,Qj,h1,Qj,h2];rfl
theorem a1V(l:List Int):ints? (l.map D.int)=some l:=by
 induction l with
 |nil=>rfl
 |cons a l ih=>show(ints? (l.map D.int)).map _=_;rw[ih];rfl
theorem y2_{m n:Mo Fl}{e e1:Env'}{r:Option (Fl×Env')}(h:m e=some (.nx,e1))(h2:n e1=r):q0_ m n e=r:=by unfold q0_;rw[h];exact h2
theorem a1W{t:Mo Bool}{m n:Mo Fl}{e e1:Env'}{r:Option (Fl×Env')}(h:t e=some (true,e1))(h2:m e1=r):y3_ t m n e=r:=by unfold y3_;rw[h];exact h2
theorem a0x{t:Mo Bool}{m n:Mo Fl}{e e1:Env'}{r:Option (Fl×Env')}(h:t e=some (false,e1))(h2:n e1=r):y3_ t m n e=r:=by unfold y3_;rw[h];exact h2
theorem b7b{i:Nat}{m:Mo D}{env env':Env'}{w w':W}{d:D}{ds ds':List D}(h0:env[i]? =some w')(h00:w'.mutL=some ds')(h:m env=some (d,env'))(h1:env'[i]? =some w)(h2:w.mutL=some ds)(hl:ds.length<100000):a1p i m env=some (.nx,env'.set i (w.put (ds++[d]))):=by
 unfold a1p;rw[h0];simp only[Qj,h00,h,h1,h2];rw[Qc hl]
theorem b7c{t u:Mo Bool}{e e1:Env'}{r:Option (Bool×Env')}(h:t e=some (false,e1))(h2:u e1=r):a0f t u e=r:=by unfold a0f;rw[h];exact h2
theorem a0y{n:Nat}{f:Fn}{as:Mo (List Ar)}{env e1:Env'}{av:List Ar}{r:D}{ws':List W}(h:as env=some (av,e1))(hn:av.length=n)(hs:slots av=[])(hf:f (av.map (g0_ (.l [])))=some (.d r,ws')):mCD n f as env=some (r,e1):=a0P (a0k h hn hs hf)
theorem b7d{C N:Nat}(hC:1≤C)(hC2:C≤900){body last:Mo Fl}{ns:List Int}(hb:∀k:Nat,k<1000->∀ws:List W,ws.length=N->∃ws':List W,ws'.length=N+1/\body (.dat (.lst (ns.map D.int))::.dat (.int (k:Int))::ws)=some (.nx,.dat (.lst (ns.map D.int))::ws'))
  (hl:∀ws:List W,ws.length=N+1->∃e,last (.dat (.lst (ns.map D.int))::ws)=some (.ret (.bl true),e)):
  ∃ws',fnM (N+2) (q0_ (w6_ (a0q (z2_ (mCB a2X (z2_ (mC (.int 1)) (z2_ (mCB a2Y (z2_ (mCB k3_ (z2_ (z0_ 0) z4_)) (z2_ (mC (.int (C:Int))) z4_))) z4_))) z4_)) (gN 1) body) last) [.dat (.lst (ns.map D.int))]=some (.d (.bl true),ws'):=by
 obtain⟨K,hK,hr⟩:∃K:Nat,K≤C/\(a0q (z2_ (mCB a2X (z2_ (mC (.int 1)) (z2_ (mCB a2Y (z2_ (mCB k3_ (z2_ (z0_ 0) z4_)) (z2_ (mC (.int (C:Int))) z4_))) z4_))) z4_)) (.dat (.lst (ns.map D.int))::List.replicate (N+1) .nil)=some (rgD K,.dat (.lst (ns.map D.int))::List.replicate (N+1) .nil):=by
  let q:Int:=if(C:Int)<(ns.length:Int)then C else(ns.length:Int)
  let p:Int:=if q>1 then q else 1
  have hq:q≤C:=by simp only[q];split<;>omega
  have hp:1≤p/\p≤C:=by simp only[p];split<;>omega
  refine⟨p.toNat,by omega,a7i (j:=p) (u3_ (x3_ rfl (x3_ (u3_ (x3_ (u3_ (x3_ rfl rfl) (show k3_ [.lst (ns.map .int)]=some (.int (ns.length:Int))from ?_)) (x3_ rfl rfl)) (show a2Y [.int (ns.length:Int),.int C]=some (.int q)from rfl)) rfl)) (show a2X [.int 1,.int q]=some (.int p)from rfl)) (by omega) (by omega)⟩
  show some (D.int ((ns.map D.int).length:Nat))=_;rw[Qk]
 obtain⟨e',h1,ws,hws,rfl⟩:=b0O (g:=gN 1) (b:=body) (n:=K) (fun _ e=>∃ws:List W,ws.length=N+1/\e=.dat (.lst (ns.map D.int))::ws) (env:=.dat (.lst (ns.map D.int))::List.replicate (N+1) .nil)
  (fun i hi e ⟨ws,hw,he⟩=>by
   subst he
   match ws,hw with
   |w::ws,hw=>
    obtain⟨ws',h1,h2⟩:=hb i (by omega) ws (by simpa using hw)
    exact⟨_,_,rfl,h2,ws',h1,rfl⟩) ⟨_,by simp,rfl⟩
 obtain⟨e2,h2⟩:=hl ws hws;refine⟨_,j4_ (d:=.bl true) (env:=e2) ?_⟩;show q0_ _ _ (.dat (.lst (ns.map D.int))::List.replicate (N+1) .nil)=_;exact y2_ ((a1R hr).trans h1) h2
theorem b0P(l:List Int):g5_ [.lst (l.map D.int)]=some (.int l.sum):=by
 show(ints? _).map _=_;rw[a1V];rfl
theorem a4b{ms:Mo (List D)}{env e1:Env'}{ds:List D}(h:ms env=some (ds,e1))(hl:ds.length≤1000):q7_ ms env=some (.tup ds,e1):=by unfold q7_;rw[h,Qj];simp only[hl,Zh]
theorem b0Q{α:Type}(l:List α)(p q:α->D):a0E (l.map p) (l.map q)=l.map fun a=>.tup [p a,q a]:=by
 unfold a0E
 induction l with
 |nil=>rfl
 |cons a l ih=>rw[Qh,Qh,Jr,Qh,ih,Qh]
theorem b7e{ms:Mo (List D)}{e e1:Env'}{a b:D}{α:Type}{l:List α}{p q:α->D}(h:ms e=some ([a,b],e1))(ha:a.items=some (l.map p))(hb:b.items=some (l.map q)):a1e ms e=some (l.map fun a=>.tup [p a,q a],e1):=by
 unfold a1e;rw[h];show a.items.bind _=_;rw[ha];show b.items.map _=_;rw[hb,Yu,b0Q]
theorem a5n{m n:Mo D}{e e1:Env'}{r:Option (D×Env')}(h:m e=some (.bl true,e1))(h2:n e1=r):a1n m n e=r:=by unfold a1n;rw[h];exact h2
theorem a0V{i:Nat}{m:Mo D}{env e1 e2:Env'}{d:D}(h:m env=some (d,e1))(he:e1.set i (.dat d)=e2):v1_ i m env=some (.nx,e2):=by rw[a0F h,he]
theorem a7j{i:Nat}{m:Mo (List D)}{env e1 e2:Env'}{d:List D}(h:m env=some (d,e1))(he:e1.set i (.own d)=e2):w5_ i m env=some (.nx,e2):=by rw[b5I h,he]
theorem a7k{i j:Nat}{ms:Mo (List D)}{env e1 e2:Env'}{a b:D}(h:ms env=some ([a,b],e1))(he:(e1.set i (.dat a)).set j (.dat b)=e2):a1K i j ms env=some (.nx,e2):=by
 unfold a1K;rw[h,←he];rfl
theorem a4c{N:Nat}{mb:Mo Fl}{ws env ws':List W}{d:D}(h:mb (ws++List.replicate (N-ws.length) .nil)=some (.ret d,env))(he:a0r ws env=ws'):fnM N mb ws=some (.d d,ws'):=by rw[j4_ h,he]
theorem b7f{N:Nat}{mb:Mo Fl}{ws env ws':List W}{d:List D}(h:mb (ws++List.replicate (N-ws.length) .nil)=some (.retL d,env))(he:a0r ws env=ws'):fnM N mb ws=some (.l d,ws'):=by rw[a4V h,he]
abbrev up(a n:Nat):List Nat:=(List.range (n-a)).map (a+ ·)
end L2.Mir
namespace L2.Mir
open PySem PySem.W
structure DfAt(K:Frag)(x:Str)(st:Stmt)(f:Addr)(pm:Value)(cd:Addr):Prop where
 a:nsIn K mainGlobals x=some (some (.ref f))
 l:K.lookup f=some ⟨.type "function",none,.func (fnOf x x (a2g st) (a1m st) (y7_ st) .none .none .none pm none (.ref cd) .none),⟨[]⟩⟩
 c:codeIn K (.ref cd) x=true
 k:keepIn K (.ref f)=true
theorem DfAt.f{K:Frag}{x:Str}{st:Stmt}{f:Addr}{pm:Value}{cd:Addr}(A:DfAt K x st f pm cd):Fun K x x st f (fnOf x x (a2g st) (a1m st) (y7_ st) .none .none .none pm none (.ref cd) .none):=b4k A.l A.c A.k
theorem DfAt.g{K:Frag}{x:Str}{st:Stmt}{f:Addr}{pm:Value}{cd:Addr}{h:Heap}{mg:OU}(A:DfAt K x st f pm cd)(X:K.In h)(G:h.Ns mainGlobals mg):mg x=some (.ref f):=mg_of X G A.a
theorem dM(P:Program)(w:World)(base:Heap){K:Frag}{x:Str}{st:Stmt}{f cd:Addr}{pm:Value}{k n:Nat}{fn:Fn}{fd:FuncData}{ps:List Str}{h:Heap}{mg:OU}(o:FnOk P w K mg base CX0 k f fd ps (SpF K n fn))(A:DfAt K x st f pm cd)(X:K.In h)(G:h.Ns mainGlobals mg)(b:a0e K fd ps [])(e:ps.length=n:=by rfl):Def P w K mg base x k n fn:=⟨_,_,_,o,e,A.g X G,A.k,b⟩
end L2.Mir
namespace K82
open PySem L2 L2.Mir
def top(i:Nat):Stmt:=PySem.Challenge.pw_turnsigns_k82_rows_that_come_next.main.body.getD i (.Pass ⟨0,0,0,0⟩)
abbrev a7l:Stmt:=top 5
abbrev a7m:Stmt:=top 6
abbrev a7n:Stmt:=top 7
abbrev a7o:Stmt:=top 8
abbrev a7p:Stmt:=top 11
abbrev a7q:Stmt:=top 12
abbrev a7r:Stmt:=top 13
abbrev a5o:Stmt:=top 14
abbrev a7s:Stmt:=top 15
abbrev a7t:Stmt:=top 17
abbrev a7u:Stmt:=top 18
abbrev a7v:Stmt:=top 19
abbrev a7w:Stmt:=top 20
abbrev a7x:Stmt:=top 22
abbrev a7y:Stmt:=top 23
abbrev a7z:Stmt:=top 24
abbrev a7A:Stmt:=top 25
abbrev a7B:Stmt:=top 26
abbrev a7C:Stmt:=top 27
abbrev a7D:Stmt:=top 28
abbrev a7E:Stmt:=top 29
abbrev a7F:Stmt:=top 30
abbrev a3m:Stmt:=top 31
structure Txt(K:Qq)(mg:OU):Prop where
 g_isinstance:mg "isinstance"=none
 g_int:mg "int"=none
 g_bool:mg "bool"=none
 g_all:mg "all"=none
 g_tuple:mg "tuple"=none
 g_len:mg "len"=none
 g_sum:mg "sum"=none
 g_zip:mg "zip"=none
 g_range:mg "range"=none
 g_min:mg "min"=none
 g_sorted:mg "sorted"=none
 g_list:mg "list"=none
 g_max:mg "max"=none
 c_GREATEST_SIDE:∃t,mg "GREATEST_SIDE"=some (.int 6 t)
section
variable{P:Program}{w:World}{K:Qq}{mg:OU}{base:Heap}
theorem b7g:FnScope ["thing"] ["thing"] (y7_ a7l):=k9_
def b7h:Mo Fl:=(y9_ (a1n (mIs "int" (z0_ 0)) (a6e (mIs "bool" (z0_ 0)))))
def a1h:Fn:=fnM 1 b7h
theorem b7i{f:Addr}{fd:FuncData}(F:Fun K "is_whole" "is_whole" a7l f fd)(T:Txt K mg):FnOk P w K mg base CX0 1 f fd ["thing"] (SpF K 1 a1h):=
 k8_ F b7g fun cdv A outer s H E hr=>(@v4_ _ _ _ _ (@k1_ _ _ _ _ _ (@a3C _ _ _ _ _ _ _ _ (@a0N _ _ _ _ _ _ _ _ _ (by exact b4U) (@z3_ _ _ _ _ _ (pv 0)) (by exact rfl) (by exact T.g_isinstance) (by exact rfl) (by exact T.g_int) (by exact a9N) (by decide) (by decide) (by exact se2 rfl rfl)) (@a3B _ _ _ _ _ _ (@b4y _ _ _ _ _ (@a0N _ _ _ _ _ _ _ _ _ (by exact a6w) (@z3_ _ _ _ _ _ (pv 0)) (by exact rfl) (by exact T.g_isinstance) (by exact rfl) (by exact T.g_bool) (by exact a6G) (by decide) (by decide) (by exact se2 rfl rfl)))))))
theorem b7j:FnScope ["thing","least","greatest"] ["thing","least","greatest"] (y7_ a7m):=k9_
def b7k:Mo Fl:=(y9_ (a1n (mCD 1 a1h (z7_ (z0_ 0) q2_)) (a4F dLe dLe (z0_ 1) (z0_ 0) (z0_ 2))))
def a7G:Fn:=fnM 3 b7k
theorem b7l{f:Addr}{fd:FuncData}(F:Fun K "is_within" "is_within" a7m f fd)(T:Txt K mg)(d_is_whole:Def P w K mg base "is_whole" 1 1 a1h):FnOk P w K mg base CX0 2 f fd ["thing","least","greatest"] (SpF K 3 a7G):=
 k8_ F b7j fun cdv A outer s H E hr=>(@v4_ _ _ _ _ (@k1_ _ _ _ _ _ (@a3C _ _ _ _ _ _ _ _ (@k2_ _ _ _ _ _ _ _ _ _ _ _ (by exact d_is_whole) (by exact(hr.mono (show 1≤1 by decide))) (by exact rfl) (@q9_ _ _ _ _ _ _ (@z3_ _ _ _ _ _ (pv 0)) (@y5_ _ _) (by exact z1_ rfl)) (by decide) (by exact z1_ rfl) (by exact q5_ rfl)) (@a3B _ _ _ _ _ _ (@b4A _ _ _ _ _ _ _ _ _ _ _ _ _ _ _ (by exact a8x) (by exact a8x) (by exact a9c) (by exact a9c) (@z3_ _ _ _ _ _ (pv 1)) (@z3_ _ _ _ _ _ (pv 0)) (@z3_ _ _ _ _ _ (pv 2)) (by with_unfolding_all rfl))))))
theorem b7m:FnScope ["thing","width"] ["thing","width"] (y7_ a7n):=k9_
theorem nd1:(["-0","-1","number"]:List Str).Nodup:=by decide+kernel
def a7H:Mo Fl:=(q0_ (y3_ (a0f (u8_ (mT (mIs "tuple" (z0_ 0)))) (mT (z5_ (dEq true) (mCB k3_ (z2_ (z0_ 0) z4_)) (z0_ 1)))) (y9_ (mC (.bl false))) mNx) (y9_ (mCB a2W (z2_ (mF (y0_ (v6_ (z0_ 0)) [false,false] 1 (gN 2) y4_ (mCD 1 a1h (z7_ (z0_ 2) q2_)))) z4_))))
def a1A:Fn:=fnM 2 a7H
theorem b7n{f:Addr}{fd:FuncData}(F:Fun K "is_row" "is_row" a7n f fd)(T:Txt K mg)(d_is_whole:Def P w K mg base "is_whole" 1 1 a1h):FnOk P w K mg base CX0 2 f fd ["thing","width"] (SpF K 2 a1A):=
 k8_ F b7m fun cdv A outer s H E hr=>(@v0_ _ _ _ _ _ _ (@j3_ _ _ _ _ _ _ _ _ _ (@a2j _ _ _ _ (@a4D _ _ _ _ _ _ _ _ (@a3A _ _ _ _ _ (@a2i _ _ _ _ (@a0N _ _ _ _ _ _ _ _ _ (by exact a2V) (@z3_ _ _ _ _ _ (pv 0)) (by exact rfl) (by exact T.g_isinstance) (by exact rfl) (by exact T.g_tuple) (by exact a1P) (by decide) (by decide) (by exact se2 rfl rfl)) (by intro _;rfl))) (@a4C _ _ _ _ _ (@k5_ _ _ _ _ _ _ _ _ _ _ (by exact(op_neD hr.units)) (by exact opd_eq) (@w1_ _ _ _ _ _ _ _ _ _ _ _ (by exact a1F) (by exact a1J) (by exact rfl) (by exact T.g_len) (by exact Ye) (@z8_ _ _ _ _ _ _ (@z3_ _ _ _ _ _ (pv 0)) (@q1_ _ _) (by exact z1_ rfl)) (by decide) (by decide) (by exact z1_ rfl) (by exact q5_ rfl)) (@z3_ _ _ _ _ _ (pv 1)) (by exact(nomark _)))))) (@v4_ _ _ _ _ (@k1_ _ _ _ _ _ (@a1G _ _ _ _ _))) (@j2_ _ _)) (@v4_ _ _ _ _ (@k1_ _ _ _ _ _ (@w1_ _ _ _ _ _ _ _ _ _ _ _ (by exact(a6x rfl)) (by exact a6y) (by exact rfl) (by exact T.g_all) (by exact a6I) (@z8_ _ _ _ _ _ _ (@x7_ _ _ _ _ (@a0m _ _ ["-0","-1","number"] _ [false,false] 1 _ _ _ _ _ _ _ _ _ (by exact(g3_ rfl rfl)) (by exact rfl) (@w2_ _ _ _ _ _ (@z3_ _ _ _ _ _ (pv 0))) (fun s H fp=>(@x0_ _ _ _ _ 2 _ (by exact(show 2≤2 by decide)) (by exact nd1) (by exact rfl) (by first|exact Or.inl rfl|exact Or.inr rfl) (by first|exact .inl rfl|exact .inr rfl|assumption))) (fun s H fp=>(@a0h _ _)) (fun s H fp=>(@k2_ _ _ _ _ _ _ _ _ _ _ _ (by exact d_is_whole) (by exact(hr.mono (show 1≤1 by decide))) (by exact rfl) (@q9_ _ _ _ _ _ _ (@z3_ _ _ _ _ _ (pv 2)) (@y5_ _ _) (by exact z1_ rfl)) (by decide) (by exact z1_ rfl) (by exact q5_ rfl))) (by intro _;rfl))) (@q1_ _ _) (by exact z1_ rfl)) (by decide) (by decide) (by exact z1_ rfl) (by exact q5_ rfl)))))
theorem b7o:FnScope ["thing","many","width"] ["thing","many","width"] (y7_ a7o):=k9_
theorem nd2:(["-0","-1","width","row"]:List Str).Nodup:=by decide+kernel
def a4d:Mo Fl:=(q0_ (y3_ (a0f (u8_ (mT (mIs "tuple" (z0_ 0)))) (mT (z5_ (dEq true) (mCB k3_ (z2_ (z0_ 0) z4_)) (z0_ 1)))) (y9_ (mC (.bl false))) mNx) (y9_ (mCB a2W (z2_ (mF (y0_ (v6_ (z0_ 0)) [false,false,true] 1 (gN 3) y4_ (mCD 2 a1A (z7_ (z0_ 3) (z7_ (z0_ 2) q2_))))) z4_))))
def a5p:Fn:=fnM 3 a4d
theorem b7p{f:Addr}{fd:FuncData}(F:Fun K "is_grid" "is_grid" a7o f fd)(T:Txt K mg)(d_is_row:Def P w K mg base "is_row" 2 2 a1A):FnOk P w K mg base CX0 3 f fd ["thing","many","width"] (SpF K 3 a5p):=
 k8_ F b7o fun cdv A outer s H E hr=>(@v0_ _ _ _ _ _ _ (@j3_ _ _ _ _ _ _ _ _ _ (@a2j _ _ _ _ (@a4D _ _ _ _ _ _ _ _ (@a3A _ _ _ _ _ (@a2i _ _ _ _ (@a0N _ _ _ _ _ _ _ _ _ (by exact a2V) (@z3_ _ _ _ _ _ (pv 0)) (by exact rfl) (by exact T.g_isinstance) (by exact rfl) (by exact T.g_tuple) (by exact a1P) (by decide) (by decide) (by exact se2 rfl rfl)) (by intro _;rfl))) (@a4C _ _ _ _ _ (@k5_ _ _ _ _ _ _ _ _ _ _ (by exact(op_neD hr.units)) (by exact opd_eq) (@w1_ _ _ _ _ _ _ _ _ _ _ _ (by exact a1F) (by exact a1J) (by exact rfl) (by exact T.g_len) (by exact Ye) (@z8_ _ _ _ _ _ _ (@z3_ _ _ _ _ _ (pv 0)) (@q1_ _ _) (by exact z1_ rfl)) (by decide) (by decide) (by exact z1_ rfl) (by exact q5_ rfl)) (@z3_ _ _ _ _ _ (pv 1)) (by exact(nomark _)))))) (@v4_ _ _ _ _ (@k1_ _ _ _ _ _ (@a1G _ _ _ _ _))) (@j2_ _ _)) (@v4_ _ _ _ _ (@k1_ _ _ _ _ _ (@w1_ _ _ _ _ _ _ _ _ _ _ _ (by exact(a6x rfl)) (by exact a6y) (by exact rfl) (by exact T.g_all) (by exact a6I) (@z8_ _ _ _ _ _ _ (@x7_ _ _ _ _ (@a0m _ _ ["-0","-1","width","row"] _ [false,false,true] 1 _ _ _ _ _ _ _ _ _ (by exact(g3_ rfl rfl)) (by exact rfl) (@w2_ _ _ _ _ _ (@z3_ _ _ _ _ _ (pv 0))) (fun s H fp=>(@x0_ _ _ _ _ 3 _ (by exact(show 3≤3 by decide)) (by exact nd2) (by exact rfl) (by first|exact Or.inl rfl|exact Or.inr rfl) (by first|exact .inl rfl|exact .inr rfl|assumption))) (fun s H fp=>(@a0h _ _)) (fun s H fp=>(@k2_ _ _ _ _ _ _ _ _ _ _ _ (by exact d_is_row) (by exact(hr.mono (show 2≤2 by decide))) (by exact rfl) (@q9_ _ _ _ _ _ _ (@z3_ _ _ _ _ _ (pv 3)) (@q9_ _ _ _ _ _ _ (@z3_ _ _ _ _ _ (pv 2)) (@y5_ _ _) (by exact z1_ rfl)) (by exact z1_ rfl)) (by decide) (by exact z1_ rfl) (by exact q5_ rfl))) (by intro _;rfl))) (@q1_ _ _) (by exact z1_ rfl)) (by decide) (by decide) (by exact z1_ rfl) (by exact q5_ rfl)))))
theorem b7q:FnScope ["thing","least","greatest","name"] ["thing","least","greatest","name"] (y7_ a7p):=k9_
def b7r:Mo Fl:=(y3_ (u8_ (mT (mCD 3 a7G (z7_ (z0_ 0) (z7_ (z0_ 1) (z7_ (z0_ 2) q2_)))))) a2P mNx)
def a5q:Fn:=fnM 4 b7r
theorem b7s{f:Addr}{fd:FuncData}(F:Fun K "must_be_within" "must_be_within" a7p f fd)(T:Txt K mg)(d_is_within:Def P w K mg base "is_within" 2 3 a7G):FnOk P w K mg base CX0 3 f fd ["thing","least","greatest","name"] (SpF K 4 a5q):=
 k8_ F b7q fun cdv A outer s H E hr=>(@v4_ _ _ _ _ (@j3_ _ _ _ _ _ _ _ _ _ (@a3A _ _ _ _ _ (@a2i _ _ _ _ (@k2_ _ _ _ _ _ _ _ _ _ _ _ (by exact d_is_within) (by exact(hr.mono (show 2≤2 by decide))) (by exact rfl) (@q9_ _ _ _ _ _ _ (@z3_ _ _ _ _ _ (pv 0)) (@q9_ _ _ _ _ _ _ (@z3_ _ _ _ _ _ (pv 1)) (@q9_ _ _ _ _ _ _ (@z3_ _ _ _ _ _ (pv 2)) (@y5_ _ _) (by exact z1_ rfl)) (by exact z1_ rfl)) (by exact z1_ rfl)) (by decide) (by exact z1_ rfl) (by exact q5_ rfl)) (by intro _;rfl))) (@v4_ _ _ _ _ (@a6j _ _ _)) (@j2_ _ _)))
theorem a5r:FnScope ["sums","rows","above"] ["sums"] (y7_ a7q):=k9_
theorem nd3:(["-0","-1","-2","row"]:List Str).Nodup:=by decide+kernel
theorem nd4:(["-0","-1","above","row","number"]:List Str).Nodup:=by decide+kernel
def b7t:Mo Fl:=(q0_ (v1_ 1 (mF (w9_ (z2_ (q7_ z4_) z4_)))) (q0_ (w6_ (v6_ (z0_ 0)) (gN 2) (w5_ 1 (a2t (v6_ (z0_ 1)) [false,false,true] 2 (gN 3) y4_ (aIn (v6_ (q7_ (z2_ (a4E (mC (.int 1))) (z2_ (mC (.int 0)) (z2_ (mC (.int 1)) z4_))))) (gN 4) (a2N (mT (z5_ (dIn false) (z5_ x2_ (z0_ 2) (z0_ 4)) (q7_ (z2_ (mC (.int 0)) (z2_ (mC (.int 1)) z4_))))) (mT (z5_ (dIn false) (z5_ x2_ (mCB g5_ (z2_ (z0_ 3) z4_)) (z0_ 4)) (q7_ (z2_ (mC (.int 0)) (z2_ (mC (.int 1)) z4_)))))) (a0t (z5_ x2_ (z0_ 3) (q7_ (z2_ (z0_ 4) z4_)))))))) (a1c (y0_ (v6_ (z0_ 1)) [false,false,false] 1 (gN 3) (mT (z5_ (dEq false) (mCB g5_ (z2_ (z0_ 3) z4_)) (mC (.int 1)))) (z0_ 3)))))
def a1i:Fn:=fnM 3 b7t
theorem b7u{f:Addr}{fd:FuncData}(F:Fun K "rows_on" "rows_on" a7q f fd)(T:Txt K mg):FnOk P w K mg base CX0 1 f fd ["sums"] (SpF K 1 a1i):=
 k8_ F a5r fun cdv A outer s H E hr=>(@v0_ _ _ _ _ _ _ (@x9_ _ _ _ _ _ 1 _ _ (by exact a5r.nd) (by exact rfl) (by first|exact Or.inl rfl|exact Or.inr rfl) (@x7_ _ _ _ _ (@a1b _ _ _ _ _ (@z8_ _ _ _ _ _ _ (@y8_ _ _ _ _ _ _ (@q1_ _ _)) (@q1_ _ _) (by exact z1_ rfl)))) (by rfl) (by first|exact .inl rfl|exact .inr rfl|assumption)) (@v0_ _ _ _ _ _ _ (@a0L _ _ _ _ _ _ _ _ _ (by exact Zf) (by exact rfl) (@w2_ _ _ _ _ _ (@z3_ _ _ _ _ _ (pv 0))) (@x0_ _ _ _ _ 2 _ (by exact(show 0≤2 by decide)) (by exact a5r.nd) (by exact rfl) (by first|exact Or.inl rfl|exact Or.inr rfl) (by first|exact .inl rfl|exact .inr rfl|assumption)) (@v4_ _ _ _ _ (@b0p _ _ ["-0","-1","above","row","number"] _ [false,false,true] 2 _ _ _ _ _ _ _ _ _ _ 1 _ _ _ (by exact(g3_ rfl rfl)) (by exact rfl) (by exact a5r.nd) (by exact rfl) (by exact rfl) (by exact rfl) (@w2_ _ _ _ _ _ (@z3_ _ _ _ _ _ (pv 1))) (fun s H fp=>(@x0_ _ _ _ _ 3 _ (by exact(show 3≤3 by decide)) (by exact nd4) (by exact rfl) (by first|exact Or.inl rfl|exact Or.inr rfl) (by first|exact .inl rfl|exact .inr rfl|assumption))) (fun s H fp=>(@a0h _ _)) (fun s H fp p=>(@b6b _ _ _ _ _ _ _ _ _ _ _ _ _ _ _ _ _ _ _ _ _ (by exact rfl) (by exact rfl) (@w2_ _ _ _ _ _ (@y8_ _ _ _ _ _ _ (@z8_ _ _ _ _ _ _ (@a9f _ _ _ _ _ (@q4_ _ _ _ _ _)) (@z8_ _ _ _ _ _ _ (@q4_ _ _ _ _ _) (@z8_ _ _ _ _ _ _ (@q4_ _ _ _ _ _) (@q1_ _ _) (by exact z1_ rfl)) (by exact z1_ rfl)) (by exact z1_ rfl)))) (@x0_ _ _ _ _ 4 _ (by exact(show 3≤4 by decide)) (by exact nd4) (by exact rfl) (by first|exact Or.inl rfl|exact Or.inr rfl) (by first|exact .inl rfl|exact .inr rfl|assumption)) (@a4P _ _ _ _ (@a2j _ _ _ _ (@a6d _ _ _ _ _ _ _ _ (@k5_ _ _ _ _ _ _ _ _ _ _ (by exact a8R) (by exact a6z) (@v9_ _ _ _ _ _ _ _ _ _ _ (by exact g1_) (by exact g2_) (@z3_ _ _ _ _ _ (pv 2)) (@z3_ _ _ _ _ _ (pv 4))) (@y8_ _ _ _ _ _ _ (@z8_ _ _ _ _ _ _ (@q4_ _ _ _ _ _) (@z8_ _ _ _ _ _ _ (@q4_ _ _ _ _ _) (@q1_ _ _) (by exact z1_ rfl)) (by exact z1_ rfl))) (by with_unfolding_all rfl)) (@a6c _ _ _ _ _ (@k5_ _ _ _ _ _ _ _ _ _ _ (by exact a8R) (by exact a6z) (@v9_ _ _ _ _ _ _ _ _ _ _ (by exact g1_) (by exact g2_) (@w1_ _ _ _ _ _ _ _ _ _ _ _ (by exact(a3b rfl)) (by exact a3c) (by exact rfl) (by exact T.g_sum) (by exact a2s) (@z8_ _ _ _ _ _ _ (@z3_ _ _ _ _ _ (pv 3)) (@q1_ _ _) (by exact z1_ rfl)) (by decide) (by decide) (by exact z1_ rfl) (by exact q5_ rfl)) (@z3_ _ _ _ _ _ (pv 4))) (@y8_ _ _ _ _ _ _ (@z8_ _ _ _ _ _ _ (@q4_ _ _ _ _ _) (@z8_ _ _ _ _ _ _ (@q4_ _ _ _ _ _) (@q1_ _ _) (by exact z1_ rfl)) (by exact z1_ rfl))) (by with_unfolding_all rfl)))))) (@a6P _ _ _ _ _ _ _ _ _ _ _ _ _ _ _ (by exact rfl) (@v9_ _ _ _ _ _ _ _ _ _ _ (by exact g1_) (by exact g2_) (@z3_ _ _ _ _ _ (pv 3)) (@y8_ _ _ _ _ _ _ (@z8_ _ _ _ _ _ _ (@z3_ _ _ _ _ _ (pv 4)) (@q1_ _ _) (by exact z1_ rfl))))) (by intro _;rfl))) (by intro _;rfl))) (by intro _;rfl)) (@v4_ _ _ _ _ (@a2Q _ _ _ _ _ (@a0m _ _ ["-0","-1","-2","row"] _ [false,false,false] 1 _ _ _ _ _ _ _ _ _ (by exact(g3_ rfl rfl)) (by exact rfl) (@w2_ _ _ _ _ _ (@z3_ _ _ _ _ _ (pv 1))) (fun s H fp=>(@x0_ _ _ _ _ 3 _ (by exact(show 3≤3 by decide)) (by exact nd3) (by exact rfl) (by first|exact Or.inl rfl|exact Or.inr rfl) (by first|exact .inl rfl|exact .inr rfl|assumption))) (fun s H fp=>(@a4P _ _ _ _ (@k5_ _ _ _ _ _ _ _ _ _ _ (by exact(op_eqD hr.units)) (by exact opd_eq) (@w1_ _ _ _ _ _ _ _ _ _ _ _ (by exact(a3b rfl)) (by exact a3c) (by exact rfl) (by exact T.g_sum) (by exact a2s) (@z8_ _ _ _ _ _ _ (@z3_ _ _ _ _ _ (pv 3)) (@q1_ _ _) (by exact z1_ rfl)) (by decide) (by decide) (by exact z1_ rfl) (by exact q5_ rfl)) (@q4_ _ _ _ _ _) (by exact(nomark _))))) (fun s H fp=>(@z3_ _ _ _ _ _ (pv 3))) (by intro _;rfl))))))
theorem b7v:FnScope ["sums","row"] ["sums","row"] (y7_ a7r):=k9_
theorem nd5:(["-0","-1","above","number"]:List Str).Nodup:=by decide+kernel
def a7I:Mo Fl:=(y9_ (mCB a6i (z2_ (mF (y0_ (a1e (z2_ (z0_ 0) (z2_ (z0_ 1) z4_))) [false,false] 2 (gT 2 (gCn (gN 2) (gCn (gN 3) gNl))) y4_ (z5_ x2_ (z0_ 2) (z0_ 3)))) z4_)))
def a1j:Fn:=fnM 2 a7I
theorem b7w{f:Addr}{fd:FuncData}(F:Fun K "added" "added" a7r f fd)(T:Txt K mg):FnOk P w K mg base CX0 1 f fd ["sums","row"] (SpF K 2 a1j):=
 k8_ F b7v fun cdv A outer s H E hr=>(@v4_ _ _ _ _ (@k1_ _ _ _ _ _ (@a6h _ _ _ _ _ _ _ _ _ _ _ (by exact a8S) (by exact a9j) (by exact rfl) (by exact T.g_tuple) (by exact a1P) (@z8_ _ _ _ _ _ _ (@x7_ _ _ _ _ (@a0m _ _ ["-0","-1","above","number"] _ [false,false] 2 _ _ _ _ _ _ _ _ _ (by exact(g3_ rfl rfl)) (by exact rfl) (@a6E _ _ _ _ _ _ _ _ _ _ (by exact rfl) (by exact T.g_zip) (@z8_ _ _ _ _ _ _ (@z3_ _ _ _ _ _ (pv 0)) (@z8_ _ _ _ _ _ _ (@z3_ _ _ _ _ _ (pv 1)) (@q1_ _ _) (by exact z1_ rfl)) (by exact z1_ rfl)) (by exact se2 rfl rfl) (by exact se1 rfl)) (fun s H fp=>(@a2m _ _ _ _ _ _ _ _ (by exact rfl) (@a0g _ _ _ _ _ _ _ (@x0_ _ _ _ _ 2 _ (by exact(show 2≤2 by decide)) (by exact nd5) (by exact rfl) (by first|exact Or.inl rfl|exact Or.inr rfl) (by first|exact .inl rfl|exact .inr rfl|assumption)) (@a0g _ _ _ _ _ _ _ (@x0_ _ _ _ _ 3 _ (by exact(show 2≤3 by decide)) (by exact nd5) (by exact rfl) (by first|exact Or.inl rfl|exact Or.inr rfl) (by first|exact .inl rfl|exact .inr rfl|assumption)) (@a2l _ _ _) (by rfl)) (by rfl)) (by rfl) (by rfl))) (fun s H fp=>(@a0h _ _)) (fun s H fp=>(@v9_ _ _ _ _ _ _ _ _ _ _ (by exact g1_) (by exact g2_) (@z3_ _ _ _ _ _ (pv 2)) (@z3_ _ _ _ _ _ (pv 3)))) (by intro _;rfl))) (@q1_ _ _) (by exact z1_ rfl)) (by decide) (by decide) (by exact z1_ rfl) (by exact q5_ rfl))))
theorem b7x:FnScope ["sums","known"] ["sums","known"] (y7_ a5o):=k9_
theorem nd6:(["sums","known","row"]:List Str).Nodup:=by decide+kernel
def a7J(r_:Fn):Mo Fl:=(a1c (y0_ (v6_ (mF (x6_ 1 a1i (z7_ (z0_ 0) q2_)))) [true,true] 1 (gN 2) y4_ (q7_ (z2_ (z0_ 2) (z2_ (mCD 2 r_ (z7_ (mCD 2 a1j (z7_ (z0_ 0) (z7_ (z0_ 2) q2_))) (k7_ 1 q2_))) z4_)))))
def a1B(r_:Fn):Fn:=fnM 2 (a7J r_)
theorem b0R{f:Addr}{fd:FuncData}{k_:Nat}{r_:Fn}(F:Fun K "choices_on" "choices_on" a5o f fd)(T:Txt K mg)(d_rows_on:Def P w K mg base "rows_on" 1 1 a1i)(d_added:Def P w K mg base "added" 1 2 a1j)(hk_:1≤k_)(d_ways_on:Def P w K mg base "ways_on" k_ 2 r_):FnOk P w K mg base CX0 (k_+1) f fd ["sums","known"] (SpF K 2 (a1B r_)):=
 k8_ F b7x fun cdv A outer s H E hr=>(@v4_ _ _ _ _ (@a2Q _ _ _ _ _ (@a0m _ _ ["sums","known","row"] _ [true,true] 1 _ _ _ _ _ _ _ _ _ (by exact(g3_ rfl rfl)) (by exact rfl) (@w2_ _ _ _ _ _ (@x7_ _ _ _ _ (@a0O _ _ _ _ _ _ _ _ _ _ _ (by exact d_rows_on) (by exact(hr.mono (show 1≤k_ by omega))) (by exact rfl) (@q9_ _ _ _ _ _ _ (@z3_ _ _ _ _ _ (pv 0)) (@y5_ _ _) (by exact z1_ rfl)) (by decide) (by exact z1_ rfl) (by exact q5_ rfl)))) (fun s H fp=>(@x0_ _ _ _ _ 2 _ (by exact(show 2≤2 by decide)) (by exact nd6) (by exact rfl) (by first|exact Or.inl rfl|exact Or.inr rfl) (by first|exact .inl rfl|exact .inr rfl|assumption))) (fun s H fp=>(@a0h _ _)) (fun s H fp=>(@y8_ _ _ _ _ _ _ (@z8_ _ _ _ _ _ _ (@z3_ _ _ _ _ _ (pv 2)) (@z8_ _ _ _ _ _ _ (@k2_ _ _ _ _ _ _ _ _ _ _ _ (by exact d_ways_on) (by exact(hr.mono (Qm _))) (by exact rfl) (@q9_ _ _ _ _ _ _ (@k2_ _ _ _ _ _ _ _ _ _ _ _ (by exact d_added) (by exact(hr.mono (show 1≤k_ by omega))) (by exact rfl) (@q9_ _ _ _ _ _ _ (@z3_ _ _ _ _ _ (pv 0)) (@q9_ _ _ _ _ _ _ (@z3_ _ _ _ _ _ (pv 2)) (@y5_ _ _) (by exact z1_ rfl)) (by exact z1_ rfl)) (by decide) (by exact z1_ rfl) (by exact q5_ rfl)) (@a1o _ _ _ _ _ _ _ (pv 1) (@y5_ _ _) (by exact z1_ rfl)) (by exact z1_ rfl)) (by decide) (by exact z1_ rfl) (by exact q5_ rfl)) (@q1_ _ _) (by exact z1_ rfl)) (by exact z1_ rfl)))) (by intro _;rfl))))
theorem b7y:FnScope ["sums","known"] ["sums","known"] (y7_ a7s):=k9_
theorem nd7:(["-0","-1","row","ways"]:List Str).Nodup:=by decide+kernel
def a1C(r_:Fn):Mo Fl:=(q0_ (y3_ (mT (z5_ (dIn true) (mC (.int 0)) (z0_ 0))) (y9_ (mC (.int 1))) mNx) (q0_ (y3_ (mT (a3f true 1 (z0_ 0))) (j8_ (mCB g5_ (z2_ (mF (y0_ (v6_ (mF (x6_ 2 (a1B r_) (z7_ (z0_ 0) (k7_ 1 q2_))))) [false,false] 2 (gT 2 (gCn (gN 2) (gCn (gN 3) gNl))) y4_ (z0_ 3))) z4_)) (gSD 1 (z0_ 0))) mNx) (y9_ (a5a 1 (z0_ 0)))))
def j6_:Nat->Fn
 |0=>fun _=>none
 |n_+1=>fnM 2 (a1C (j6_ n_))
theorem b0S{f f2:Addr}{fd fd2:FuncData}(F:Fun K "ways_on" "ways_on" a7s f fd)(F2:Fun K "choices_on" "choices_on" a5o f2 fd2)(T:Txt K mg)(d_rows_on:Def P w K mg base "rows_on" 1 1 a1i)(d_added:Def P w K mg base "added" 1 2 a1j)(hmg:mg "ways_on"=some (.ref f))(hkp:PySem.W.keepIn K (.ref f)=true)(hbd:a0e K fd ["sums","known"] [])(hmg2:mg "choices_on"=some (.ref f2))(hkp2:PySem.W.keepIn K (.ref f2)=true)(hbd2:a0e K fd2 ["sums","known"] []):∀n_:Nat,FnOk P w K mg base CX0 (1+2 * n_) f fd ["sums","known"] (SpF K 2 (j6_ n_))
 |0=>a9V
 |n_+1=>by
  have d_ways_on:Def P w K mg base "ways_on" (1+2 * n_) 2 (j6_ n_):=⟨_,_,_,b0S F F2 T d_rows_on d_added hmg hkp hbd hmg2 hkp2 hbd2 n_,rfl,hmg,hkp,hbd⟩
  have d_choices_on:Def P w K mg base "choices_on" (1+2 * n_+1) 2 (a1B (j6_ n_)):=⟨_,_,_,b0R F2 T d_rows_on d_added (by omega) d_ways_on,rfl,hmg2,hkp2,hbd2⟩
  exact(show FnOk P w K mg base CX0 (1+2 * n_+1+1) f fd ["sums","known"] (SpF K 2 (j6_ (n_+1)))from k8_ F b7y fun cdv A outer s H E hr=>(@v0_ _ _ _ _ _ _ (@j3_ _ _ _ _ _ _ _ _ _ (@k5_ _ _ _ _ _ _ _ _ _ _ (by exact b4e) (by exact a6z) (@q4_ _ _ _ _ _) (@z3_ _ _ _ _ _ (pv 0)) (by with_unfolding_all rfl)) (@v4_ _ _ _ _ (@k1_ _ _ _ _ _ (@q4_ _ _ _ _ _))) (@j2_ _ _)) (@v0_ _ _ _ _ _ _ (@j3_ _ _ _ _ _ _ _ _ _ (@b6o _ _ _ _ _ _ _ _ (by exact hr.units) (@z3_ _ _ _ _ _ (pv 0)) (pv 1) (by with_unfolding_all rfl)) (@v4_ _ _ _ _ (@a3D _ _ _ _ _ _ _ (@w1_ _ _ _ _ _ _ _ _ _ _ _ (by exact(a3b rfl)) (by exact a3c) (by exact rfl) (by exact T.g_sum) (by exact a2s) (@z8_ _ _ _ _ _ _ (@x7_ _ _ _ _ (@a0m _ _ ["-0","-1","row","ways"] _ [false,false] 2 _ _ _ _ _ _ _ _ _ (by exact(g3_ rfl rfl)) (by exact rfl) (@w2_ _ _ _ _ _ (@x7_ _ _ _ _ (@a0O _ _ _ _ _ _ _ _ _ _ _ (by exact d_choices_on) (by exact(hr.mono (Qm _))) (by exact rfl) (@q9_ _ _ _ _ _ _ (@z3_ _ _ _ _ _ (pv 0)) (@a1o _ _ _ _ _ _ _ (pv 1) (@y5_ _ _) (by exact z1_ rfl)) (by exact z1_ rfl)) (by decide) (by exact z1_ rfl) (by exact q5_ rfl)))) (fun s H fp=>(@a2m _ _ _ _ _ _ _ _ (by exact rfl) (@a0g _ _ _ _ _ _ _ (@x0_ _ _ _ _ 2 _ (by exact(show 2≤2 by decide)) (by exact nd7) (by exact rfl) (by first|exact Or.inl rfl|exact Or.inr rfl) (by first|exact .inl rfl|exact .inr rfl|assumption)) (@a0g _ _ _ _ _ _ _ (@x0_ _ _ _ _ 3 _ (by exact(show 2≤3 by decide)) (by exact nd7) (by exact rfl) (by first|exact Or.inl rfl|exact Or.inr rfl) (by first|exact .inl rfl|exact .inr rfl|assumption)) (@a2l _ _ _) (by rfl)) (by rfl)) (by rfl) (by rfl))) (fun s H fp=>(@a0h _ _)) (fun s H fp=>(@z3_ _ _ _ _ _ (pv 3))) (by intro _;rfl))) (@q1_ _ _) (by exact z1_ rfl)) (by decide) (by decide) (by exact z1_ rfl) (by exact q5_ rfl)) (@a6T _ _ _ _ _ _ _ _ _ (by exact hr.units) (pv 1) (@z3_ _ _ _ _ _ (pv 0)) (by intro _;rfl)) (by rfl) (by rfl) (by rfl))) (@j2_ _ _)) (@v4_ _ _ _ _ (@k1_ _ _ _ _ _ (@b0m _ _ _ _ _ _ _ _ (by exact hr.units) (pv 1) (@z3_ _ _ _ _ _ (pv 0)) (fun _ _=>rfl) (by exact(a6F (by decide)))))))))
theorem b7z:FnScope ["thing","width"] ["thing","width"] (y7_ a7t):=k9_
def a7K:Mo Fl:=(y9_ (a1n (mIs "tuple" (z0_ 0)) (mCD 3 a5p (z7_ (z0_ 0) (z7_ (mCB k3_ (z2_ (z0_ 0) z4_)) (z7_ (z0_ 1) q2_))))))
def a5s:Fn:=fnM 2 a7K
theorem b7A{f:Addr}{fd:FuncData}(F:Fun K "is_rows" "is_rows" a7t f fd)(T:Txt K mg)(d_is_grid:Def P w K mg base "is_grid" 3 3 a5p):FnOk P w K mg base CX0 4 f fd ["thing","width"] (SpF K 2 a5s):=
 k8_ F b7z fun cdv A outer s H E hr=>(@v4_ _ _ _ _ (@k1_ _ _ _ _ _ (@a3C _ _ _ _ _ _ _ _ (@a0N _ _ _ _ _ _ _ _ _ (by exact a2V) (@z3_ _ _ _ _ _ (pv 0)) (by exact rfl) (by exact T.g_isinstance) (by exact rfl) (by exact T.g_tuple) (by exact a1P) (by decide) (by decide) (by exact se2 rfl rfl)) (@a3B _ _ _ _ _ _ (@k2_ _ _ _ _ _ _ _ _ _ _ _ (by exact d_is_grid) (by exact(hr.mono (show 3≤3 by decide))) (by exact rfl) (@q9_ _ _ _ _ _ _ (@z3_ _ _ _ _ _ (pv 0)) (@q9_ _ _ _ _ _ _ (@w1_ _ _ _ _ _ _ _ _ _ _ _ (by exact a1F) (by exact a1J) (by exact rfl) (by exact T.g_len) (by exact Ye) (@z8_ _ _ _ _ _ _ (@z3_ _ _ _ _ _ (pv 0)) (@q1_ _ _) (by exact z1_ rfl)) (by decide) (by decide) (by exact z1_ rfl) (by exact q5_ rfl)) (@q9_ _ _ _ _ _ _ (@z3_ _ _ _ _ _ (pv 1)) (@y5_ _ _) (by exact z1_ rfl)) (by exact z1_ rfl)) (by exact z1_ rfl)) (by decide) (by exact z1_ rfl) (by exact q5_ rfl))))))
theorem a5t:FnScope ["side","rows","sums","row"] ["side","rows"] (y7_ a7u):=k9_
def a7L:Mo Fl:=(q0_ (a4Y (mCD 4 a5q (z7_ (z0_ 0) (z7_ (mC (.int 1)) (z7_ (mC (.int 6)) (z7_ (mC (.str "side")) q2_)))))) (q0_ (y3_ (u8_ (mT (mCD 2 a5s (z7_ (z0_ 1) (z7_ (z0_ 0) q2_))))) a2P mNx) (q0_ (v1_ 2 (z5_ w4_ (q7_ (z2_ (mC (.int 0)) z4_)) (z0_ 0))) (q0_ (w6_ (v6_ (z0_ 1)) (gN 3) (q0_ (y3_ (mT (z5_ (a3Q true) (z0_ 3) (mF (x6_ 1 a1i (z7_ (z0_ 2) q2_))))) a2P mNx) (v1_ 2 (mCD 2 a1j (z7_ (z0_ 2) (z7_ (z0_ 3) q2_)))))) (y9_ (z0_ 2))))))
def a5u:Fn:=fnM 4 a7L
theorem b7B{f:Addr}{fd:FuncData}(F:Fun K "sums_behind" "sums_behind" a7u f fd)(T:Txt K mg)(d_must_be_within:Def P w K mg base "must_be_within" 3 4 a5q)(d_is_rows:Def P w K mg base "is_rows" 4 2 a5s)(d_added:Def P w K mg base "added" 1 2 a1j)(d_rows_on:Def P w K mg base "rows_on" 1 1 a1i):FnOk P w K mg base CX0 5 f fd ["side","rows"] (SpF K 2 a5u):=
 k8_ F a5t fun cdv A outer s H E hr=>(@v0_ _ _ _ _ _ _ (@b5J _ _ _ _ _ (@k2_ _ _ _ _ _ _ _ _ _ _ _ (by exact d_must_be_within) (by exact(hr.mono (show 3≤4 by decide))) (by exact rfl) (@q9_ _ _ _ _ _ _ (@z3_ _ _ _ _ _ (pv 0)) (@q9_ _ _ _ _ _ _ (@q4_ _ _ _ _ _) (@q9_ _ _ _ _ _ _ (@b5D _ _ _ _ _ (by exact rfl) (by exact T.c_GREATEST_SIDE) (by decide)) (@q9_ _ _ _ _ _ _ (@b4r _ _ _ _ _ (by decide)) (@y5_ _ _) (by exact z1_ rfl)) (by exact z1_ rfl)) (by exact z1_ rfl)) (by exact z1_ rfl)) (by decide) (by exact z1_ rfl) (by exact q5_ rfl)) (by rfl)) (@v0_ _ _ _ _ _ _ (@j3_ _ _ _ _ _ _ _ _ _ (@a3A _ _ _ _ _ (@a2i _ _ _ _ (@k2_ _ _ _ _ _ _ _ _ _ _ _ (by exact d_is_rows) (by exact(hr.mono (show 4≤4 by decide))) (by exact rfl) (@q9_ _ _ _ _ _ _ (@z3_ _ _ _ _ _ (pv 1)) (@q9_ _ _ _ _ _ _ (@z3_ _ _ _ _ _ (pv 0)) (@y5_ _ _) (by exact z1_ rfl)) (by exact z1_ rfl)) (by decide) (by exact z1_ rfl) (by exact q5_ rfl)) (by intro _;rfl))) (@v4_ _ _ _ _ (@a6j _ _ _)) (@j2_ _ _)) (@v0_ _ _ _ _ _ _ (@x9_ _ _ _ _ _ 2 _ _ (by exact a5t.nd) (by exact rfl) (by first|exact Or.inl rfl|exact Or.inr rfl) (@v9_ _ _ _ _ _ _ _ _ _ _ (by exact a1M) (by exact a1N) (@y8_ _ _ _ _ _ _ (@z8_ _ _ _ _ _ _ (@q4_ _ _ _ _ _) (@q1_ _ _) (by exact z1_ rfl))) (@z3_ _ _ _ _ _ (pv 0))) (by rfl) (by first|exact .inl rfl|exact .inr rfl|assumption)) (@v0_ _ _ _ _ _ _ (@a0L _ _ _ _ _ _ _ _ _ (by exact Zf) (by exact rfl) (@w2_ _ _ _ _ _ (@z3_ _ _ _ _ _ (pv 1))) (@x0_ _ _ _ _ 3 _ (by exact(show 0≤3 by decide)) (by exact a5t.nd) (by exact rfl) (by first|exact Or.inl rfl|exact Or.inr rfl) (by first|exact .inl rfl|exact .inr rfl|assumption)) (@v0_ _ _ _ _ _ _ (@j3_ _ _ _ _ _ _ _ _ _ (@k5_ _ _ _ _ _ _ _ _ _ _ (by exact(b6d hr.units)) (by exact b6e) (@z3_ _ _ _ _ _ (pv 3)) (@x7_ _ _ _ _ (@a0O _ _ _ _ _ _ _ _ _ _ _ (by exact d_rows_on) (by exact(hr.mono (show 1≤4 by decide))) (by exact rfl) (@q9_ _ _ _ _ _ _ (@z3_ _ _ _ _ _ (pv 2)) (@y5_ _ _) (by exact z1_ rfl)) (by decide) (by exact z1_ rfl) (by exact q5_ rfl))) (by with_unfolding_all rfl)) (@v4_ _ _ _ _ (@a6j _ _ _)) (@j2_ _ _)) (@v4_ _ _ _ _ (@x9_ _ _ _ _ _ 2 _ _ (by exact a5t.nd) (by exact rfl) (by first|exact Or.inl rfl|exact Or.inr rfl) (@k2_ _ _ _ _ _ _ _ _ _ _ _ (by exact d_added) (by exact(hr.mono (show 1≤4 by decide))) (by exact rfl) (@q9_ _ _ _ _ _ _ (@z3_ _ _ _ _ _ (pv 2)) (@q9_ _ _ _ _ _ _ (@z3_ _ _ _ _ _ (pv 3)) (@y5_ _ _) (by exact z1_ rfl)) (by exact z1_ rfl)) (by decide) (by exact z1_ rfl) (by exact q5_ rfl)) (by rfl) (by first|exact .inl rfl|exact .inr rfl|assumption)))) (by intro _;rfl)) (@v4_ _ _ _ _ (@k1_ _ _ _ _ _ (@z3_ _ _ _ _ _ (pv 2))))))))
theorem a7M:FnScope ["top","bottom","common","rest"] ["top","bottom"] (y7_ a7v):=k9_
def a7N:Mo Fl:=(q0_ (a1K 2 3 (z2_ (z0_ 0) (z2_ (z0_ 1) z4_))) (q0_ (a6N 60 (mT (z5_ dGt (z0_ 3) (mC (.int 0)))) (a1K 2 3 (z2_ (z0_ 3) (z2_ (z5_ u0_ (z0_ 2) (z0_ 3)) z4_)))) (y9_ (q7_ (z2_ (z5_ a3j (z0_ 0) (z0_ 2)) (z2_ (z5_ a3j (z0_ 1) (z0_ 2)) z4_))))))
def a3n:Fn:=fnM 4 a7N
theorem b7C{f:Addr}{fd:FuncData}(F:Fun K "fraction" "fraction" a7v f fd)(T:Txt K mg):FnOk P w K mg base CX0 1 f fd ["top","bottom"] (SpF K 2 a3n):=
 k8_ F a7M fun cdv A outer s H E hr=>(@v0_ _ _ _ _ _ _ (@a4J _ _ _ _ _ _ 2 3 _ _ _ _ _ _ _ _ (by exact rfl) (by exact a7M.nd) (by exact rfl) (by exact rfl) (by decide) (by exact rfl) (by exact rfl) (@z8_ _ _ _ _ _ _ (@z3_ _ _ _ _ _ (pv 0)) (@z8_ _ _ _ _ _ _ (@z3_ _ _ _ _ _ (pv 1)) (@q1_ _ _) (by exact z1_ rfl)) (by exact z1_ rfl)) (by exact rfl) (by rfl)) (@v0_ _ _ _ _ _ _ (@a9X _ _ _ _ _ _ _ _ (by exact Zf) (@k5_ _ _ _ _ _ _ _ _ _ _ (by exact a8y) (by exact a9d) (@z3_ _ _ _ _ _ (pv 3)) (@q4_ _ _ _ _ _) (by exact(nomark _))) (@v4_ _ _ _ _ (@a4J _ _ _ _ _ _ 2 3 _ _ _ _ _ _ _ _ (by exact rfl) (by exact a7M.nd) (by exact rfl) (by exact rfl) (by decide) (by exact rfl) (by exact rfl) (@z8_ _ _ _ _ _ _ (@z3_ _ _ _ _ _ (pv 3)) (@z8_ _ _ _ _ _ _ (@v9_ _ _ _ _ _ _ _ _ _ _ (by exact a1D) (by exact a1I) (@z3_ _ _ _ _ _ (pv 2)) (@z3_ _ _ _ _ _ (pv 3))) (@q1_ _ _) (by exact z1_ rfl)) (by exact z1_ rfl)) (by exact rfl) (by rfl)))) (@v4_ _ _ _ _ (@k1_ _ _ _ _ _ (@y8_ _ _ _ _ _ _ (@z8_ _ _ _ _ _ _ (@v9_ _ _ _ _ _ _ _ _ _ _ (by exact a5d) (by exact a5e) (@z3_ _ _ _ _ _ (pv 0)) (@z3_ _ _ _ _ _ (pv 2))) (@z8_ _ _ _ _ _ _ (@v9_ _ _ _ _ _ _ _ _ _ _ (by exact a5d) (by exact a5e) (@z3_ _ _ _ _ _ (pv 1)) (@z3_ _ _ _ _ _ (pv 2))) (@q1_ _ _) (by exact z1_ rfl)) (by exact z1_ rfl)))))))
theorem a5v:FnScope ["side","rows","sums","known","many"] ["side","rows"] (y7_ a7w):=k9_
theorem nd8:(["-0","-1","-2","-3","many","row","ways"]:List Str).Nodup:=by decide+kernel
def a7O:Mo Fl:=(q0_ (v1_ 2 (mCD 2 a5u (z7_ (z0_ 0) (z7_ (z0_ 1) q2_)))) (q0_ (a6S 3) (q0_ (v1_ 4 (mCD 2 (j6_ 8) (z7_ (z0_ 2) (k7_ 3 q2_)))) (a1c (y0_ (v6_ (mF (x6_ 2 (a1B (j6_ 8)) (z7_ (z0_ 2) (k7_ 3 q2_))))) [false,false,false,false,true] 2 (gT 2 (gCn (gN 5) (gCn (gN 6) gNl))) y4_ (q7_ (z2_ (z0_ 5) (z2_ (mCD 2 a3n (z7_ (z0_ 6) (z7_ (z0_ 4) q2_))) z4_))))))))
def a0I:Fn:=fnM 5 a7O
theorem b7D{f:Addr}{fd:FuncData}(F:Fun K "next_rows" "next_rows" a7w f fd)(T:Txt K mg)(d_sums_behind:Def P w K mg base "sums_behind" 5 2 a5u)(d_ways_on:Def P w K mg base "ways_on" 17 2 (j6_ 8))(d_fraction:Def P w K mg base "fraction" 1 2 a3n)(d_choices_on:Def P w K mg base "choices_on" 18 2 (a1B (j6_ 8))):FnOk P w K mg base CX0 19 f fd ["side","rows"] (SpF K 2 a0I):=
 k8_ F a5v fun cdv A outer s H E hr=>(@v0_ _ _ _ _ _ _ (@x9_ _ _ _ _ _ 2 _ _ (by exact a5v.nd) (by exact rfl) (by first|exact Or.inl rfl|exact Or.inr rfl) (@k2_ _ _ _ _ _ _ _ _ _ _ _ (by exact d_sums_behind) (by exact(hr.mono (show 5≤18 by decide))) (by exact rfl) (@q9_ _ _ _ _ _ _ (@z3_ _ _ _ _ _ (pv 0)) (@q9_ _ _ _ _ _ _ (@z3_ _ _ _ _ _ (pv 1)) (@y5_ _ _) (by exact z1_ rfl)) (by exact z1_ rfl)) (by decide) (by exact z1_ rfl) (by exact q5_ rfl)) (by rfl) (by first|exact .inl rfl|exact .inr rfl|assumption)) (@v0_ _ _ _ _ _ _ (@b0l _ _ _ 3 _ _ _ (by exact a5v.nd) (by exact rfl) (by first|exact Or.inl rfl|exact Or.inr rfl) (by rfl) (by first|exact .inl rfl|exact .inr rfl|assumption)) (@v0_ _ _ _ _ _ _ (@x9_ _ _ _ _ _ 4 _ _ (by exact a5v.nd) (by exact rfl) (by first|exact Or.inl rfl|exact Or.inr rfl) (@k2_ _ _ _ _ _ _ _ _ _ _ _ (by exact d_ways_on) (by exact(hr.mono (show 17≤18 by decide))) (by exact rfl) (@q9_ _ _ _ _ _ _ (@z3_ _ _ _ _ _ (pv 2)) (@a1o _ _ _ _ _ _ _ (pv 3) (@y5_ _ _) (by exact z1_ rfl)) (by exact z1_ rfl)) (by decide) (by exact z1_ rfl) (by exact q5_ rfl)) (by rfl) (by first|exact .inl rfl|exact .inr rfl|assumption)) (@v4_ _ _ _ _ (@a2Q _ _ _ _ _ (@a0m _ _ ["-0","-1","-2","-3","many","row","ways"] _ [false,false,false,false,true] 2 _ _ _ _ _ _ _ _ _ (by exact(g3_ rfl rfl)) (by exact rfl) (@w2_ _ _ _ _ _ (@x7_ _ _ _ _ (@a0O _ _ _ _ _ _ _ _ _ _ _ (by exact d_choices_on) (by exact(hr.mono (show 18≤18 by decide))) (by exact rfl) (@q9_ _ _ _ _ _ _ (@z3_ _ _ _ _ _ (pv 2)) (@a1o _ _ _ _ _ _ _ (pv 3) (@y5_ _ _) (by exact z1_ rfl)) (by exact z1_ rfl)) (by decide) (by exact z1_ rfl) (by exact q5_ rfl)))) (fun s H fp=>(@a2m _ _ _ _ _ _ _ _ (by exact rfl) (@a0g _ _ _ _ _ _ _ (@x0_ _ _ _ _ 5 _ (by exact(show 5≤5 by decide)) (by exact nd8) (by exact rfl) (by first|exact Or.inl rfl|exact Or.inr rfl) (by first|exact .inl rfl|exact .inr rfl|assumption)) (@a0g _ _ _ _ _ _ _ (@x0_ _ _ _ _ 6 _ (by exact(show 5≤6 by decide)) (by exact nd8) (by exact rfl) (by first|exact Or.inl rfl|exact Or.inr rfl) (by first|exact .inl rfl|exact .inr rfl|assumption)) (@a2l _ _ _) (by rfl)) (by rfl)) (by rfl) (by rfl))) (fun s H fp=>(@a0h _ _)) (fun s H fp=>(@y8_ _ _ _ _ _ _ (@z8_ _ _ _ _ _ _ (@z3_ _ _ _ _ _ (pv 5)) (@z8_ _ _ _ _ _ _ (@k2_ _ _ _ _ _ _ _ _ _ _ _ (by exact d_fraction) (by exact(hr.mono (show 1≤18 by decide))) (by exact rfl) (@q9_ _ _ _ _ _ _ (@z3_ _ _ _ _ _ (pv 6)) (@q9_ _ _ _ _ _ _ (@z3_ _ _ _ _ _ (pv 4)) (@y5_ _ _) (by exact z1_ rfl)) (by exact z1_ rfl)) (by decide) (by exact z1_ rfl) (by exact q5_ rfl)) (@q1_ _ _) (by exact z1_ rfl)) (by exact z1_ rfl)))) (by intro _;rfl)))))))
theorem b7E:FnScope ["_law_script","_law_k"] ["_law_script","_law_k"] (y7_ a7x):=k9_
def a4e:Mo Fl:=(q0_ (y3_ (mT (z5_ dLt (z0_ 1) (mCB k3_ (z2_ (z0_ 0) z4_)))) (y9_ (z5_ dIx (z0_ 0) (z0_ 1))) mNx) (y9_ (mC (.int 0))))
def a4f:Fn:=fnM 2 a4e
theorem b7F{f:Addr}{fd:FuncData}(F:Fun K "_law_cell_at" "_law_cell_at" a7x f fd)(T:Txt K mg):FnOk P w K mg base CX0 1 f fd ["_law_script","_law_k"] (SpF K 2 a4f):=
 k8_ F b7E fun cdv A outer s H E hr=>(@v0_ _ _ _ _ _ _ (@j3_ _ _ _ _ _ _ _ _ _ (@k5_ _ _ _ _ _ _ _ _ _ _ (by exact a5P) (by exact a6b) (@z3_ _ _ _ _ _ (pv 1)) (@w1_ _ _ _ _ _ _ _ _ _ _ _ (by exact a1F) (by exact a1J) (by exact rfl) (by exact T.g_len) (by exact Ye) (@z8_ _ _ _ _ _ _ (@z3_ _ _ _ _ _ (pv 0)) (@q1_ _ _) (by exact z1_ rfl)) (by decide) (by decide) (by exact z1_ rfl) (by exact q5_ rfl)) (by exact(nomark _))) (@v4_ _ _ _ _ (@k1_ _ _ _ _ _ (@a9g _ _ _ _ _ _ _ (@z3_ _ _ _ _ _ (pv 0)) (@z3_ _ _ _ _ _ (pv 1)) (fun _ _=>rfl)))) (@j2_ _ _)) (@v4_ _ _ _ _ (@k1_ _ _ _ _ _ (@q4_ _ _ _ _ _))))
theorem b0T:FnScope ["_law_script","_law_k","_law_cell"] ["_law_script","_law_k"] (y7_ a7y):=k9_
def a4g:Mo Fl:=(q0_ (v1_ 2 (mCD 2 a4f (z7_ (z0_ 0) (z7_ (z0_ 1) q2_)))) (q0_ (y3_ (mT (z5_ dGe (z0_ 2) (z5_ a1H (mC (.int 10)) (mC (.int 18))))) (a1c (w9_ (z2_ (z5_ a2M (z0_ 2) (z5_ a1H (mC (.int 10)) (mC (.int 18)))) (z2_ (mC (.bl true)) z4_)))) mNx) (a1c (w9_ (z2_ (z5_ u0_ (z0_ 2) (mC (.int 2147483647))) (z2_ (mC (.bl false)) z4_))))))
def a4h:Fn:=fnM 3 a4g
theorem b7G{f:Addr}{fd:FuncData}(F:Fun K "_law_state" "_law_state" a7y f fd)(T:Txt K mg)(d__law_cell_at:Def P w K mg base "_law_cell_at" 1 2 a4f):FnOk P w K mg base CX0 2 f fd ["_law_script","_law_k"] (SpF K 2 a4h):=
 k8_ F b0T fun cdv A outer s H E hr=>(@v0_ _ _ _ _ _ _ (@x9_ _ _ _ _ _ 2 _ _ (by exact b0T.nd) (by exact rfl) (by first|exact Or.inl rfl|exact Or.inr rfl) (@k2_ _ _ _ _ _ _ _ _ _ _ _ (by exact d__law_cell_at) (by exact(hr.mono (show 1≤1 by decide))) (by exact rfl) (@q9_ _ _ _ _ _ _ (@z3_ _ _ _ _ _ (pv 0)) (@q9_ _ _ _ _ _ _ (@z3_ _ _ _ _ _ (pv 1)) (@y5_ _ _) (by exact z1_ rfl)) (by exact z1_ rfl)) (by decide) (by exact z1_ rfl) (by exact q5_ rfl)) (by rfl) (by first|exact .inl rfl|exact .inr rfl|assumption)) (@v0_ _ _ _ _ _ _ (@j3_ _ _ _ _ _ _ _ _ _ (@k5_ _ _ _ _ _ _ _ _ _ _ (by exact b3z) (by exact b4v) (@z3_ _ _ _ _ _ (pv 2)) (@v9_ _ _ _ _ _ _ _ _ _ _ (by exact a8w) (by exact a9b) (@q4_ _ _ _ _ _) (@q4_ _ _ _ _ _)) (by exact(nomark _))) (@v4_ _ _ _ _ (@a2Q _ _ _ _ _ (@a1b _ _ _ _ _ (@z8_ _ _ _ _ _ _ (@v9_ _ _ _ _ _ _ _ _ _ _ (by exact a8u) (by exact a8Z) (@z3_ _ _ _ _ _ (pv 2)) (@v9_ _ _ _ _ _ _ _ _ _ _ (by exact a8w) (by exact a9b) (@q4_ _ _ _ _ _) (@q4_ _ _ _ _ _))) (@z8_ _ _ _ _ _ _ (@a1G _ _ _ _ _) (@q1_ _ _) (by exact z1_ rfl)) (by exact z1_ rfl))))) (@j2_ _ _)) (@v4_ _ _ _ _ (@a2Q _ _ _ _ _ (@a1b _ _ _ _ _ (@z8_ _ _ _ _ _ _ (@v9_ _ _ _ _ _ _ _ _ _ _ (by exact a1D) (by exact a1I) (@z3_ _ _ _ _ _ (pv 2)) (@q4_ _ _ _ _ _)) (@z8_ _ _ _ _ _ _ (@a1G _ _ _ _ _) (@q1_ _ _) (by exact z1_ rfl)) (by exact z1_ rfl)))))))
theorem a5w:FnScope ["_law_state_here","_law_many","_law_mixed","_law_found"] ["_law_state_here","_law_many"] (y7_ a7z):=k9_
def a4i:Mo Fl:=(q0_ (y3_ (mT (u1_ 0 (mC (.int 1)))) (q0_ (v1_ 3 (z5_ u0_ (u1_ 0 (mC (.int 0))) (z0_ 1))) (q0_ (j8_ (z5_ a3z (u1_ 0 (mC (.int 0))) (z0_ 1)) (gS 0 (mC (.int 0)))) (y9_ (z0_ 3)))) mNx) (q0_ (j8_ (z5_ u0_ (z5_ x2_ (z5_ w4_ (u1_ 0 (mC (.int 0))) (mC (.int 48271))) (mC (.int 29))) (mC (.int 2147483647))) (gS 0 (mC (.int 0)))) (q0_ (v1_ 2 (z5_ u0_ (z5_ x2_ (z5_ x2_ (z5_ w4_ (u1_ 0 (mC (.int 0))) (u1_ 0 (mC (.int 0)))) (z5_ w4_ (mC (.int 39373)) (u1_ 0 (mC (.int 0))))) (mC (.int 7))) (mC (.int 2147483629)))) (q0_ (v1_ 2 (z5_ u0_ (z5_ x2_ (z5_ w4_ (z0_ 2) (z0_ 2)) (z5_ w4_ (mC (.int 16807)) (z0_ 2))) (mC (.int 2147483587)))) (y9_ (z5_ u0_ (z5_ a3z (z0_ 2) (mC (.int 8))) (z0_ 1)))))))
def a0c:Fn:=fnM 4 a4i
theorem b7H{f:Addr}{fd:FuncData}(F:Fun K "_law_take" "_law_take" a7z f fd)(T:Txt K mg):FnOk P w K mg base CX0 1 f fd ["_law_state_here","_law_many"] (SpF K 2 a0c):=
 k8_ F a5w fun cdv A outer s H E hr=>(@v0_ _ _ _ _ _ _ (@j3_ _ _ _ _ _ _ _ _ _ (@a2i _ _ _ _ (@a2k _ _ _ _ _ _ _ _ (pv 0) (@q4_ _ _ _ _ _) (fun _ _=>rfl) (by exact a2r)) (by intro _;rfl)) (@v0_ _ _ _ _ _ _ (@x9_ _ _ _ _ _ 3 _ _ (by exact a5w.nd) (by exact rfl) (by first|exact Or.inl rfl|exact Or.inr rfl) (@v9_ _ _ _ _ _ _ _ _ _ _ (by exact a1D) (by exact a1I) (@a2k _ _ _ _ _ _ _ _ (pv 0) (@q4_ _ _ _ _ _) (fun _ _=>rfl) (by exact a2r)) (@z3_ _ _ _ _ _ (pv 1))) (by rfl) (by first|exact .inl rfl|exact .inr rfl|assumption)) (@v0_ _ _ _ _ _ _ (@a3D _ _ _ _ _ _ _ (@v9_ _ _ _ _ _ _ _ _ _ _ (by exact a8v) (by exact a9a) (@a2k _ _ _ _ _ _ _ _ (pv 0) (@q4_ _ _ _ _ _) (fun _ _=>rfl) (by exact a2r)) (@z3_ _ _ _ _ _ (pv 1))) (@a9l _ _ _ _ _ _ _ _ _ (pv 0) (@q4_ _ _ _ _ _) (by intro _;rfl)) (by rfl) (by rfl) (by rfl)) (@v4_ _ _ _ _ (@k1_ _ _ _ _ _ (@z3_ _ _ _ _ _ (pv 3)))))) (@j2_ _ _)) (@v0_ _ _ _ _ _ _ (@a3D _ _ _ _ _ _ _ (@v9_ _ _ _ _ _ _ _ _ _ _ (by exact a1D) (by exact a1I) (@v9_ _ _ _ _ _ _ _ _ _ _ (by exact g1_) (by exact g2_) (@v9_ _ _ _ _ _ _ _ _ _ _ (by exact a1M) (by exact a1N) (@a2k _ _ _ _ _ _ _ _ (pv 0) (@q4_ _ _ _ _ _) (fun _ _=>rfl) (by exact a2r)) (@q4_ _ _ _ _ _)) (@q4_ _ _ _ _ _)) (@q4_ _ _ _ _ _)) (@a9l _ _ _ _ _ _ _ _ _ (pv 0) (@q4_ _ _ _ _ _) (by intro _;rfl)) (by rfl) (by rfl) (by rfl)) (@v0_ _ _ _ _ _ _ (@x9_ _ _ _ _ _ 2 _ _ (by exact a5w.nd) (by exact rfl) (by first|exact Or.inl rfl|exact Or.inr rfl) (@v9_ _ _ _ _ _ _ _ _ _ _ (by exact a1D) (by exact a1I) (@v9_ _ _ _ _ _ _ _ _ _ _ (by exact g1_) (by exact g2_) (@v9_ _ _ _ _ _ _ _ _ _ _ (by exact g1_) (by exact g2_) (@v9_ _ _ _ _ _ _ _ _ _ _ (by exact a1M) (by exact a1N) (@a2k _ _ _ _ _ _ _ _ (pv 0) (@q4_ _ _ _ _ _) (fun _ _=>rfl) (by exact a2r)) (@a2k _ _ _ _ _ _ _ _ (pv 0) (@q4_ _ _ _ _ _) (fun _ _=>rfl) (by exact a2r))) (@v9_ _ _ _ _ _ _ _ _ _ _ (by exact a1M) (by exact a1N) (@q4_ _ _ _ _ _) (@a2k _ _ _ _ _ _ _ _ (pv 0) (@q4_ _ _ _ _ _) (fun _ _=>rfl) (by exact a2r)))) (@q4_ _ _ _ _ _)) (@q4_ _ _ _ _ _)) (by rfl) (by first|exact .inl rfl|exact .inr rfl|assumption)) (@v0_ _ _ _ _ _ _ (@x9_ _ _ _ _ _ 2 _ _ (by exact a5w.nd) (by exact rfl) (by first|exact Or.inl rfl|exact Or.inr rfl) (@v9_ _ _ _ _ _ _ _ _ _ _ (by exact a1D) (by exact a1I) (@v9_ _ _ _ _ _ _ _ _ _ _ (by exact g1_) (by exact g2_) (@v9_ _ _ _ _ _ _ _ _ _ _ (by exact a1M) (by exact a1N) (@z3_ _ _ _ _ _ (pv 2)) (@z3_ _ _ _ _ _ (pv 2))) (@v9_ _ _ _ _ _ _ _ _ _ _ (by exact a1M) (by exact a1N) (@q4_ _ _ _ _ _) (@z3_ _ _ _ _ _ (pv 2)))) (@q4_ _ _ _ _ _)) (by rfl) (by first|exact .inl rfl|exact .inr rfl|assumption)) (@v4_ _ _ _ _ (@k1_ _ _ _ _ _ (@v9_ _ _ _ _ _ _ _ _ _ _ (by exact a1D) (by exact a1I) (@v9_ _ _ _ _ _ _ _ _ _ _ (by exact a8v) (by exact a9a) (@z3_ _ _ _ _ _ (pv 2)) (@q4_ _ _ _ _ _)) (@z3_ _ _ _ _ _ (pv 1)))))))))
theorem a2A:FnScope ["_law_held_here","_law_found","_law_bit","_law_longer","_law_row","_law_here"] ["_law_held_here"] (y7_ a7A):=k9_
theorem nd9:(["-0","-1","-2","-3","-4","-5","_law_row","_law_here"]:List Str).Nodup:=by decide+kernel
def b7I:Mo Fl:=(q0_ (v1_ 1 (mF (w9_ (z2_ (q7_ (z2_ (q7_ z4_) (z2_ (mC (.int 0)) z4_))) z4_)))) (q0_ (w6_ (v6_ (z0_ 0)) (gN 2) (q0_ (w5_ 3 (w9_ z4_)) (q0_ (w6_ (v6_ (z0_ 1)) (gT 2 (gCn (gN 4) (gCn (gN 5) gNl))) (q0_ (y3_ (a2N (mT (z5_ (dEq false) (z0_ 5) (mC (.int 1)))) (mT (z5_ (dEq false) (z0_ 2) (mC (.int 1))))) (a1p 3 (q7_ (z2_ (z5_ x2_ (z0_ 4) (q7_ (z2_ (a4E (mC (.int 1))) z4_))) (z2_ (mC (.int 0)) z4_)))) mNx) (q0_ (a1p 3 (q7_ (z2_ (z5_ x2_ (z0_ 4) (q7_ (z2_ (mC (.int 0)) z4_))) (z2_ (z0_ 5) z4_)))) (y3_ (a2N (mT (z5_ (dEq false) (z0_ 5) (mC (.int 0)))) (mT (z5_ (dEq false) (z0_ 2) (mC (.int 0))))) (a1p 3 (q7_ (z2_ (z5_ x2_ (z0_ 4) (q7_ (z2_ (mC (.int 1)) z4_))) (z2_ (mC (.int 1)) z4_)))) mNx)))) (v1_ 1 (z0_ 3))))) (a1c (y0_ (v6_ (z0_ 1)) [false,false,false,false,false,false] 2 (gT 2 (gCn (gN 6) (gCn (gN 7) gNl))) (mT (z5_ (dEq false) (z0_ 7) (mC (.int 1)))) (z0_ 6)))))
def u5_:Fn:=fnM 6 b7I
theorem b7J{f:Addr}{fd:FuncData}(F:Fun K "_law_rows" "_law_rows" a7A f fd)(T:Txt K mg):FnOk P w K mg base CX0 1 f fd ["_law_held_here"] (SpF K 1 u5_):=
 k8_ F a2A fun cdv A outer s H E hr=>(@v0_ _ _ _ _ _ _ (@x9_ _ _ _ _ _ 1 _ _ (by exact a2A.nd) (by exact rfl) (by first|exact Or.inl rfl|exact Or.inr rfl) (@x7_ _ _ _ _ (@a1b _ _ _ _ _ (@z8_ _ _ _ _ _ _ (@y8_ _ _ _ _ _ _ (@z8_ _ _ _ _ _ _ (@y8_ _ _ _ _ _ _ (@q1_ _ _)) (@z8_ _ _ _ _ _ _ (@q4_ _ _ _ _ _) (@q1_ _ _) (by exact z1_ rfl)) (by exact z1_ rfl))) (@q1_ _ _) (by exact z1_ rfl)))) (by rfl) (by first|exact .inl rfl|exact .inr rfl|assumption)) (@v0_ _ _ _ _ _ _ (@a0L _ _ _ _ _ _ _ _ _ (by exact Zf) (by exact rfl) (@w2_ _ _ _ _ _ (@z3_ _ _ _ _ _ (pv 0))) (@x0_ _ _ _ _ 2 _ (by exact(show 0≤2 by decide)) (by exact a2A.nd) (by exact rfl) (by first|exact Or.inl rfl|exact Or.inr rfl) (by first|exact .inl rfl|exact .inr rfl|assumption)) (@v0_ _ _ _ _ _ _ (@a6k _ _ _ _ _ 3 _ _ (by exact a2A.nd) (by exact rfl) (by first|exact Or.inl rfl|exact Or.inr rfl) (@a1b _ _ _ _ _ (@q1_ _ _)) (by rfl) (by first|exact .inl rfl|exact .inr rfl|assumption)) (@v0_ _ _ _ _ _ _ (@a0L _ _ _ _ _ _ _ _ _ (by exact Zf) (by exact rfl) (@w2_ _ _ _ _ _ (@z3_ _ _ _ _ _ (pv 1))) (@a2m _ _ _ _ _ _ _ _ (by exact rfl) (@a0g _ _ _ _ _ _ _ (@x0_ _ _ _ _ 4 _ (by exact(show 0≤4 by decide)) (by exact a2A.nd) (by exact rfl) (by first|exact Or.inl rfl|exact Or.inr rfl) (by first|exact .inl rfl|exact .inr rfl|assumption)) (@a0g _ _ _ _ _ _ _ (@x0_ _ _ _ _ 5 _ (by exact(show 0≤5 by decide)) (by exact a2A.nd) (by exact rfl) (by first|exact Or.inl rfl|exact Or.inr rfl) (by first|exact .inl rfl|exact .inr rfl|assumption)) (@a2l _ _ _) (by rfl)) (by rfl)) (by rfl) (by rfl)) (@v0_ _ _ _ _ _ _ (@j3_ _ _ _ _ _ _ _ _ _ (@a2j _ _ _ _ (@a6d _ _ _ _ _ _ _ _ (@k5_ _ _ _ _ _ _ _ _ _ _ (by exact(op_eqD hr.units)) (by exact opd_eq) (@z3_ _ _ _ _ _ (pv 5)) (@q4_ _ _ _ _ _) (by exact(nomark _))) (@a6c _ _ _ _ _ (@k5_ _ _ _ _ _ _ _ _ _ _ (by exact(op_eqD hr.units)) (by exact opd_eq) (@z3_ _ _ _ _ _ (pv 2)) (@q4_ _ _ _ _ _) (by exact(nomark _)))))) (@v4_ _ _ _ _ (@a4H _ _ _ _ _ _ _ _ _ _ (pv 3) (@z8_ _ _ _ _ _ _ (@y8_ _ _ _ _ _ _ (@z8_ _ _ _ _ _ _ (@v9_ _ _ _ _ _ _ _ _ _ _ (by exact g1_) (by exact g2_) (@z3_ _ _ _ _ _ (pv 4)) (@y8_ _ _ _ _ _ _ (@z8_ _ _ _ _ _ _ (@a9f _ _ _ _ _ (@q4_ _ _ _ _ _)) (@q1_ _ _) (by exact z1_ rfl)))) (@z8_ _ _ _ _ _ _ (@q4_ _ _ _ _ _) (@q1_ _ _) (by exact z1_ rfl)) (by exact z1_ rfl))) (@q1_ _ _) (by exact z1_ rfl)) (by rfl) (by rfl) (by rfl) (by exact z1_ rfl) (by exact q5_ rfl) (by rfl))) (@j2_ _ _)) (@v0_ _ _ _ _ _ _ (@a4H _ _ _ _ _ _ _ _ _ _ (pv 3) (@z8_ _ _ _ _ _ _ (@y8_ _ _ _ _ _ _ (@z8_ _ _ _ _ _ _ (@v9_ _ _ _ _ _ _ _ _ _ _ (by exact g1_) (by exact g2_) (@z3_ _ _ _ _ _ (pv 4)) (@y8_ _ _ _ _ _ _ (@z8_ _ _ _ _ _ _ (@q4_ _ _ _ _ _) (@q1_ _ _) (by exact z1_ rfl)))) (@z8_ _ _ _ _ _ _ (@z3_ _ _ _ _ _ (pv 5)) (@q1_ _ _) (by exact z1_ rfl)) (by exact z1_ rfl))) (@q1_ _ _) (by exact z1_ rfl)) (by rfl) (by rfl) (by rfl) (by exact z1_ rfl) (by exact q5_ rfl) (by rfl)) (@v4_ _ _ _ _ (@j3_ _ _ _ _ _ _ _ _ _ (@a2j _ _ _ _ (@a6d _ _ _ _ _ _ _ _ (@k5_ _ _ _ _ _ _ _ _ _ _ (by exact(op_eqD hr.units)) (by exact opd_eq) (@z3_ _ _ _ _ _ (pv 5)) (@q4_ _ _ _ _ _) (by exact(nomark _))) (@a6c _ _ _ _ _ (@k5_ _ _ _ _ _ _ _ _ _ _ (by exact(op_eqD hr.units)) (by exact opd_eq) (@z3_ _ _ _ _ _ (pv 2)) (@q4_ _ _ _ _ _) (by exact(nomark _)))))) (@v4_ _ _ _ _ (@a4H _ _ _ _ _ _ _ _ _ _ (pv 3) (@z8_ _ _ _ _ _ _ (@y8_ _ _ _ _ _ _ (@z8_ _ _ _ _ _ _ (@v9_ _ _ _ _ _ _ _ _ _ _ (by exact g1_) (by exact g2_) (@z3_ _ _ _ _ _ (pv 4)) (@y8_ _ _ _ _ _ _ (@z8_ _ _ _ _ _ _ (@q4_ _ _ _ _ _) (@q1_ _ _) (by exact z1_ rfl)))) (@z8_ _ _ _ _ _ _ (@q4_ _ _ _ _ _) (@q1_ _ _) (by exact z1_ rfl)) (by exact z1_ rfl))) (@q1_ _ _) (by exact z1_ rfl)) (by rfl) (by rfl) (by rfl) (by exact z1_ rfl) (by exact q5_ rfl) (by rfl))) (@j2_ _ _))))) (by intro _;rfl)) (@v4_ _ _ _ _ (@x9_ _ _ _ _ _ 1 _ _ (by exact a2A.nd) (by exact rfl) (by first|exact Or.inl rfl|exact Or.inr rfl) (@z3_ _ _ _ _ _ (pv 3)) (by rfl) (by first|exact .inl rfl|exact .inr rfl|assumption))))) (by intro _;rfl)) (@v4_ _ _ _ _ (@a2Q _ _ _ _ _ (@a0m _ _ ["-0","-1","-2","-3","-4","-5","_law_row","_law_here"] _ [false,false,false,false,false,false] 2 _ _ _ _ _ _ _ _ _ (by exact(g3_ rfl rfl)) (by exact rfl) (@w2_ _ _ _ _ _ (@z3_ _ _ _ _ _ (pv 1))) (fun s H fp=>(@a2m _ _ _ _ _ _ _ _ (by exact rfl) (@a0g _ _ _ _ _ _ _ (@x0_ _ _ _ _ 6 _ (by exact(show 6≤6 by decide)) (by exact nd9) (by exact rfl) (by first|exact Or.inl rfl|exact Or.inr rfl) (by first|exact .inl rfl|exact .inr rfl|assumption)) (@a0g _ _ _ _ _ _ _ (@x0_ _ _ _ _ 7 _ (by exact(show 6≤7 by decide)) (by exact nd9) (by exact rfl) (by first|exact Or.inl rfl|exact Or.inr rfl) (by first|exact .inl rfl|exact .inr rfl|assumption)) (@a2l _ _ _) (by rfl)) (by rfl)) (by rfl) (by rfl))) (fun s H fp=>(@a4P _ _ _ _ (@k5_ _ _ _ _ _ _ _ _ _ _ (by exact(op_eqD hr.units)) (by exact opd_eq) (@z3_ _ _ _ _ _ (pv 7)) (@q4_ _ _ _ _ _) (by exact(nomark _))))) (fun s H fp=>(@z3_ _ _ _ _ _ (pv 6))) (by intro _;rfl))))))
theorem b7K:FnScope ["_law_held_here","_law_row"] ["_law_held_here","_law_row"] (y7_ a7B):=k9_
theorem b0U:(["-0","-1","_law_first","_law_second"]:List Str).Nodup:=by decide+kernel
def a7P:Mo Fl:=(y9_ (mCB a6i (z2_ (mF (y0_ (a1e (z2_ (z0_ 0) (z2_ (z0_ 1) z4_))) [false,false] 2 (gT 2 (gCn (gN 2) (gCn (gN 3) gNl))) y4_ (z5_ x2_ (z0_ 2) (z0_ 3)))) z4_)))
def g8_:Fn:=fnM 2 a7P
theorem b7L{f:Addr}{fd:FuncData}(F:Fun K "_law_held" "_law_held" a7B f fd)(T:Txt K mg):FnOk P w K mg base CX0 1 f fd ["_law_held_here","_law_row"] (SpF K 2 g8_):=
 k8_ F b7K fun cdv A outer s H E hr=>(@v4_ _ _ _ _ (@k1_ _ _ _ _ _ (@a6h _ _ _ _ _ _ _ _ _ _ _ (by exact a8S) (by exact a9j) (by exact rfl) (by exact T.g_tuple) (by exact a1P) (@z8_ _ _ _ _ _ _ (@x7_ _ _ _ _ (@a0m _ _ ["-0","-1","_law_first","_law_second"] _ [false,false] 2 _ _ _ _ _ _ _ _ _ (by exact(g3_ rfl rfl)) (by exact rfl) (@a6E _ _ _ _ _ _ _ _ _ _ (by exact rfl) (by exact T.g_zip) (@z8_ _ _ _ _ _ _ (@z3_ _ _ _ _ _ (pv 0)) (@z8_ _ _ _ _ _ _ (@z3_ _ _ _ _ _ (pv 1)) (@q1_ _ _) (by exact z1_ rfl)) (by exact z1_ rfl)) (by exact se2 rfl rfl) (by exact se1 rfl)) (fun s H fp=>(@a2m _ _ _ _ _ _ _ _ (by exact rfl) (@a0g _ _ _ _ _ _ _ (@x0_ _ _ _ _ 2 _ (by exact(show 2≤2 by decide)) (by exact b0U) (by exact rfl) (by first|exact Or.inl rfl|exact Or.inr rfl) (by first|exact .inl rfl|exact .inr rfl|assumption)) (@a0g _ _ _ _ _ _ _ (@x0_ _ _ _ _ 3 _ (by exact(show 2≤3 by decide)) (by exact b0U) (by exact rfl) (by first|exact Or.inl rfl|exact Or.inr rfl) (by first|exact .inl rfl|exact .inr rfl|assumption)) (@a2l _ _ _) (by rfl)) (by rfl)) (by rfl) (by rfl))) (fun s H fp=>(@a0h _ _)) (fun s H fp=>(@v9_ _ _ _ _ _ _ _ _ _ _ (by exact g1_) (by exact g2_) (@z3_ _ _ _ _ _ (pv 2)) (@z3_ _ _ _ _ _ (pv 3)))) (by intro _;rfl))) (@q1_ _ _) (by exact z1_ rfl)) (by decide) (by decide) (by exact z1_ rfl) (by exact q5_ rfl))))
theorem a0W:FnScope ["_law_state_here","_law_side","_law_held_here","_law_found","_law_few","_law_turn","_law_rows_here","_law_row","_law_most"] ["_law_state_here","_law_side"] (y7_ a7C):=k9_
theorem b7M:(["-0","-1","-2","-3","-4","-5","-6","-7","_law_most","_law_row"]:List Str).Nodup:=by decide+kernel
theorem b7N:(["-0","-1","-2","-3","-4","-5","-6","-7","-8","_law_row"]:List Str).Nodup:=by decide+kernel
def a7Q:Mo Fl:=(q0_ (v1_ 2 (z5_ w4_ (q7_ (z2_ (mC (.int 0)) z4_)) (z0_ 1))) (q0_ (v1_ 3 (q7_ z4_)) (q0_ (v1_ 4 (mCD 2 a0c (k7_ 0 (z7_ (mC (.int 3)) q2_)))) (q0_ (w6_ (a0q (z2_ (z0_ 1) z4_)) (gN 5) (q0_ (v1_ 6 (mF (x6_ 1 u5_ (z7_ (z0_ 2) q2_)))) (q0_ (y3_ (mT (z5_ (dEq false) (z0_ 4) (mC (.int 0)))) (q0_ (v1_ 8 (mCB (g7_ false) (z2_ (mF (y0_ (v6_ (z0_ 6)) [false,false,false,false,false,false,false,false,false] 1 (gN 9) y4_ (mCB (g7_ false) (z2_ (z0_ 9) z4_)))) z4_))) (w5_ 6 (y0_ (v6_ (z0_ 6)) [false,false,false,false,false,false,false,false,true] 1 (gN 9) (mT (z5_ (dEq false) (mCB (g7_ false) (z2_ (z0_ 9) z4_)) (z0_ 8))) (z0_ 9)))) mNx) (q0_ (v1_ 7 (z5_ dIx (z0_ 6) (mCD 2 a0c (k7_ 0 (z7_ (mCB k3_ (z2_ (z0_ 6) z4_)) q2_))))) (q0_ (v1_ 3 (z5_ x2_ (z0_ 3) (q7_ (z2_ (z0_ 7) z4_)))) (v1_ 2 (mCD 2 g8_ (z7_ (z0_ 2) (z7_ (z0_ 7) q2_))))))))) (y9_ (z0_ 3))))))
def a4j:Fn:=fnM 9 a7Q
theorem b7O{f:Addr}{fd:FuncData}(F:Fun K "_law_table" "_law_table" a7C f fd)(T:Txt K mg)(d__law_take:Def P w K mg base "_law_take" 1 2 a0c)(d__law_rows:Def P w K mg base "_law_rows" 1 1 u5_)(d__law_held:Def P w K mg base "_law_held" 1 2 g8_):FnOk P w K mg base CX0 2 f fd ["_law_state_here","_law_side"] (SpF K 2 a4j):=
 k8_ F a0W fun cdv A outer s H E hr=>(@v0_ _ _ _ _ _ _ (@x9_ _ _ _ _ _ 2 _ _ (by exact a0W.nd) (by exact rfl) (by first|exact Or.inl rfl|exact Or.inr rfl) (@v9_ _ _ _ _ _ _ _ _ _ _ (by exact a1M) (by exact a1N) (@y8_ _ _ _ _ _ _ (@z8_ _ _ _ _ _ _ (@q4_ _ _ _ _ _) (@q1_ _ _) (by exact z1_ rfl))) (@z3_ _ _ _ _ _ (pv 1))) (by rfl) (by first|exact .inl rfl|exact .inr rfl|assumption)) (@v0_ _ _ _ _ _ _ (@x9_ _ _ _ _ _ 3 _ _ (by exact a0W.nd) (by exact rfl) (by first|exact Or.inl rfl|exact Or.inr rfl) (@y8_ _ _ _ _ _ _ (@q1_ _ _)) (by rfl) (by first|exact .inl rfl|exact .inr rfl|assumption)) (@v0_ _ _ _ _ _ _ (@x9_ _ _ _ _ _ 4 _ _ (by exact a0W.nd) (by exact rfl) (by first|exact Or.inl rfl|exact Or.inr rfl) (@k2_ _ _ _ _ _ _ _ _ _ _ _ (by exact d__law_take) (by exact(hr.mono (show 1≤1 by decide))) (by exact rfl) (@a1o _ _ _ _ _ _ _ (pv 0) (@q9_ _ _ _ _ _ _ (@q4_ _ _ _ _ _) (@y5_ _ _) (by exact z1_ rfl)) (by exact z1_ rfl)) (by decide) (by exact z1_ rfl) (by exact q5_ rfl)) (by rfl) (by first|exact .inl rfl|exact .inr rfl|assumption)) (@v0_ _ _ _ _ _ _ (@a0L _ _ _ _ _ _ _ _ _ (by exact Zf) (by exact rfl) (@a4K _ _ _ _ _ _ _ (by exact rfl) (by exact T.g_range) (@z8_ _ _ _ _ _ _ (@z3_ _ _ _ _ _ (pv 1)) (@q1_ _ _) (by exact z1_ rfl)) (by exact se1 rfl)) (@x0_ _ _ _ _ 5 _ (by exact(show 0≤5 by decide)) (by exact a0W.nd) (by exact rfl) (by first|exact Or.inl rfl|exact Or.inr rfl) (by first|exact .inl rfl|exact .inr rfl|assumption)) (@v0_ _ _ _ _ _ _ (@x9_ _ _ _ _ _ 6 _ _ (by exact a0W.nd) (by exact rfl) (by first|exact Or.inl rfl|exact Or.inr rfl) (@x7_ _ _ _ _ (@a0O _ _ _ _ _ _ _ _ _ _ _ (by exact d__law_rows) (by exact(hr.mono (show 1≤1 by decide))) (by exact rfl) (@q9_ _ _ _ _ _ _ (@z3_ _ _ _ _ _ (pv 2)) (@y5_ _ _) (by exact z1_ rfl)) (by decide) (by exact z1_ rfl) (by exact q5_ rfl))) (by rfl) (by first|exact .inl rfl|exact .inr rfl|assumption)) (@v0_ _ _ _ _ _ _ (@j3_ _ _ _ _ _ _ _ _ _ (@k5_ _ _ _ _ _ _ _ _ _ _ (by exact(op_eqD hr.units)) (by exact opd_eq) (@z3_ _ _ _ _ _ (pv 4)) (@q4_ _ _ _ _ _) (by exact(nomark _))) (@v0_ _ _ _ _ _ _ (@x9_ _ _ _ _ _ 8 _ _ (by exact a0W.nd) (by exact rfl) (by first|exact Or.inl rfl|exact Or.inr rfl) (@w1_ _ _ _ _ _ _ _ _ _ _ _ (by exact(a6L rfl)) (by exact a6M) (by exact rfl) (by exact T.g_min) (by exact a4U) (@z8_ _ _ _ _ _ _ (@x7_ _ _ _ _ (@a0m _ _ ["-0","-1","-2","-3","-4","-5","-6","-7","-8","_law_row"] _ [false,false,false,false,false,false,false,false,false] 1 _ _ _ _ _ _ _ _ _ (by exact(g3_ rfl rfl)) (by exact rfl) (@w2_ _ _ _ _ _ (@z3_ _ _ _ _ _ (pv 6))) (fun s H fp=>(@x0_ _ _ _ _ 9 _ (by exact(show 9≤9 by decide)) (by exact b7N) (by exact rfl) (by first|exact Or.inl rfl|exact Or.inr rfl) (by first|exact .inl rfl|exact .inr rfl|assumption))) (fun s H fp=>(@a0h _ _)) (fun s H fp=>(@w1_ _ _ _ _ _ _ _ _ _ _ _ (by exact(a6L rfl)) (by exact a6M) (by exact rfl) (by exact T.g_min) (by exact a4U) (@z8_ _ _ _ _ _ _ (@z3_ _ _ _ _ _ (pv 9)) (@q1_ _ _) (by exact z1_ rfl)) (by decide) (by decide) (by exact z1_ rfl) (by exact q5_ rfl))) (by intro _;rfl))) (@q1_ _ _) (by exact z1_ rfl)) (by decide) (by decide) (by exact z1_ rfl) (by exact q5_ rfl)) (by rfl) (by first|exact .inl rfl|exact .inr rfl|assumption)) (@v4_ _ _ _ _ (@b0z _ _ ["-0","-1","-2","-3","-4","-5","-6","-7","_law_most","_law_row"] _ [false,false,false,false,false,false,false,false,true] 1 _ _ _ _ _ _ _ _ _ 6 _ _ _ (by exact(g3_ rfl rfl)) (by exact rfl) (by exact a0W.nd) (by exact rfl) (by exact rfl) (by exact rfl) (@w2_ _ _ _ _ _ (@z3_ _ _ _ _ _ (pv 6))) (fun s H fp=>(@x0_ _ _ _ _ 9 _ (by exact(show 9≤9 by decide)) (by exact b7M) (by exact rfl) (by first|exact Or.inl rfl|exact Or.inr rfl) (by first|exact .inl rfl|exact .inr rfl|assumption))) (fun s H fp=>(@a4P _ _ _ _ (@k5_ _ _ _ _ _ _ _ _ _ _ (by exact(op_eqD hr.units)) (by exact opd_eq) (@w1_ _ _ _ _ _ _ _ _ _ _ _ (by exact(a6L rfl)) (by exact a6M) (by exact rfl) (by exact T.g_min) (by exact a4U) (@z8_ _ _ _ _ _ _ (@z3_ _ _ _ _ _ (pv 9)) (@q1_ _ _) (by exact z1_ rfl)) (by decide) (by decide) (by exact z1_ rfl) (by exact q5_ rfl)) (@z3_ _ _ _ _ _ (pv 8)) (by exact(nomark _))))) (fun s H fp=>(@z3_ _ _ _ _ _ (pv 9))) (by intro _;rfl)))) (@j2_ _ _)) (@v0_ _ _ _ _ _ _ (@x9_ _ _ _ _ _ 7 _ _ (by exact a0W.nd) (by exact rfl) (by first|exact Or.inl rfl|exact Or.inr rfl) (@a9g _ _ _ _ _ _ _ (@z3_ _ _ _ _ _ (pv 6)) (@k2_ _ _ _ _ _ _ _ _ _ _ _ (by exact d__law_take) (by exact(hr.mono (show 1≤1 by decide))) (by exact rfl) (@a1o _ _ _ _ _ _ _ (pv 0) (@q9_ _ _ _ _ _ _ (@w1_ _ _ _ _ _ _ _ _ _ _ _ (by exact a1F) (by exact a1J) (by exact rfl) (by exact T.g_len) (by exact Ye) (@z8_ _ _ _ _ _ _ (@z3_ _ _ _ _ _ (pv 6)) (@q1_ _ _) (by exact z1_ rfl)) (by decide) (by decide) (by exact z1_ rfl) (by exact q5_ rfl)) (@y5_ _ _) (by exact z1_ rfl)) (by exact z1_ rfl)) (by decide) (by exact z1_ rfl) (by exact q5_ rfl)) (fun _ _=>rfl)) (by rfl) (by first|exact .inl rfl|exact .inr rfl|assumption)) (@v0_ _ _ _ _ _ _ (@x9_ _ _ _ _ _ 3 _ _ (by exact a0W.nd) (by exact rfl) (by first|exact Or.inl rfl|exact Or.inr rfl) (@v9_ _ _ _ _ _ _ _ _ _ _ (by exact g1_) (by exact g2_) (@z3_ _ _ _ _ _ (pv 3)) (@y8_ _ _ _ _ _ _ (@z8_ _ _ _ _ _ _ (@z3_ _ _ _ _ _ (pv 7)) (@q1_ _ _) (by exact z1_ rfl)))) (by rfl) (by first|exact .inl rfl|exact .inr rfl|assumption)) (@v4_ _ _ _ _ (@x9_ _ _ _ _ _ 2 _ _ (by exact a0W.nd) (by exact rfl) (by first|exact Or.inl rfl|exact Or.inr rfl) (@k2_ _ _ _ _ _ _ _ _ _ _ _ (by exact d__law_held) (by exact(hr.mono (show 1≤1 by decide))) (by exact rfl) (@q9_ _ _ _ _ _ _ (@z3_ _ _ _ _ _ (pv 2)) (@q9_ _ _ _ _ _ _ (@z3_ _ _ _ _ _ (pv 7)) (@y5_ _ _) (by exact z1_ rfl)) (by exact z1_ rfl)) (by decide) (by exact z1_ rfl) (by exact q5_ rfl)) (by rfl) (by first|exact .inl rfl|exact .inr rfl|assumption))))))) (by intro _;rfl)) (@v4_ _ _ _ _ (@k1_ _ _ _ _ _ (@z3_ _ _ _ _ _ (pv 3))))))))
theorem a3o:FnScope ["_law_side","_law_lots","_law_place","_law_found","_law_held_here"] ["_law_side"] (y7_ a7D):=k9_
theorem b7P:(["-0","-1","-2","_law_found","_law_held_here","_law_row"]:List Str).Nodup:=by decide+kernel
theorem b7Q:(["-0","-1","-2","-3","-4","_law_row"]:List Str).Nodup:=by decide+kernel
theorem b7R:(["-0","-1","-2","-3","-4","_law_row"]:List Str).Nodup:=by decide+kernel
def a7R:Mo Fl:=(q0_ (v1_ 1 (mF (w9_ (z2_ (q7_ z4_) z4_)))) (q0_ (w6_ (a0q (z2_ (z0_ 0) z4_)) (gN 2) (v1_ 1 (mF (a4R (mF (y0_ (v6_ (z0_ 1)) [false,false,false,false,false] 1 (gN 5) y4_ (z5_ x2_ (z0_ 5) (q7_ (z2_ (mC (.int 0)) z4_))))) (mF (y0_ (v6_ (z0_ 1)) [false,false,false,false,false] 1 (gN 5) y4_ (z5_ x2_ (z0_ 5) (q7_ (z2_ (mC (.int 1)) z4_))))))))) (q0_ (a6S 3) (q0_ (w6_ (v6_ (mF (a7h (z0_ 1)))) (gN 4) (q0_ (j8_ (mCB a3J (z2_ (z5_ (dEq false) (mCB g5_ (z2_ (z0_ 4) z4_)) (z0_ 0)) z4_)) (gSD 3 (z0_ 4))) (y3_ (mT (z5_ dLt (mCB g5_ (z2_ (z0_ 4) z4_)) (z0_ 0))) (j8_ (mCB g5_ (z2_ (mF (y0_ (v6_ (mF (x6_ 1 u5_ (z7_ (z0_ 4) q2_)))) [false,false,false,true,true] 1 (gN 5) y4_ (a5a 3 (mCD 2 g8_ (z7_ (z0_ 4) (z7_ (z0_ 5) q2_)))))) z4_)) (gSD 3 (z0_ 4))) mNx))) (y9_ (z0_ 3))))))
def a4k:Fn:=fnM 5 a7R
theorem b7S{f:Addr}{fd:FuncData}(F:Fun K "_law_counts" "_law_counts" a7D f fd)(T:Txt K mg)(d__law_held:Def P w K mg base "_law_held" 1 2 g8_)(d__law_rows:Def P w K mg base "_law_rows" 1 1 u5_):FnOk P w K mg base CX0 2 f fd ["_law_side"] (SpF K 1 a4k):=
 k8_ F a3o fun cdv A outer s H E hr=>(@v0_ _ _ _ _ _ _ (@x9_ _ _ _ _ _ 1 _ _ (by exact a3o.nd) (by exact rfl) (by first|exact Or.inl rfl|exact Or.inr rfl) (@x7_ _ _ _ _ (@a1b _ _ _ _ _ (@z8_ _ _ _ _ _ _ (@y8_ _ _ _ _ _ _ (@q1_ _ _)) (@q1_ _ _) (by exact z1_ rfl)))) (by rfl) (by first|exact .inl rfl|exact .inr rfl|assumption)) (@v0_ _ _ _ _ _ _ (@a0L _ _ _ _ _ _ _ _ _ (by exact Zf) (by exact rfl) (@a4K _ _ _ _ _ _ _ (by exact rfl) (by exact T.g_range) (@z8_ _ _ _ _ _ _ (@z3_ _ _ _ _ _ (pv 0)) (@q1_ _ _) (by exact z1_ rfl)) (by exact se1 rfl)) (@x0_ _ _ _ _ 2 _ (by exact(show 0≤2 by decide)) (by exact a3o.nd) (by exact rfl) (by first|exact Or.inl rfl|exact Or.inr rfl) (by first|exact .inl rfl|exact .inr rfl|assumption)) (@v4_ _ _ _ _ (@x9_ _ _ _ _ _ 1 _ _ (by exact a3o.nd) (by exact rfl) (by first|exact Or.inl rfl|exact Or.inr rfl) (@x7_ _ _ _ _ (@b5j _ _ _ _ _ _ _ (@x7_ _ _ _ _ (@a0m _ _ ["-0","-1","-2","-3","-4","_law_row"] _ [false,false,false,false,false] 1 _ _ _ _ _ _ _ _ _ (by exact(g3_ rfl rfl)) (by exact rfl) (@w2_ _ _ _ _ _ (@z3_ _ _ _ _ _ (pv 1))) (fun s H fp=>(@x0_ _ _ _ _ 5 _ (by exact(show 5≤5 by decide)) (by exact b7Q) (by exact rfl) (by first|exact Or.inl rfl|exact Or.inr rfl) (by first|exact .inl rfl|exact .inr rfl|assumption))) (fun s H fp=>(@a0h _ _)) (fun s H fp=>(@v9_ _ _ _ _ _ _ _ _ _ _ (by exact g1_) (by exact g2_) (@z3_ _ _ _ _ _ (pv 5)) (@y8_ _ _ _ _ _ _ (@z8_ _ _ _ _ _ _ (@q4_ _ _ _ _ _) (@q1_ _ _) (by exact z1_ rfl))))) (by intro _;rfl))) (@x7_ _ _ _ _ (@a0m _ _ ["-0","-1","-2","-3","-4","_law_row"] _ [false,false,false,false,false] 1 _ _ _ _ _ _ _ _ _ (by exact(g3_ rfl rfl)) (by exact rfl) (@w2_ _ _ _ _ _ (@z3_ _ _ _ _ _ (pv 1))) (fun s H fp=>(@x0_ _ _ _ _ 5 _ (by exact(show 5≤5 by decide)) (by exact b7R) (by exact rfl) (by first|exact Or.inl rfl|exact Or.inr rfl) (by first|exact .inl rfl|exact .inr rfl|assumption))) (fun s H fp=>(@a0h _ _)) (fun s H fp=>(@v9_ _ _ _ _ _ _ _ _ _ _ (by exact g1_) (by exact g2_) (@z3_ _ _ _ _ _ (pv 5)) (@y8_ _ _ _ _ _ _ (@z8_ _ _ _ _ _ _ (@q4_ _ _ _ _ _) (@q1_ _ _) (by exact z1_ rfl))))) (by intro _;rfl))))) (by rfl) (by first|exact .inl rfl|exact .inr rfl|assumption))) (by intro _;rfl)) (@v0_ _ _ _ _ _ _ (@b0l _ _ _ 3 _ _ _ (by exact a3o.nd) (by exact rfl) (by first|exact Or.inl rfl|exact Or.inr rfl) (by rfl) (by first|exact .inl rfl|exact .inr rfl|assumption)) (@v0_ _ _ _ _ _ _ (@a0L _ _ _ _ _ _ _ _ _ (by exact Zf) (by exact rfl) (@w2_ _ _ _ _ _ (@x7_ _ _ _ _ (by exact(b6W rfl (@z3_ _ _ _ _ _ (pv 1)) rfl T.g_sorted rfl T.g_sum (hs:=z1_ rfl) (hpl:=q5_ rfl))))) (@x0_ _ _ _ _ 4 _ (by exact(show 0≤4 by decide)) (by exact a3o.nd) (by exact rfl) (by first|exact Or.inl rfl|exact Or.inr rfl) (by first|exact .inl rfl|exact .inr rfl|assumption)) (@v0_ _ _ _ _ _ _ (@a3D _ _ _ _ _ _ _ (@a6h _ _ _ _ _ _ _ _ _ _ _ (by exact b3G) (by exact b4X) (by exact rfl) (by exact T.g_int) (by exact a9N) (@z8_ _ _ _ _ _ _ (@a4z _ _ _ _ _ _ _ _ _ _ (by exact(op_eqD hr.units)) (by exact opd_eq) (@w1_ _ _ _ _ _ _ _ _ _ _ _ (by exact(a3b rfl)) (by exact a3c) (by exact rfl) (by exact T.g_sum) (by exact a2s) (@z8_ _ _ _ _ _ _ (@z3_ _ _ _ _ _ (pv 4)) (@q1_ _ _) (by exact z1_ rfl)) (by decide) (by decide) (by exact z1_ rfl) (by exact q5_ rfl)) (@z3_ _ _ _ _ _ (pv 0)) (by exact(nomark _))) (@q1_ _ _) (by exact z1_ rfl)) (by decide) (by decide) (by exact z1_ rfl) (by exact q5_ rfl)) (@a6T _ _ _ _ _ _ _ _ _ (by exact hr.units) (pv 3) (@z3_ _ _ _ _ _ (pv 4)) (by intro _;rfl)) (by rfl) (by rfl) (by rfl)) (@v4_ _ _ _ _ (@j3_ _ _ _ _ _ _ _ _ _ (@k5_ _ _ _ _ _ _ _ _ _ _ (by exact a5P) (by exact a6b) (@w1_ _ _ _ _ _ _ _ _ _ _ _ (by exact(a3b rfl)) (by exact a3c) (by exact rfl) (by exact T.g_sum) (by exact a2s) (@z8_ _ _ _ _ _ _ (@z3_ _ _ _ _ _ (pv 4)) (@q1_ _ _) (by exact z1_ rfl)) (by decide) (by decide) (by exact z1_ rfl) (by exact q5_ rfl)) (@z3_ _ _ _ _ _ (pv 0)) (by exact(nomark _))) (@v4_ _ _ _ _ (@a3D _ _ _ _ _ _ _ (@w1_ _ _ _ _ _ _ _ _ _ _ _ (by exact(a3b rfl)) (by exact a3c) (by exact rfl) (by exact T.g_sum) (by exact a2s) (@z8_ _ _ _ _ _ _ (@x7_ _ _ _ _ (@a0m _ _ ["-0","-1","-2","_law_found","_law_held_here","_law_row"] _ [false,false,false,true,true] 1 _ _ _ _ _ _ _ _ _ (by exact(g3_ rfl rfl)) (by exact rfl) (@w2_ _ _ _ _ _ (@x7_ _ _ _ _ (@a0O _ _ _ _ _ _ _ _ _ _ _ (by exact d__law_rows) (by exact(hr.mono (show 1≤1 by decide))) (by exact rfl) (@q9_ _ _ _ _ _ _ (@z3_ _ _ _ _ _ (pv 4)) (@y5_ _ _) (by exact z1_ rfl)) (by decide) (by exact z1_ rfl) (by exact q5_ rfl)))) (fun s H fp=>(@x0_ _ _ _ _ 5 _ (by exact(show 5≤5 by decide)) (by exact b7P) (by exact rfl) (by first|exact Or.inl rfl|exact Or.inr rfl) (by first|exact .inl rfl|exact .inr rfl|assumption))) (fun s H fp=>(@a0h _ _)) (fun s H fp=>(@b0m _ _ _ _ _ _ _ _ (by exact hr.units) (pv 3) (@k2_ _ _ _ _ _ _ _ _ _ _ _ (by exact d__law_held) (by exact(hr.mono (show 1≤1 by decide))) (by exact rfl) (@q9_ _ _ _ _ _ _ (@z3_ _ _ _ _ _ (pv 4)) (@q9_ _ _ _ _ _ _ (@z3_ _ _ _ _ _ (pv 5)) (@y5_ _ _) (by exact z1_ rfl)) (by exact z1_ rfl)) (by decide) (by exact z1_ rfl) (by exact q5_ rfl)) (fun _ _=>rfl) (by exact(b6s (b0o (a6F (by decide)) (b0o (a6F (by decide)) b6r)))))) (by intro _;rfl))) (@q1_ _ _) (by exact z1_ rfl)) (by decide) (by decide) (by exact z1_ rfl) (by exact q5_ rfl)) (@a6T _ _ _ _ _ _ _ _ _ (by exact hr.units) (pv 3) (@z3_ _ _ _ _ _ (pv 4)) (by intro _;rfl)) (by rfl) (by rfl) (by rfl))) (@j2_ _ _)))) (by intro _;rfl)) (@v4_ _ _ _ _ (@k1_ _ _ _ _ _ (@z3_ _ _ _ _ _ (pv 3))))))))
theorem b7T:FnScope ["_law_found","_law_due"] ["_law_found","_law_due"] (y7_ a7E):=k9_
theorem b0V:(["-0","-1","_law_one","_law_other"]:List Str).Nodup:=by decide+kernel
def a2B(r_:Fn):Mo Fl:=(q0_ (y3_ (mT (a9S "tuple" "list" (z0_ 1))) (q0_ (y3_ (a0f (mT (z5_ (dEq true) (mIs "tuple" (z0_ 0)) (mIs "tuple" (z0_ 1)))) (mT (z5_ (dEq true) (mIs "list" (z0_ 0)) (mIs "list" (z0_ 1))))) (y9_ (mC (.bl false))) mNx) (y9_ (a1n (z5_ (dEq false) (mCB k3_ (z2_ (z0_ 0) z4_)) (mCB k3_ (z2_ (z0_ 1) z4_))) (mCB a2W (z2_ (mF (y0_ (a1e (z2_ (z0_ 0) (z2_ (z0_ 1) z4_))) [false,false] 2 (gT 2 (gCn (gN 2) (gCn (gN 3) gNl))) y4_ (mCD 2 r_ (z7_ (z0_ 2) (z7_ (z0_ 3) q2_))))) z4_))))) mNx) (y9_ (a1n (z5_ (dEq false) (z0_ 0) (z0_ 1)) (z5_ (dEq false) (mIs "bool" (z0_ 0)) (mIs "bool" (z0_ 1))))))
def w0_:Nat->Fn
 |0=>fun _=>none
 |n_+1=>fnM 2 (a2B (w0_ n_))
theorem b0W{f:Addr}{fd:FuncData}(F:Fun K "_law_same" "_law_same" a7E f fd)(T:Txt K mg)(hmg:mg "_law_same"=some (.ref f))(hkp:PySem.W.keepIn K (.ref f)=true)(hbd:a0e K fd ["_law_found","_law_due"] []):∀n_:Nat,FnOk P w K mg base CX0 (1+n_) f fd ["_law_found","_law_due"] (SpF K 2 (w0_ n_))
 |0=>a9V
 |n_+1=>by
  have d__law_same:Def P w K mg base "_law_same" (1+n_) 2 (w0_ n_):=⟨_,_,_,b0W F T hmg hkp hbd n_,rfl,hmg,hkp,hbd⟩
  exact k8_ F b7T fun cdv A outer s H E hr=>(@v0_ _ _ _ _ _ _ (@j3_ _ _ _ _ _ _ _ _ _ (@a2i _ _ _ _ (@b5M _ _ _ _ _ _ _ _ _ _ _ _ _ _ (by exact a2V) (by exact a6v) (@z3_ _ _ _ _ _ (pv 1)) (by exact rfl) (by exact T.g_isinstance) (by exact rfl) (by exact T.g_tuple) (by exact a1P) (by exact rfl) (by exact T.g_list) (by exact a6H) (by decide) (by decide) (by decide) (by decide) (by exact se2 rfl rfl)) (by intro _;rfl)) (@v0_ _ _ _ _ _ _ (@j3_ _ _ _ _ _ _ _ _ _ (@a2j _ _ _ _ (@a4D _ _ _ _ _ _ _ _ (@k5_ _ _ _ _ _ _ _ _ _ _ (by exact(op_neD hr.units)) (by exact opd_eq) (@a0N _ _ _ _ _ _ _ _ _ (by exact a2V) (@z3_ _ _ _ _ _ (pv 0)) (by exact rfl) (by exact T.g_isinstance) (by exact rfl) (by exact T.g_tuple) (by exact a1P) (by decide) (by decide) (by exact se2 rfl rfl)) (@a0N _ _ _ _ _ _ _ _ _ (by exact a2V) (@z3_ _ _ _ _ _ (pv 1)) (by exact rfl) (by exact T.g_isinstance) (by exact rfl) (by exact T.g_tuple) (by exact a1P) (by decide) (by decide) (by exact se2 rfl rfl)) (by exact(nomark _))) (@a4C _ _ _ _ _ (@k5_ _ _ _ _ _ _ _ _ _ _ (by exact(op_neD hr.units)) (by exact opd_eq) (@a0N _ _ _ _ _ _ _ _ _ (by exact a6v) (@z3_ _ _ _ _ _ (pv 0)) (by exact rfl) (by exact T.g_isinstance) (by exact rfl) (by exact T.g_list) (by exact a6H) (by decide) (by decide) (by exact se2 rfl rfl)) (@a0N _ _ _ _ _ _ _ _ _ (by exact a6v) (@z3_ _ _ _ _ _ (pv 1)) (by exact rfl) (by exact T.g_isinstance) (by exact rfl) (by exact T.g_list) (by exact a6H) (by decide) (by decide) (by exact se2 rfl rfl)) (by exact(nomark _)))))) (@v4_ _ _ _ _ (@k1_ _ _ _ _ _ (@a1G _ _ _ _ _))) (@j2_ _ _)) (@v4_ _ _ _ _ (@k1_ _ _ _ _ _ (@a3C _ _ _ _ _ _ _ _ (@a4z _ _ _ _ _ _ _ _ _ _ (by exact(op_eqD hr.units)) (by exact opd_eq) (@w1_ _ _ _ _ _ _ _ _ _ _ _ (by exact a1F) (by exact a1J) (by exact rfl) (by exact T.g_len) (by exact Ye) (@z8_ _ _ _ _ _ _ (@z3_ _ _ _ _ _ (pv 0)) (@q1_ _ _) (by exact z1_ rfl)) (by decide) (by decide) (by exact z1_ rfl) (by exact q5_ rfl)) (@w1_ _ _ _ _ _ _ _ _ _ _ _ (by exact a1F) (by exact a1J) (by exact rfl) (by exact T.g_len) (by exact Ye) (@z8_ _ _ _ _ _ _ (@z3_ _ _ _ _ _ (pv 1)) (@q1_ _ _) (by exact z1_ rfl)) (by decide) (by decide) (by exact z1_ rfl) (by exact q5_ rfl)) (by exact(nomark _))) (@a3B _ _ _ _ _ _ (@w1_ _ _ _ _ _ _ _ _ _ _ _ (by exact(a6x rfl)) (by exact a6y) (by exact rfl) (by exact T.g_all) (by exact a6I) (@z8_ _ _ _ _ _ _ (@x7_ _ _ _ _ (@a0m _ _ ["-0","-1","_law_one","_law_other"] _ [false,false] 2 _ _ _ _ _ _ _ _ _ (by exact(g3_ rfl rfl)) (by exact rfl) (@a6E _ _ _ _ _ _ _ _ _ _ (by exact rfl) (by exact T.g_zip) (@z8_ _ _ _ _ _ _ (@z3_ _ _ _ _ _ (pv 0)) (@z8_ _ _ _ _ _ _ (@z3_ _ _ _ _ _ (pv 1)) (@q1_ _ _) (by exact z1_ rfl)) (by exact z1_ rfl)) (by exact se2 rfl rfl) (by exact se1 rfl)) (fun s H fp=>(@a2m _ _ _ _ _ _ _ _ (by exact rfl) (@a0g _ _ _ _ _ _ _ (@x0_ _ _ _ _ 2 _ (by exact(show 2≤2 by decide)) (by exact b0V) (by exact rfl) (by first|exact Or.inl rfl|exact Or.inr rfl) (by first|exact .inl rfl|exact .inr rfl|assumption)) (@a0g _ _ _ _ _ _ _ (@x0_ _ _ _ _ 3 _ (by exact(show 2≤3 by decide)) (by exact b0V) (by exact rfl) (by first|exact Or.inl rfl|exact Or.inr rfl) (by first|exact .inl rfl|exact .inr rfl|assumption)) (@a2l _ _ _) (by rfl)) (by rfl)) (by rfl) (by rfl))) (fun s H fp=>(@a0h _ _)) (fun s H fp=>(@k2_ _ _ _ _ _ _ _ _ _ _ _ (by exact d__law_same) (by exact(hr.mono (Qm _))) (by exact rfl) (@q9_ _ _ _ _ _ _ (@z3_ _ _ _ _ _ (pv 2)) (@q9_ _ _ _ _ _ _ (@z3_ _ _ _ _ _ (pv 3)) (@y5_ _ _) (by exact z1_ rfl)) (by exact z1_ rfl)) (by decide) (by exact z1_ rfl) (by exact q5_ rfl))) (by intro _;rfl))) (@q1_ _ _) (by exact z1_ rfl)) (by decide) (by decide) (by exact z1_ rfl) (by exact q5_ rfl))))))) (@j2_ _ _)) (@v4_ _ _ _ _ (@k1_ _ _ _ _ _ (@a3C _ _ _ _ _ _ _ _ (@a4z _ _ _ _ _ _ _ _ _ _ (by exact(op_eqD hr.units)) (by exact opd_eq) (@z3_ _ _ _ _ _ (pv 0)) (@z3_ _ _ _ _ _ (pv 1)) (by exact(nomark _))) (@a3B _ _ _ _ _ _ (@a4z _ _ _ _ _ _ _ _ _ _ (by exact(op_eqD hr.units)) (by exact opd_eq) (@a0N _ _ _ _ _ _ _ _ _ (by exact a6w) (@z3_ _ _ _ _ _ (pv 0)) (by exact rfl) (by exact T.g_isinstance) (by exact rfl) (by exact T.g_bool) (by exact a6G) (by decide) (by decide) (by exact se2 rfl rfl)) (@a0N _ _ _ _ _ _ _ _ _ (by exact a6w) (@z3_ _ _ _ _ _ (pv 1)) (by exact rfl) (by exact T.g_isinstance) (by exact rfl) (by exact T.g_bool) (by exact a6G) (by decide) (by decide) (by exact se2 rfl rfl)) (by exact(nomark _))))))))
theorem a7S:FnScope ["_law_top","_law_bottom","_law_one","_law_other"] ["_law_top","_law_bottom"] (y7_ a7F):=k9_
def a7T:Mo Fl:=(q0_ (a1K 2 3 (z2_ (z0_ 1) (z2_ (z0_ 0) z4_))) (q0_ (a6N 60 (mT (z5_ dGt (z0_ 3) (mC (.int 0)))) (a1K 2 3 (z2_ (z0_ 3) (z2_ (z5_ u0_ (z0_ 2) (z0_ 3)) z4_)))) (y9_ (q7_ (z2_ (z5_ a3j (z0_ 0) (z0_ 2)) (z2_ (z5_ a3j (z0_ 1) (z0_ 2)) z4_))))))
def a3p:Fn:=fnM 4 a7T
theorem b7U{f:Addr}{fd:FuncData}(F:Fun K "_law_cut" "_law_cut" a7F f fd)(T:Txt K mg):FnOk P w K mg base CX0 1 f fd ["_law_top","_law_bottom"] (SpF K 2 a3p):=
 k8_ F a7S fun cdv A outer s H E hr=>(@v0_ _ _ _ _ _ _ (@a4J _ _ _ _ _ _ 2 3 _ _ _ _ _ _ _ _ (by exact rfl) (by exact a7S.nd) (by exact rfl) (by exact rfl) (by decide) (by exact rfl) (by exact rfl) (@z8_ _ _ _ _ _ _ (@z3_ _ _ _ _ _ (pv 1)) (@z8_ _ _ _ _ _ _ (@z3_ _ _ _ _ _ (pv 0)) (@q1_ _ _) (by exact z1_ rfl)) (by exact z1_ rfl)) (by exact rfl) (by rfl)) (@v0_ _ _ _ _ _ _ (@a9X _ _ _ _ _ _ _ _ (by exact Zf) (@k5_ _ _ _ _ _ _ _ _ _ _ (by exact a8y) (by exact a9d) (@z3_ _ _ _ _ _ (pv 3)) (@q4_ _ _ _ _ _) (by exact(nomark _))) (@v4_ _ _ _ _ (@a4J _ _ _ _ _ _ 2 3 _ _ _ _ _ _ _ _ (by exact rfl) (by exact a7S.nd) (by exact rfl) (by exact rfl) (by decide) (by exact rfl) (by exact rfl) (@z8_ _ _ _ _ _ _ (@z3_ _ _ _ _ _ (pv 3)) (@z8_ _ _ _ _ _ _ (@v9_ _ _ _ _ _ _ _ _ _ _ (by exact a1D) (by exact a1I) (@z3_ _ _ _ _ _ (pv 2)) (@z3_ _ _ _ _ _ (pv 3))) (@q1_ _ _) (by exact z1_ rfl)) (by exact z1_ rfl)) (by exact rfl) (by rfl)))) (@v4_ _ _ _ _ (@k1_ _ _ _ _ _ (@y8_ _ _ _ _ _ _ (@z8_ _ _ _ _ _ _ (@v9_ _ _ _ _ _ _ _ _ _ _ (by exact a5d) (by exact a5e) (@z3_ _ _ _ _ _ (pv 0)) (@z3_ _ _ _ _ _ (pv 2))) (@z8_ _ _ _ _ _ _ (@v9_ _ _ _ _ _ _ _ _ _ _ (by exact a5d) (by exact a5e) (@z3_ _ _ _ _ _ (pv 1)) (@z3_ _ _ _ _ _ (pv 2))) (@q1_ _ _) (by exact z1_ rfl)) (by exact z1_ rfl)))))))
theorem a0n:FnScope ["_law_script","_law_k","_law_state_here","_law_side","_law_ways","_law_table_here","_law_many","_law_held_here","_law_row","_law_due","_law_turn","_law_found"] ["_law_script"] (y7_ a3m):=k9_
theorem b7V:(["-0","-1","-2","-3","_law_ways","-5","-6","_law_held_here","-8","-9","-10","-11","_law_row"]:List Str).Nodup:=by decide+kernel
def b0X:Mo Fl:=(q0_ (y3_ (a0f (mT (z5_ (dEq true) (mF (x6_ 2 a0I (z7_ (mC (.int 2)) (z7_ (q7_ z4_) q2_)))) (mF (w9_ (z2_ (q7_ (z2_ (q7_ (z2_ (mC (.int 0)) (z2_ (mC (.int 1)) z4_))) (z2_ (q7_ (z2_ (mC (.int 1)) (z2_ (mC (.int 2)) z4_))) z4_))) (z2_ (q7_ (z2_ (q7_ (z2_ (mC (.int 1)) (z2_ (mC (.int 0)) z4_))) (z2_ (q7_ (z2_ (mC (.int 1)) (z2_ (mC (.int 2)) z4_))) z4_))) z4_)))))) (mT (z5_ (dEq true) (mF (x6_ 2 a0I (z7_ (mC (.int 1)) (z7_ (q7_ (z2_ (q7_ (z2_ (mC (.int 1)) z4_)) z4_)) q2_)))) (mF (w9_ z4_))))) (y9_ (mC (.bl false))) mNx) (q0_ (w6_ (a0q (z2_ (mCB a2X (z2_ (mC (.int 1)) (z2_ (mCB a2Y (z2_ (mCB k3_ (z2_ (z0_ 0) z4_)) (z2_ (mC (.int 6)) z4_))) z4_))) z4_)) (gN 1) (q0_ (w5_ 2 (x6_ 2 a4h (z7_ (z0_ 0) (z7_ (z0_ 1) q2_)))) (q0_ (v1_ 3 (z5_ x2_ (mC (.int 1)) (mCD 2 a0c (k7_ 2 (z7_ (mC (.int 6)) q2_))))) (q0_ (v1_ 4 (mCD 1 a4k (z7_ (z0_ 3) q2_))) (q0_ (v1_ 5 (mCD 2 a4j (k7_ 2 (z7_ (z0_ 3) q2_)))) (w6_ (v6_ (mF (w9_ (z2_ (mCD 2 a0c (k7_ 2 (z7_ (z5_ x2_ (z0_ 3) (mC (.int 1))) q2_))) (z2_ (mC (.int 0)) (z2_ (z0_ 3) (z2_ (z5_ a2M (z0_ 3) (mC (.int 1))) z4_))))))) (gN 6) (q0_ (v1_ 7 (z5_ w4_ (q7_ (z2_ (mC (.int 0)) z4_)) (z0_ 3))) (q0_ (w6_ (v6_ (mSl (z0_ 5) a1s (a1t (z0_ 6)))) (gN 8) (v1_ 7 (mCD 2 g8_ (z7_ (z0_ 7) (z7_ (z0_ 8) q2_))))) (q0_ (v1_ 9 (mF (w9_ z4_))) (q0_ (y3_ (mT (z5_ a3i (z0_ 6) (z0_ 3))) (w5_ 9 (y0_ (v6_ (mF (x6_ 1 u5_ (z7_ (z0_ 7) q2_)))) [false,false,false,false,true,false,false,true,false,false,false,false] 1 (gN 12) y4_ (q7_ (z2_ (z0_ 12) (z2_ (mCD 2 a3p (z7_ (z5_ a1w (z0_ 4) (mCD 2 g8_ (z7_ (z0_ 7) (z7_ (z0_ 12) q2_)))) (z7_ (z5_ a1w (z0_ 4) (z0_ 7)) q2_))) z4_))))) mNx) (w6_ (a0q (z2_ (mC (.int 2)) z4_)) (gN 10) (q0_ (w5_ 11 (x6_ 2 a0I (z7_ (z0_ 3) (z7_ (mSl (z0_ 5) a1s (a1t (z0_ 6))) q2_)))) (q0_ (y3_ (u8_ (mT (a3h 2 (w0_ 6) [11,9]))) (y9_ (mC (.bl false))) mNx) (a1p 11 (q7_ z4_))))))))))))))) (y9_ (mC (.bl true)))))
def a5x:Fn:=fnM 12 b0X
theorem b7W{f:Addr}{fd:FuncData}(F:Fun K "law" "law" a3m f fd)(T:Txt K mg)(d__law_state:Def P w K mg base "_law_state" 2 2 a4h)(d__law_counts:Def P w K mg base "_law_counts" 2 1 a4k)(d__law_table:Def P w K mg base "_law_table" 2 2 a4j)(d_next_rows:Def P w K mg base "next_rows" 19 2 a0I)(d__law_take:Def P w K mg base "_law_take" 1 2 a0c)(d__law_held:Def P w K mg base "_law_held" 1 2 g8_)(d__law_same:Def P w K mg base "_law_same" 7 2 (w0_ 6))(d__law_cut:Def P w K mg base "_law_cut" 1 2 a3p)(d__law_rows:Def P w K mg base "_law_rows" 1 1 u5_):FnOk P w K mg base CX0 20 f fd ["_law_script"] (SpF K 1 a5x):=
 k8_ (N:=["_law_script","_law_k","_law_state_here","_law_side","_law_ways","_law_table_here","_law_many","_law_held_here","_law_row","_law_due","_law_turn","_law_found"]) (mb:=b0X) F a0n fun cdv A outer s H E hr=>(@v0_ _ _ _ _ _ _ (@j3_ _ _ _ _ _ _ _ _ _ (@a2j _ _ _ _ (@a4D _ _ _ _ _ _ _ _ (@k5_ _ _ _ _ _ _ _ _ _ _ (by exact(op_neD hr.units)) (by exact opd_eq) (@x7_ _ _ _ _ (@a0O _ _ _ _ _ _ _ _ _ _ _ (by exact d_next_rows) (by exact(hr.mono (show 19≤19 by decide))) (by exact rfl) (@q9_ _ _ _ _ _ _ (@q4_ _ _ _ _ _) (@q9_ _ _ _ _ _ _ (@y8_ _ _ _ _ _ _ (@q1_ _ _)) (@y5_ _ _) (by exact z1_ rfl)) (by exact z1_ rfl)) (by decide) (by exact z1_ rfl) (by exact q5_ rfl))) (@x7_ _ _ _ _ (@a1b _ _ _ _ _ (@z8_ _ _ _ _ _ _ (@y8_ _ _ _ _ _ _ (@z8_ _ _ _ _ _ _ (@y8_ _ _ _ _ _ _ (@z8_ _ _ _ _ _ _ (@q4_ _ _ _ _ _) (@z8_ _ _ _ _ _ _ (@q4_ _ _ _ _ _) (@q1_ _ _) (by exact z1_ rfl)) (by exact z1_ rfl))) (@z8_ _ _ _ _ _ _ (@y8_ _ _ _ _ _ _ (@z8_ _ _ _ _ _ _ (@q4_ _ _ _ _ _) (@z8_ _ _ _ _ _ _ (@q4_ _ _ _ _ _) (@q1_ _ _) (by exact z1_ rfl)) (by exact z1_ rfl))) (@q1_ _ _) (by exact z1_ rfl)) (by exact z1_ rfl))) (@z8_ _ _ _ _ _ _ (@y8_ _ _ _ _ _ _ (@z8_ _ _ _ _ _ _ (@y8_ _ _ _ _ _ _ (@z8_ _ _ _ _ _ _ (@q4_ _ _ _ _ _) (@z8_ _ _ _ _ _ _ (@q4_ _ _ _ _ _) (@q1_ _ _) (by exact z1_ rfl)) (by exact z1_ rfl))) (@z8_ _ _ _ _ _ _ (@y8_ _ _ _ _ _ _ (@z8_ _ _ _ _ _ _ (@q4_ _ _ _ _ _) (@z8_ _ _ _ _ _ _ (@q4_ _ _ _ _ _) (@q1_ _ _) (by exact z1_ rfl)) (by exact z1_ rfl))) (@q1_ _ _) (by exact z1_ rfl)) (by exact z1_ rfl))) (@q1_ _ _) (by exact z1_ rfl)) (by exact z1_ rfl)))) (by exact(nomark _))) (@a4C _ _ _ _ _ (@k5_ _ _ _ _ _ _ _ _ _ _ (by exact(op_neD hr.units)) (by exact opd_eq) (@x7_ _ _ _ _ (@a0O _ _ _ _ _ _ _ _ _ _ _ (by exact d_next_rows) (by exact(hr.mono (show 19≤19 by decide))) (by exact rfl) (@q9_ _ _ _ _ _ _ (@q4_ _ _ _ _ _) (@q9_ _ _ _ _ _ _ (@y8_ _ _ _ _ _ _ (@z8_ _ _ _ _ _ _ (@y8_ _ _ _ _ _ _ (@z8_ _ _ _ _ _ _ (@q4_ _ _ _ _ _) (@q1_ _ _) (by exact z1_ rfl))) (@q1_ _ _) (by exact z1_ rfl))) (@y5_ _ _) (by exact z1_ rfl)) (by exact z1_ rfl)) (by decide) (by exact z1_ rfl) (by exact q5_ rfl))) (@x7_ _ _ _ _ (@a1b _ _ _ _ _ (@q1_ _ _))) (by exact(nomark _)))))) (@v4_ _ _ _ _ (@k1_ _ _ _ _ _ (@a1G _ _ _ _ _))) (@j2_ _ _)) (@v0_ _ _ _ _ _ _ (@a0L _ _ _ _ _ _ _ _ _ (by exact Zf) (by exact rfl) (@a4K _ _ _ _ _ _ _ (by exact rfl) (by exact T.g_range) (@z8_ _ _ _ _ _ _ (@w1_ _ _ _ _ _ _ _ _ _ _ _ (by exact(b3E rfl)) (by exact b4V) (by exact rfl) (by exact T.g_max) (by exact b5E) (@z8_ _ _ _ _ _ _ (@q4_ _ _ _ _ _) (@z8_ _ _ _ _ _ _ (@w1_ _ _ _ _ _ _ _ _ _ _ _ (by exact(b3F rfl)) (by exact b4W) (by exact rfl) (by exact T.g_min) (by exact a4U) (@z8_ _ _ _ _ _ _ (@w1_ _ _ _ _ _ _ _ _ _ _ _ (by exact a1F) (by exact a1J) (by exact rfl) (by exact T.g_len) (by exact Ye) (@z8_ _ _ _ _ _ _ (@z3_ _ _ _ _ _ (pv 0)) (@q1_ _ _) (by exact z1_ rfl)) (by decide) (by decide) (by exact z1_ rfl) (by exact q5_ rfl)) (@z8_ _ _ _ _ _ _ (@q4_ _ _ _ _ _) (@q1_ _ _) (by exact z1_ rfl)) (by exact z1_ rfl)) (by decide) (by decide) (by exact z1_ rfl) (by exact q5_ rfl)) (@q1_ _ _) (by exact z1_ rfl)) (by exact z1_ rfl)) (by decide) (by decide) (by exact z1_ rfl) (by exact q5_ rfl)) (@q1_ _ _) (by exact z1_ rfl)) (by exact se1 rfl)) (@x0_ _ _ _ _ 1 _ (by exact(show 0≤1 by decide)) (by exact a0n.nd) (by exact rfl) (by first|exact Or.inl rfl|exact Or.inr rfl) (by first|exact .inl rfl|exact .inr rfl|assumption)) (@v0_ _ _ _ _ _ _ (@a6k _ _ _ _ _ 2 _ _ (by exact a0n.nd) (by exact rfl) (by first|exact Or.inl rfl|exact Or.inr rfl) (@a0O _ _ _ _ _ _ _ _ _ _ _ (by exact d__law_state) (by exact(hr.mono (show 2≤19 by decide))) (by exact rfl) (@q9_ _ _ _ _ _ _ (@z3_ _ _ _ _ _ (pv 0)) (@q9_ _ _ _ _ _ _ (@z3_ _ _ _ _ _ (pv 1)) (@y5_ _ _) (by exact z1_ rfl)) (by exact z1_ rfl)) (by decide) (by exact z1_ rfl) (by exact q5_ rfl)) (by rfl) (by first|exact .inl rfl|exact .inr rfl|assumption)) (@v0_ _ _ _ _ _ _ (@x9_ _ _ _ _ _ 3 _ _ (by exact a0n.nd) (by exact rfl) (by first|exact Or.inl rfl|exact Or.inr rfl) (@v9_ _ _ _ _ _ _ _ _ _ _ (by exact g1_) (by exact g2_) (@q4_ _ _ _ _ _) (@k2_ _ _ _ _ _ _ _ _ _ _ _ (by exact d__law_take) (by exact(hr.mono (show 1≤19 by decide))) (by exact rfl) (@a1o _ _ _ _ _ _ _ (pv 2) (@q9_ _ _ _ _ _ _ (@q4_ _ _ _ _ _) (@y5_ _ _) (by exact z1_ rfl)) (by exact z1_ rfl)) (by decide) (by exact z1_ rfl) (by exact q5_ rfl))) (by rfl) (by first|exact .inl rfl|exact .inr rfl|assumption)) (@v0_ _ _ _ _ _ _ (@x9_ _ _ _ _ _ 4 _ _ (by exact a0n.nd) (by exact rfl) (by first|exact Or.inl rfl|exact Or.inr rfl) (@k2_ _ _ _ _ _ _ _ _ _ _ _ (by exact d__law_counts) (by exact(hr.mono (show 2≤19 by decide))) (by exact rfl) (@q9_ _ _ _ _ _ _ (@z3_ _ _ _ _ _ (pv 3)) (@y5_ _ _) (by exact z1_ rfl)) (by decide) (by exact z1_ rfl) (by exact q5_ rfl)) (by rfl) (by first|exact .inl rfl|exact .inr rfl|assumption)) (@v0_ _ _ _ _ _ _ (@x9_ _ _ _ _ _ 5 _ _ (by exact a0n.nd) (by exact rfl) (by first|exact Or.inl rfl|exact Or.inr rfl) (@k2_ _ _ _ _ _ _ _ _ _ _ _ (by exact d__law_table) (by exact(hr.mono (show 2≤19 by decide))) (by exact rfl) (@a1o _ _ _ _ _ _ _ (pv 2) (@q9_ _ _ _ _ _ _ (@z3_ _ _ _ _ _ (pv 3)) (@y5_ _ _) (by exact z1_ rfl)) (by exact z1_ rfl)) (by decide) (by exact z1_ rfl) (by exact q5_ rfl)) (by rfl) (by first|exact .inl rfl|exact .inr rfl|assumption)) (@v4_ _ _ _ _ (@a0L _ _ _ _ _ _ _ _ _ (by exact Zf) (by exact rfl) (@w2_ _ _ _ _ _ (@x7_ _ _ _ _ (@a1b _ _ _ _ _ (@z8_ _ _ _ _ _ _ (@k2_ _ _ _ _ _ _ _ _ _ _ _ (by exact d__law_take) (by exact(hr.mono (show 1≤19 by decide))) (by exact rfl) (@a1o _ _ _ _ _ _ _ (pv 2) (@q9_ _ _ _ _ _ _ (@v9_ _ _ _ _ _ _ _ _ _ _ (by exact g1_) (by exact g2_) (@z3_ _ _ _ _ _ (pv 3)) (@q4_ _ _ _ _ _)) (@y5_ _ _) (by exact z1_ rfl)) (by exact z1_ rfl)) (by decide) (by exact z1_ rfl) (by exact q5_ rfl)) (@z8_ _ _ _ _ _ _ (@q4_ _ _ _ _ _) (@z8_ _ _ _ _ _ _ (@z3_ _ _ _ _ _ (pv 3)) (@z8_ _ _ _ _ _ _ (@v9_ _ _ _ _ _ _ _ _ _ _ (by exact a8u) (by exact a8Z) (@z3_ _ _ _ _ _ (pv 3)) (@q4_ _ _ _ _ _)) (@q1_ _ _) (by exact z1_ rfl)) (by exact z1_ rfl)) (by exact z1_ rfl)) (by exact z1_ rfl))))) (@x0_ _ _ _ _ 6 _ (by exact(show 0≤6 by decide)) (by exact a0n.nd) (by exact rfl) (by first|exact Or.inl rfl|exact Or.inr rfl) (by first|exact .inl rfl|exact .inr rfl|assumption)) (@v0_ _ _ _ _ _ _ (@x9_ _ _ _ _ _ 7 _ _ (by exact a0n.nd) (by exact rfl) (by first|exact Or.inl rfl|exact Or.inr rfl) (@v9_ _ _ _ _ _ _ _ _ _ _ (by exact a1M) (by exact a1N) (@y8_ _ _ _ _ _ _ (@z8_ _ _ _ _ _ _ (@q4_ _ _ _ _ _) (@q1_ _ _) (by exact z1_ rfl))) (@z3_ _ _ _ _ _ (pv 3))) (by rfl) (by first|exact .inl rfl|exact .inr rfl|assumption)) (@v0_ _ _ _ _ _ _ (@a0L _ _ _ _ _ _ _ _ _ (by exact Zf) (by exact rfl) (@w2_ _ _ _ _ _ (@a9E _ _ _ _ _ _ _ _ _ _ (@z3_ _ _ _ _ _ (pv 5)) (@a9C _ _) (@a9D _ _ _ _ (@z3_ _ _ _ _ _ (pv 6))))) (@x0_ _ _ _ _ 8 _ (by exact(show 0≤8 by decide)) (by exact a0n.nd) (by exact rfl) (by first|exact Or.inl rfl|exact Or.inr rfl) (by first|exact .inl rfl|exact .inr rfl|assumption)) (@v4_ _ _ _ _ (@x9_ _ _ _ _ _ 7 _ _ (by exact a0n.nd) (by exact rfl) (by first|exact Or.inl rfl|exact Or.inr rfl) (@k2_ _ _ _ _ _ _ _ _ _ _ _ (by exact d__law_held) (by exact(hr.mono (show 1≤19 by decide))) (by exact rfl) (@q9_ _ _ _ _ _ _ (@z3_ _ _ _ _ _ (pv 7)) (@q9_ _ _ _ _ _ _ (@z3_ _ _ _ _ _ (pv 8)) (@y5_ _ _) (by exact z1_ rfl)) (by exact z1_ rfl)) (by decide) (by exact z1_ rfl) (by exact q5_ rfl)) (by rfl) (by first|exact .inl rfl|exact .inr rfl|assumption))) (by intro _;rfl)) (@v0_ _ _ _ _ _ _ (@x9_ _ _ _ _ _ 9 _ _ (by exact a0n.nd) (by exact rfl) (by first|exact Or.inl rfl|exact Or.inr rfl) (@x7_ _ _ _ _ (@a1b _ _ _ _ _ (@q1_ _ _))) (by rfl) (by first|exact .inl rfl|exact .inr rfl|assumption)) (@v0_ _ _ _ _ _ _ (@j3_ _ _ _ _ _ _ _ _ _ (@k5_ _ _ _ _ _ _ _ _ _ _ (by exact(b6H hr.units)) (by exact b6I) (@z3_ _ _ _ _ _ (pv 6)) (@z3_ _ _ _ _ _ (pv 3)) (by exact(nomark _))) (@v4_ _ _ _ _ (@b0z _ _ ["-0","-1","-2","-3","_law_ways","-5","-6","_law_held_here","-8","-9","-10","-11","_law_row"] _ [false,false,false,false,true,false,false,true,false,false,false,false] 1 _ _ _ _ _ _ _ _ _ 9 _ _ _ (by exact(g3_ rfl rfl)) (by exact rfl) (by exact a0n.nd) (by exact rfl) (by exact rfl) (by exact rfl) (@w2_ _ _ _ _ _ (@x7_ _ _ _ _ (@a0O _ _ _ _ _ _ _ _ _ _ _ (by exact d__law_rows) (by exact(hr.mono (show 1≤19 by decide))) (by exact rfl) (@q9_ _ _ _ _ _ _ (@z3_ _ _ _ _ _ (pv 7)) (@y5_ _ _) (by exact z1_ rfl)) (by decide) (by exact z1_ rfl) (by exact q5_ rfl)))) (fun s H fp=>(@x0_ _ _ _ _ 12 _ (by exact(show 12≤12 by decide)) (by exact b7V) (by exact rfl) (by first|exact Or.inl rfl|exact Or.inr rfl) (by first|exact .inl rfl|exact .inr rfl|assumption))) (fun s H fp=>(@a0h _ _)) (fun s H fp=>(@y8_ _ _ _ _ _ _ (@z8_ _ _ _ _ _ _ (@z3_ _ _ _ _ _ (pv 12)) (@z8_ _ _ _ _ _ _ (@k2_ _ _ _ _ _ _ _ _ _ _ _ (by exact d__law_cut) (by exact(hr.mono (show 1≤19 by decide))) (by exact rfl) (@q9_ _ _ _ _ _ _ (@b0n _ _ _ _ _ _ _ (by exact hr.units) (@z3_ _ _ _ _ _ (pv 4)) (@k2_ _ _ _ _ _ _ _ _ _ _ _ (by exact d__law_held) (by exact(hr.mono (show 1≤19 by decide))) (by exact rfl) (@q9_ _ _ _ _ _ _ (@z3_ _ _ _ _ _ (pv 7)) (@q9_ _ _ _ _ _ _ (@z3_ _ _ _ _ _ (pv 12)) (@y5_ _ _) (by exact z1_ rfl)) (by exact z1_ rfl)) (by decide) (by exact z1_ rfl) (by exact q5_ rfl)) (fun _ _=>rfl)) (@q9_ _ _ _ _ _ _ (@b0n _ _ _ _ _ _ _ (by exact hr.units) (@z3_ _ _ _ _ _ (pv 4)) (@z3_ _ _ _ _ _ (pv 7)) (fun _ _=>rfl)) (@y5_ _ _) (by exact z1_ rfl)) (by exact z1_ rfl)) (by decide) (by exact z1_ rfl) (by exact q5_ rfl)) (@q1_ _ _) (by exact z1_ rfl)) (by exact z1_ rfl)))) (by intro _;rfl))) (@j2_ _ _)) (@v4_ _ _ _ _ (@a0L _ _ _ _ _ _ _ _ _ (by exact Zf) (by exact rfl) (@a4K _ _ _ _ _ _ _ (by exact rfl) (by exact T.g_range) (@z8_ _ _ _ _ _ _ (@q4_ _ _ _ _ _) (@q1_ _ _) (by exact z1_ rfl)) (by exact se1 rfl)) (@x0_ _ _ _ _ 10 _ (by exact(show 0≤10 by decide)) (by exact a0n.nd) (by exact rfl) (by first|exact Or.inl rfl|exact Or.inr rfl) (by first|exact .inl rfl|exact .inr rfl|assumption)) (@v0_ _ _ _ _ _ _ (@a6k _ _ _ _ _ 11 _ _ (by exact a0n.nd) (by exact rfl) (by first|exact Or.inl rfl|exact Or.inr rfl) (@a0O _ _ _ _ _ _ _ _ _ _ _ (by exact d_next_rows) (by exact(hr.mono (show 19≤19 by decide))) (by exact rfl) (@q9_ _ _ _ _ _ _ (@z3_ _ _ _ _ _ (pv 3)) (@q9_ _ _ _ _ _ _ (@a9E _ _ _ _ _ _ _ _ _ _ (@z3_ _ _ _ _ _ (pv 5)) (@a9C _ _) (@a9D _ _ _ _ (@z3_ _ _ _ _ _ (pv 6)))) (@y5_ _ _) (by exact z1_ rfl)) (by exact z1_ rfl)) (by decide) (by exact z1_ rfl) (by exact q5_ rfl)) (by rfl) (by first|exact .inl rfl|exact .inr rfl|assumption)) (@v0_ _ _ _ _ _ _ (@j3_ _ _ _ _ _ _ _ _ _ (@a3A _ _ _ _ _ (@a2i _ _ _ _ (@b6z _ _ _ _ _ _ _ _ _ _ _ (by exact d__law_same) (by exact(hr.mono (show 7≤19 by decide))) (by exact rfl) (by exact(NamesAt.cons (pv 11) (NamesAt.cons (pv 9) NamesAt.nil))) (by decide) (by exact z1_ rfl) (by exact q5_ rfl)) (by intro _;rfl))) (@v4_ _ _ _ _ (@k1_ _ _ _ _ _ (@a1G _ _ _ _ _))) (@j2_ _ _)) (@v4_ _ _ _ _ (@a4H _ _ _ _ _ _ _ _ _ _ (pv 11) (@z8_ _ _ _ _ _ _ (@y8_ _ _ _ _ _ _ (@q1_ _ _)) (@q1_ _ _) (by exact z1_ rfl)) (by rfl) (by rfl) (by rfl) (by exact z1_ rfl) (by exact q5_ rfl) (by rfl))))) (by intro _;rfl))))))) (by intro _;rfl))))))) (by intro _;rfl)) (@v4_ _ _ _ _ (@k1_ _ _ _ _ _ (@a1G _ _ _ _ _)))))
end
def isW:D->Bool
 |.int _=>true
 |_=>false
theorem b7X(d:D):a1h [.dat d]=some (.d (.bl (isW d)),[.dat d]):=by cases d<;>rfl
def isR(d:D)(n:Int):Bool:=match d with
 |.tup es=>(es.length:Int)==n&&es.all isW
 |_=>false
theorem b7Y(d:D)(n:Int)(hn:n≤1000):a1A [.dat d,.dat (.int n)]=some (.d (.bl (isR d n)),[.dat d,.dat (.int n)]):=by
 cases d with
 |tup es=>
  by_cases h:(es.length:Int)=n
  ·have t:(a0f (u8_ (mT (mIs "tuple" (z0_ 0)))) (mT (z5_ (dEq true) (mCB k3_ (z2_ (z0_ 0) z4_)) (z0_ 1)))) [.dat (.tup es),.dat (.int n)]=some (false,[.dat (.tup es),.dat (.int n)]):=by
    show some (!((es.length:Int)==n),_)=_;rw[h];simp
   obtain⟨e',h1,w,rfl⟩:=a6J (g:=gN 2) (m:=mCD 1 a1h (z7_ (z0_ 2) q2_)) (P:=fun e=>∃w,e=[.nil,.nil,w]) (f:=fun d=>.bl (isW d)) (ds:=es) (env:=[.nil,.nil,.nil])
    (fun d _ e ⟨w,he⟩=>by
     subst he;refine⟨[.nil,.nil,.dat d],[.nil,.nil,.dat d],rfl,?_,_,rfl⟩;show((a1h [.dat d]).map fun q=>(q.1,_)).bind asD=_
     rw[b7X];rfl) ⟨.nil,rfl⟩
   have hl:es.length≤100000:=by omega
   have c:(y0_ (v6_ (z0_ 0)) [false,false] 1 (gN 2) y4_ (mCD 1 a1h (z7_ (z0_ 2) q2_))) [.dat (.tup es),.dat (.int n)]=some (es.map fun d=>.bl (isW d),[.dat (.tup es),.dat (.int n)]):=by
    show(if es.length≤100000 then(j1_ _ _ _ es [.nil,.nil,.nil]).bind _ else none)=_
    rw[Qc hl,h1];rfl
   unfold a1A fnM a7H;show(match q0_ _ _ [.dat (.tup es),.dat (.int n)]with|some (.ret d,env)=>_|some (.retL ds,env)=>_|some (.nx,env)=>_|_=>none)=_
   rw[g4_ (by rw[a3M t];rfl)]
   have r:(y9_ (mCB a2W (z2_ (mF (y0_ (v6_ (z0_ 0)) [false,false] 1 (gN 2) y4_ (mCD 1 a1h (z7_ (z0_ 2) q2_)))) z4_))) [.dat (.tup es),.dat (.int n)]=some (.ret (.bl (es.all isW)),[.dat (.tup es),.dat (.int n)]):=by
    unfold y9_ mCB z2_ mF;rw[c];show(((a0D (es.map fun d=>.bl (isW d))).map fun k=>D.bl k).map _).map _=_
    rw[a3N];rfl
   rw[r];show some (Rr.d (.bl (es.all isW)),_)=_
   simp[isR,h];rfl
  ·have t:(a0f (u8_ (mT (mIs "tuple" (z0_ 0)))) (mT (z5_ (dEq true) (mCB k3_ (z2_ (z0_ 0) z4_)) (z0_ 1)))) [.dat (.tup es),.dat (.int n)]=some (true,[.dat (.tup es),.dat (.int n)]):=by
    show some (!((es.length:Int)==n),_)=_
    simp[h]
   unfold a1A fnM a7H;show(match q0_ _ _ [.dat (.tup es),.dat (.int n)]with|some (.ret d,env)=>_|some (.retL ds,env)=>_|some (.nx,env)=>_|_=>none)=_
   rw[a1Q (d:=.bl false) (by rw[a3L t];rfl)]
   simp[isR,h];rfl
 |_=>rfl
def isG(d:D)(m n:Int):Bool:=match d with
 |.tup es=>(es.length:Int)==m&&es.all fun r=>isR r n
 |_=>false
theorem b7Z(d:D)(k n:Int)(hk:k≤1000)(hn:n≤1000):a5p [.dat d,.dat (.int k),.dat (.int n)]=some (.d (.bl (isG d k n)),[.dat d,.dat (.int k),.dat (.int n)]):=by
 cases d with
 |tup es=>
  by_cases h:(es.length:Int)=k
  ·have t:(a0f (u8_ (mT (mIs "tuple" (z0_ 0)))) (mT (z5_ (dEq true) (mCB k3_ (z2_ (z0_ 0) z4_)) (z0_ 1)))) [.dat (.tup es),.dat (.int k),.dat (.int n)]=some (false,[.dat (.tup es),.dat (.int k),.dat (.int n)]):=by
    show some (!((es.length:Int)==k),_)=_;rw[h];simp
   obtain⟨e',h1,w,rfl⟩:=a6J (g:=gN 3) (m:=mCD 2 a1A (z7_ (z0_ 3) (z7_ (z0_ 2) q2_))) (P:=fun e=>∃w,e=[.nil,.nil,.dat (.int n),w]) (f:=fun d=>.bl (isR d n)) (ds:=es) (env:=[.nil,.nil,.dat (.int n),.nil])
    (fun d _ e ⟨w,he⟩=>by
     subst he;refine⟨[.nil,.nil,.dat (.int n),.dat d],[.nil,.nil,.dat (.int n),.dat d],rfl,?_,_,rfl⟩;show((a1A [.dat d,.dat (.int n)]).map fun q=>(q.1,_)).bind asD=_
     rw[b7Y d n hn];rfl) ⟨.nil,rfl⟩
   have hl:es.length≤100000:=by omega
   have c:(y0_ (v6_ (z0_ 0)) [false,false,true] 1 (gN 3) y4_ (mCD 2 a1A (z7_ (z0_ 3) (z7_ (z0_ 2) q2_)))) [.dat (.tup es),.dat (.int k),.dat (.int n)]=some (es.map fun d=>.bl (isR d n),[.dat (.tup es),.dat (.int k),.dat (.int n)]):=by
    show(if es.length≤100000 then(j1_ _ _ _ es [.nil,.nil,.dat (.int n),.nil]).bind _ else none)=_
    rw[Qc hl,h1];rfl
   refine(j4_ (d:=.bl (isG (.tup es) k n)) (env:=[.dat (.tup es),.dat (.int k),.dat (.int n)]) ?_).trans rfl;show a4d [.dat (.tup es),.dat (.int k),.dat (.int n)]=_;unfold a4d;rw[g4_ (by rw[a3M t];rfl)]
   unfold y9_ mCB z2_ mF;rw[c];show(((a0D (es.map fun d=>.bl (isR d n))).map fun k=>D.bl k).map _).map _=_
   rw[a3N]
   simp[isG,h]
  ·have t:(a0f (u8_ (mT (mIs "tuple" (z0_ 0)))) (mT (z5_ (dEq true) (mCB k3_ (z2_ (z0_ 0) z4_)) (z0_ 1)))) [.dat (.tup es),.dat (.int k),.dat (.int n)]=some (true,[.dat (.tup es),.dat (.int k),.dat (.int n)]):=by
    show some (!((es.length:Int)==k),_)=_
    simp[h]
   refine(j4_ (d:=.bl (isG (.tup es) k n)) (env:=[.dat (.tup es),.dat (.int k),.dat (.int n)]) ?_).trans rfl;show a4d [.dat (.tup es),.dat (.int k),.dat (.int n)]=_;unfold a4d;rw[a1Q (d:=.bl false) (by rw[a3L t];rfl)]
   simp[isG,h]
 |_=>rfl
def isS(d:D)(a b:Int):Bool:=match d with
 |.tup es=>(decide (a≤(es.length:Int))&&decide ((es.length:Int)≤b))&&es.all fun r=>isR r es.length
 |_=>false
def dR(l:List Int):D:=.tup (l.map .int)
def dT(R:OI):D:=.tup (R.map dR)
def unI:D->Int
 |.int i=>i
 |_=>0
def unR:D->List Int
 |.tup es=>es.map unI
 |.lst es=>es.map unI
 |_=>[]
def unT:D->OI
 |.tup es=>es.map unR
 |_=>[]
theorem b8a{d:D}(h:isW d=true):d=.int (unI d):=by cases d<;>first|rfl|cases h
theorem b8b{es:List D}(h:es.all isW=true):es=(es.map unI).map .int:=by
 induction es with
 |nil=>rfl
 |cons d es ih=>
  rw[Xq,Qw]at h;rw[Qh,Qh,←b8a h.1,←ih h.2]
theorem a7U{d:D}{n:Int}(h:isR d n=true):d=dR (unR d)/\((unR d).length:Int)=n:=by
 cases d<;>first|cases h|skip
 rename_i es;simp only[isR,Qw,Xp]at h;refine⟨?_,by simp[unR,h.1]⟩
 show D.tup es=.tup ((es.map unI).map .int);rw[←b8b h.2]
theorem b8c{d:D}{a b:Int}(h:isS d a b=true):d=dT (unT d)/\a≤((unT d).length:Int)/\((unT d).length:Int)≤b/\∀r∈unT d,r.length=(unT d).length:=by
 cases d<;>first|cases h|skip
 rename_i es;simp only[isS,Qw,Zy,Qy]at h;refine⟨?_,by simpa [unT]using h.1.1,by simpa [unT]using h.1.2,fun r hr=>?_⟩
 ·show D.tup es=.tup ((es.map unR).map dR)
  congr 1
  rw[Yz]
  conv=>lhs;rw[←Xn es]
  exact Yp fun x hx=>(a7U (h.2 x hx)).1
 ·obtain⟨x,hx,rfl⟩:=Qe.mp hr
  have:=(a7U (h.2 x hx)).2;simp only[unT,Qk]
  omega
theorem b8d(l:List Int):(l.map D.int).map unI=l:=by rw[Yz];exact Xn l
theorem b8e(l:List Int):unR (dR l)=l:=b8d l
theorem a7V(R:OI):unT (dT R)=R:=by
 show(R.map dR).map unR=R;rw[Yz]
 conv=>rhs;rw[←Xn R]
 exact Yp fun r _=>b8e r
theorem b0Y(l:List Int):isR (dR l) l.length=true:=by
 simp[isR,dR,isW]
theorem b0Z{R:OI}{a b:Int}(h1:a≤R.length)(h2:(R.length:Int)≤b)(h:∀r∈R,r.length=R.length):isS (dT R) a b=true:=by
 simp only[isS,dT,Qk,Qw,Zy,Qy];refine⟨⟨h1,h2⟩,fun x hx=>?_⟩
 obtain⟨r,hr,rfl⟩:=Qe.mp hx;have:=b0Y r;rw[h r hr]at this;exact this
theorem b1a{α:Type}{xs:List α}{j:Nat}{x:α}(h:xs[j]? =some x):atI xs (j:Int)=some x:=by
 have hj:j<xs.length:=(Qg.mp h).1
 unfold atI ixN;rw[Qc (by omega),Qc (by omega)]
 simpa using h
theorem b1b(n:Nat):a0B 0 n=(List.range n).map fun(i:Nat)=>D.int i:=by
 unfold a0B;exact Yp fun i _=>by simp
theorem b8f{α:Type}{g:OZ}{m:Mo D}{P:Env'->Prop}{q:α->D}{f:α->D}{l:List α}{env:Env'}(h:∀a∈l,∀e,P e->∃e1 e2,g (q a) e=some e1/\m e1=some (f a,e2)/\P e2)(p:P env):
  ∃env',j1_ g y4_ m (l.map q) env=some (l.map f,env')/\P env':=by
 induction l generalizing env with
 |nil=>exact⟨env,rfl,p⟩
 |cons a l ih=>
  obtain⟨e1,e2,h1,h2,h3⟩:=h a (by simp) env p
  obtain⟨e3,h4,h5⟩:=ih (fun x hx=>h x (by simp[hx])) h3
  refine⟨e3,?_,h5⟩;rw[Qh,Qh];unfold j1_;rw[h1];simp only[Qj,y4_,Zh];rw[h2];simp only[Qj];rw[h4];rfl
def flip(n:Nat)(R:OI):OI:=(List.range n).map fun j=>R.map fun r=>r.getD j 0
def tt:Int->List Int->Bool
 |s,[]=>s==1
 |s,x::l=>(s+x==0||s+x==1)&&tt (s+x) l
def isT(d:D):Bool:=isS d 1 6&&(unT d++flip (unT d).length (unT d)).all (tt 0)
theorem a4l{i j:Int}(h:a2h i j=true):w4_ (.int i) (.int j)=some (.int (i * j)):=by
 unfold w4_ fOr a6a fI;simp only[h,Zh]
theorem a5y{i j:Int}(h1: -18446744073709551616<i)(h2:i<18446744073709551616):a2h i j=true:=by
 unfold a2h;rw[show((2:Int)^64)=18446744073709551616 from rfl]
 simp[h1,h2]
theorem b8g{i j:Int}(h1: -18446744073709551616<j)(h2:j<18446744073709551616):a2h i j=true:=by
 unfold a2h;rw[show((2:Int)^64)=18446744073709551616 from rfl]
 simp[h1,h2]
theorem a3q:∀l:List Int,x5_ (l.map D.int)=l.map PyData.int
 |[]=>rfl
 |x::l=>by show PyData.int x::x5_ (l.map D.int)=_;rw[a3q l];rfl
theorem a2u:∀l:List Int,PyData.canLayAll0 (l.map PyData.int)=true
 |[]=>rfl
 |x::l=>by show(true&&PyData.canLayAll0 (l.map PyData.int))=true;rw[a2u l];rfl
theorem a7W:∀l:List Int,PyData.depthAll (l.map PyData.int)=0
 |[]=>rfl
 |x::l=>by show max 0 (PyData.depthAll (l.map PyData.int))=0;rw[a7W l];rfl
theorem b1c:∀l k:List Int,PyData.eqvAll (l.map PyData.int) (k.map PyData.int)=decide (l=k)
 |[],[]=>rfl
 |[],_::_=>rfl
 |_::_,[]=>rfl
 |x::l,y::k=>by
  show((x==y)&&PyData.eqvAll (l.map PyData.int) (k.map PyData.int))=_;rw[b1c l k]
  by_cases h:x=y
  ·subst h;simp
  ·simp[h]
theorem b8h{i j k:Int}(h:a4B i j=true)(e:i^j.toNat=k):a1H (.int i) (.int j)=some (.int k):=by
 show(if a4B i j=true then some (D.int (i^j.toNat))else none)=_
 rw[Qc h,e]
theorem b1d:a1H (.int 10) (.int 18)=some (.int 1000000000000000000):=b8h (by decide+kernel) (by decide+kernel)
theorem a7X{a m:Int}{b:Bool}(ha:0≤a)(h1:1≤m)(h2:m<1073741824):∃v a',a0c [.par [.int a,.bl b],.dat (.int m)]=some (.d (.int v),[.par [.int a',.bl b],.dat (.int m)])/\0≤v/\v<m/\0≤a':=by
 have dm:∀x:Int,u0_ (.int x) (.int m)=some (.int (x%m)):=fun x=>by
  show(if decide (0<m)=true then _ else none)=_
  rw[Qc (by simp;omega)]
 have dd:∀x:Int,a3z (.int x) (.int m)=some (.int (x/m)):=fun x=>by
  show(if a4A x m=true then _ else none)=_
  rw[Qc (by unfold a4A;simp;omega)]
 cases b with
 |true=>
  refine⟨a%m,a/m,?_,Jo _ (by omega),Ui _ (by omega),Int.ediv_nonneg ha (by omega)⟩
  refine(j4_ (d:=.int (a%m)) (env:=[.par [.int (a/m),.bl true],.dat (.int m),.nil,.dat (.int (a%m))]) ?_).trans rfl;show a4i [.par [.int a,.bl true],.dat (.int m),.nil,.nil]=_;unfold a4i;have t:(mT (u1_ 0 (mC (.int 1)))) [.par [.int a,.bl true],.dat (.int m),.nil,.nil]=some (true,[.par [.int a,.bl true],.dat (.int m),.nil,.nil]):=rfl;have s1:(v1_ 3 (z5_ u0_ (u1_ 0 (mC (.int 0))) (z0_ 1))) [.par [.int a,.bl true],.dat (.int m),.nil,.nil]=some (.nx,[.par [.int a,.bl true],.dat (.int m),.nil,.dat (.int (a%m))]):=a0F (e1:=[.par [.int a,.bl true],.dat (.int m),.nil,.nil]) (v7_ rfl rfl (dm a));have s2:(j8_ (z5_ a3z (u1_ 0 (mC (.int 0))) (z0_ 1)) (gS 0 (mC (.int 0)))) [.par [.int a,.bl true],.dat (.int m),.nil,.dat (.int (a%m))]=some (.nx,[.par [.int (a/m),.bl true],.dat (.int m),.nil,.dat (.int (a%m))]):=by
   unfold j8_;rw[v7_ (c:=.int (a/m)) rfl rfl (dd a)];rfl
  rw[a1Q (d:=.int (a%m)) (by rw[a3L t,g4_ s1,g4_ s2];rfl)]
 |false=>
  have e1:∀x:Int,w4_ (.int x) (.int 48271)=some (.int (x * 48271)):=fun x=>a4l (b8g (by decide) (by decide))
  have md:∀(x k:Int),0<k->u0_ (.int x) (.int k)=some (.int (x%k)):=fun x k hk=>by
   show(if decide (0<k)=true then _ else none)=_
   rw[Qc (by simp;omega)]
  let p:Int:=(a * 48271+29)%2147483647
  have hp:0≤p/\p<2147483647:=⟨Jo _ (by decide),Ui _ (by decide)⟩
  let q:Int:=(p * p+39373 * p+7)%2147483629
  have hq:0≤q/\q<2147483629:=⟨Jo _ (by decide),Ui _ (by decide)⟩
  let r:Int:=(q * q+16807 * q)%2147483587
  have hr:0≤r:=Jo _ (by decide)
  refine⟨r/8%m,p,?_,Jo _ (by omega),Ui _ (by omega),hp.1⟩
  refine(j4_ (d:=.int (r/8%m)) (env:=[.par [.int p,.bl false],.dat (.int m),.dat (.int r),.nil]) ?_).trans rfl;show a4i [.par [.int a,.bl false],.dat (.int m),.nil,.nil]=_;unfold a4i;have t:(mT (u1_ 0 (mC (.int 1)))) [.par [.int a,.bl false],.dat (.int m),.nil,.nil]=some (false,[.par [.int a,.bl false],.dat (.int m),.nil,.nil]):=rfl;have s1:(j8_ (z5_ u0_ (z5_ x2_ (z5_ w4_ (u1_ 0 (mC (.int 0))) (mC (.int 48271))) (mC (.int 29))) (mC (.int 2147483647))) (gS 0 (mC (.int 0)))) [.par [.int a,.bl false],.dat (.int m),.nil,.nil]=some (.nx,[.par [.int p,.bl false],.dat (.int m),.nil,.nil]):=by
   unfold j8_;rw[v7_ (c:=.int p) (v7_ (c:=.int (a * 48271+29)) (v7_ rfl rfl (e1 a)) rfl rfl) rfl (md _ _ (by decide))];rfl
  have s2:(v1_ 2 (z5_ u0_ (z5_ x2_ (z5_ x2_ (z5_ w4_ (u1_ 0 (mC (.int 0))) (u1_ 0 (mC (.int 0)))) (z5_ w4_ (mC (.int 39373)) (u1_ 0 (mC (.int 0))))) (mC (.int 7))) (mC (.int 2147483629)))) [.par [.int p,.bl false],.dat (.int m),.nil,.nil]=some (.nx,[.par [.int p,.bl false],.dat (.int m),.dat (.int q),.nil]):=
   a0F (e1:=[.par [.int p,.bl false],.dat (.int m),.nil,.nil]) (v7_ (c:=.int q) (v7_ (c:=.int (p * p+39373 * p+7)) (v7_ (c:=.int (p * p+39373 * p)) (v7_ rfl rfl (a4l (i:=p) (j:=p) (a5y (by omega) (by omega)))) (v7_ rfl rfl (a4l (i:=39373) (j:=p) (a5y (by decide) (by decide)))) rfl) rfl rfl) rfl (md _ _ (by decide)))
  have s3:(v1_ 2 (z5_ u0_ (z5_ x2_ (z5_ w4_ (z0_ 2) (z0_ 2)) (z5_ w4_ (mC (.int 16807)) (z0_ 2))) (mC (.int 2147483587)))) [.par [.int p,.bl false],.dat (.int m),.dat (.int q),.nil]=some (.nx,[.par [.int p,.bl false],.dat (.int m),.dat (.int r),.nil]):=
   a0F (e1:=[.par [.int p,.bl false],.dat (.int m),.dat (.int q),.nil]) (v7_ (c:=.int r) (v7_ (c:=.int (q * q+16807 * q)) (v7_ rfl rfl (a4l (i:=q) (j:=q) (a5y (by omega) (by omega)))) (v7_ rfl rfl (a4l (i:=16807) (j:=q) (a5y (by decide) (by decide)))) rfl) rfl (md _ _ (by decide)))
  rw[g4_ (by rw[a3M t];rfl),g4_ s1,g4_ s2,g4_ s3]
  exact a0i (v7_ (c:=.int (r/8%m)) (v7_ (c:=.int (r/8)) rfl rfl rfl) rfl (dm _))
theorem b8i(ns:List Int)(k:Nat)(hk:k<1000):∃c,a4f [.dat (.lst (ns.map .int)),.dat (.int k)]=some (.d (.int c),[.dat (.lst (ns.map .int)),.dat (.int k)]):=by
 have t:(mT (z5_ dLt (z0_ 1) (mCB k3_ (z2_ (z0_ 0) z4_)))) [.dat (.lst (ns.map .int)),.dat (.int k)]=some (decide ((k:Int)<(ns.length:Int)),[.dat (.lst (ns.map .int)),.dat (.int k)]):=by
  show some (decide ((k:Int)<((ns.map D.int).length:Nat)),_)=_;rw[Qk]
 by_cases h:k<ns.length
 ·have hd:decide ((k:Int)<(ns.length:Int))=true:=by simp;omega
  rw[hd]at t;refine⟨ns[k],(j4_ (d:=.int ns[k]) (env:=[.dat (.lst (ns.map .int)),.dat (.int k)]) ?_).trans rfl⟩;show a4e [.dat (.lst (ns.map .int)),.dat (.int k)]=_;unfold a4e;rw[a1Q (d:=.int ns[k]) (by
   rw[a3L t];exact a0i (v7_ rfl rfl (show atI (ns.map D.int) (k:Int)=_ from b1a (by simp[h]))))]
 ·have hd:decide ((k:Int)<(ns.length:Int))=false:=by simp;omega
  rw[hd]at t;refine⟨0,(j4_ (d:=.int 0) (env:=[.dat (.lst (ns.map .int)),.dat (.int k)]) ?_).trans rfl⟩;show a4e [.dat (.lst (ns.map .int)),.dat (.int k)]=_;unfold a4e;rw[g4_ (by rw[a3M t];rfl)];rfl
theorem b8j(ns:List Int)(k:Nat)(hk:k<1000):∃a b,0≤a/\a4h [.dat (.lst (ns.map .int)),.dat (.int k)]=some (.l [.int a,.bl b],[.dat (.lst (ns.map .int)),.dat (.int k)]):=by
 obtain⟨c,hc⟩:=b8i ns k hk;have s1:(v1_ 2 (mCD 2 a4f (z7_ (z0_ 0) (z7_ (z0_ 1) q2_)))) [.dat (.lst (ns.map .int)),.dat (.int k),.nil]=some (.nx,[.dat (.lst (ns.map .int)),.dat (.int k),.dat (.int c)]):=
  a0F (e1:=[.dat (.lst (ns.map .int)),.dat (.int k),.nil]) (a0P (a0k (av:=[.d (.lst (ns.map .int)),.d (.int k)]) rfl rfl rfl hc))
 have t:(mT (z5_ dGe (z0_ 2) (z5_ a1H (mC (.int 10)) (mC (.int 18))))) [.dat (.lst (ns.map .int)),.dat (.int k),.dat (.int c)]=some (decide (1000000000000000000≤c),[.dat (.lst (ns.map .int)),.dat (.int k),.dat (.int c)]):=by
  refine a0j (v7_ (b:=.int 1000000000000000000) rfl ?_ rfl);exact v7_ rfl rfl b1d
 by_cases h:1000000000000000000≤c
 ·rw[Zs h]at t
  refine⟨c-1000000000000000000,true,by omega,(a4V (d:=[.int (c-1000000000000000000),.bl true]) (env:=[.dat (.lst (ns.map .int)),.dat (.int k),.dat (.int c)]) ?_).trans rfl⟩
  show a4g [.dat (.lst (ns.map .int)),.dat (.int k),.nil]=_;unfold a4g;rw[g4_ s1];have r:(a1c (w9_ (z2_ (z5_ a2M (z0_ 2) (z5_ a1H (mC (.int 10)) (mC (.int 18)))) (z2_ (mC (.bl true)) z4_)))) [.dat (.lst (ns.map .int)),.dat (.int k),.dat (.int c)]=some (.retL [.int (c-1000000000000000000),.bl true],[.dat (.lst (ns.map .int)),.dat (.int k),.dat (.int c)]):=by
   have b:=v7_ (f:=a2M) (ma:=z0_ 2) (mb:=z5_ a1H (mC (.int 10)) (mC (.int 18))) (env:=[.dat (.lst (ns.map .int)),.dat (.int k),.dat (.int c)]) (b:=.int 1000000000000000000) (c:=.int (c-1000000000000000000)) rfl (v7_ rfl rfl b1d) rfl
   refine a6K ?_
   unfold w9_;rw[x3_ b (x3_ rfl rfl)];rfl
  unfold q0_;rw[a3L t,r];rfl
 ·rw[Qr h]at t
  refine⟨c%2147483647,false,Jo _ (by decide),(a4V (d:=[.int (c%2147483647),.bl false]) (env:=[.dat (.lst (ns.map .int)),.dat (.int k),.dat (.int c)]) ?_).trans rfl⟩
  show a4g [.dat (.lst (ns.map .int)),.dat (.int k),.nil]=_;unfold a4g;rw[g4_ s1,g4_ (by rw[a3M t];rfl)];rfl
def bits:Nat->OI
 |0=>[[]]
 |n+1=>(bits n).map (fun l=>0::l)++(bits n).map (fun l=>1::l)
def v8_(h r:List Int):List Int:=List.zipWith (· + ·) h r
def b1e(h:List Int)(d:D):Bool:=isR d h.length&&(tt 0 (unR d)&&(v8_ h (unR d)).all fun x=>x==0||x==1)
def chk(h:List Int):Bool:=match u5_ [.dat (dR h)]with
 |some (.l ds,_)=>ds.all (b1e h)&&((h.all fun x=>x==1)||(decide (1≤ds.length)&&decide (ds.length≤1000)))
 |_=>false
theorem b8k:(bits 1).all chk=true:=by decide+kernel
theorem b8l:(bits 2).all chk=true:=by decide+kernel
theorem b8m:(bits 3).all chk=true:=by decide+kernel
theorem b8n:(bits 4).all chk=true:=by decide+kernel
theorem b8o:(bits 5).all chk=true:=by decide+kernel
theorem b8p:(bits 6).all chk=true:=by decide+kernel
structure HB(h:List Int)(n:Nat):Prop where
 len:h.length=n
 bit:∀x∈h,x=0∨x=1
theorem HB.mem:∀{n:Nat}{h:List Int},HB h n->h∈bits n
 |0,h,H=>by
  have:=H.len;cases h with
  |nil=>simp[bits]
  |cons _ _=>simp at this
 |n+1,h,H=>by
  cases h with
  |nil=>have:=H.len;simp at this
  |cons x l=>
   have hl:HB l n:=⟨by have:=H.len;simpa using this,fun y hy=>H.bit y (by simp[hy])⟩
   have:=hl.mem;unfold bits;rw[Yy,Qe,Qe]
   rcases H.bit x (by simp)with rfl|rfl
   ·exact .inl ⟨l,this,rfl⟩
   ·exact .inr ⟨l,this,rfl⟩
theorem b8q{n:Nat}{h:List Int}(h1:1≤n)(h6:n≤6)(H:HB h n):chk h=true:=by
 have hm:=H.mem
 match n,h1,h6 with
 |1,_,_=>exact Qy.mp b8k h hm
 |2,_,_=>exact Qy.mp b8l h hm
 |3,_,_=>exact Qy.mp b8m h hm
 |4,_,_=>exact Qy.mp b8n h hm
 |5,_,_=>exact Qy.mp b8o h hm
 |6,_,_=>exact Qy.mp b8p h hm
structure LineOk(h r:List Int):Prop where
 len:r.length=h.length
 tt:tt 0 r=true
 bit:∀x∈v8_ h r,x=0∨x=1
theorem b8r{n:Nat}{h:List Int}(h1:1≤n)(h6:n≤6)(H:HB h n)(hs:∃x∈h,x≠1):∃(rows:OI) (ws':List W),u5_ [.dat (dR h)]=some (.l (rows.map dR),ws')/\1≤rows.length/\rows.length≤1000/\∀r∈rows,LineOk h r:=by
 have hc:=b8q h1 h6 H
 unfold chk at hc;split at hc
 ·rename_i ds ws' e
  rw[Qw]at hc;have hl:1≤ds.length/\ds.length≤1000:=by
   have h2:=hc.2
   rw[Vd]at h2
   rcases h2 with h2|h2
   ·obtain⟨x,hx,hne⟩:=hs
    have:=Qy.mp h2 x hx
    simp at this
    exact absurd this hne
   ·rw[Qw,Zy,Zy]at h2
    exact h2
  have ok:∀d∈ds,d=dR (unR d)/\LineOk h (unR d):=fun d hd=>by
   have:=Qy.mp hc.1 d hd;unfold b1e at this;rw[Qw,Qw]at this;obtain⟨a1,a2⟩:=a7U this.1;exact⟨a1,by omega,this.2.1,fun x hx=>by simpa using Qy.mp this.2.2 x hx⟩
  refine⟨ds.map unR,ws',?_,by rw[Qk];exact hl.1,by rw[Qk];exact hl.2,fun r hr=>?_⟩
  ·rw[e,Yz]
   have:ds.map (dR∘unR)=ds:=by
    conv=>rhs;rw[←Xn ds]
    exact Yp fun d hd=>(ok d hd).1.symm
   rw[this]
  ·obtain⟨d,hd,rfl⟩:=Qe.mp hr
   exact(ok d hd).2
 ·cases hc
theorem b1f(l:List Int):∀s,tt s l=true->s+l.sum=1:=by
 induction l with
 |nil=>intro s h;simpa [tt]using h
 |cons x l ih=>
  intro s h;simp only[tt,Qw]at h;have:=ih (s+x) h.2;simp only[Jc]
  omega
theorem a7Y{h r:List Int}(e:r.length=h.length):(v8_ h r).length=h.length:=by simp[v8_,e]
theorem a7Z:∀{h r:List Int},r.length=h.length->(v8_ h r).sum=h.sum+r.sum
 |[],[],_=>rfl
 |x::h,y::r,e=>by
  have:=a7Z (h:=h) (r:=r) (by simpa using e)
  simp only[v8_,Ux,Jc]at this ⊢
  omega
 |[],_::_,e=>by simp at e
 |_::_,[],e=>by simp at e
def run:Int->List Int->Option Int
 |s,[]=>some s
 |s,x::l=>if s+x=0∨s+x=1 then run (s+x) l else none
theorem b8s(l:List Int):∀s,tt s l=(run s l==some 1):=by
 induction l with
 |nil=>intro s;rfl
 |cons x l ih=>
  intro s;simp only[tt,run]
  by_cases h:s+x=0∨s+x=1
  ·rw[Qc h,←ih]
   have:(s+x==0||s+x==1)=true:=by simpa using h
   rw[this,Bool.true_and]
  ·rw[Qs h]
   have:(s+x==0||s+x==1)=false:=by simpa using h
   rw[this];rfl
theorem b8t(l:List Int)(x:Int):∀s t,run s l=some t->(t+x=0∨t+x=1)->run s (l++[x])=some (t+x):=by
 induction l with
 |nil=>intro s t h hx;cases h;simp[run,hx]
 |cons y l ih=>
  intro s t h hx;simp only[run,List.cons_append]at h ⊢;split at h
  ·rename_i hy
   rw[Qc hy];exact ih (s+y) t h hx
  ·cases h
theorem b1g:∀{h:List Int},(∀x∈h,x=0∨x=1)->h.sum≤h.length/\(h.sum=h.length->∀x∈h,x=1)
 |[],_=>⟨by simp,fun _ x hx=>by cases hx⟩
 |y::h,H=>by
  obtain⟨h1,h2⟩:=b1g (h:=h) fun x hx=>H x (by simp[hx])
  have hy:=H y (by simp)
  simp only[Jc,Zp];refine⟨by omega,fun e x hx=>?_⟩
  rcases Qn.mp hx with rfl|hx
  ·omega
  ·exact h2 (by omega) x hx
theorem b1h{g:OZ}{b:Mo Fl}:∀{ds:List D}{P:Nat->Env'->Prop}{env:Env'},(∀i d e,ds[i]? =some d->P i e->∃e1 e2,g d e=some e1/\b e1=some (.nx,e2)/\P (i+1) e2)->P 0 env->∃env',loop g b ds env=some (.nx,env')/\P ds.length env'
 |[],P,env,_,p=>⟨env,rfl,p⟩
 |d::ds,P,env,h,p=>by
  obtain⟨e1,e2,h1,h2,h3⟩:=h 0 d env rfl p;obtain⟨e3,h4,h5⟩:=b1h (ds:=ds) (P:=fun i e=>P (i+1) e) (fun i x e hi q=>h (i+1) x e (by simpa using hi) q) h3
  refine⟨e3,?_,h5⟩;unfold loop;rw[h1];simp only[Qj];rw[h2];exact h4
theorem b1i{h r:List Int}{j:Nat}(e:r.length=h.length)(hj:j<h.length):(v8_ h r).getD j 0=h.getD j 0+r.getD j 0:=by
 have hj2:j<r.length:=by omega
 simp[v8_,Jx,Zt hj,Zt hj2]
theorem b1j{h r:List Int}:a0E (h.map D.int) (r.map D.int)=(h.zip r).map fun p=>.tup [.int p.1,.int p.2]:=by
 unfold a0E;rw[List.zip_map,Yz];rfl
theorem b1k(f:Nat->Nat->Bool):∀k,argBest f k≤k
 |0=>Qm _
 |k+1=>by
  have:=b1k f k;unfold argBest;split<;>omega
theorem b8u{l:List Int}(h:1≤l.length):g6_ false l∈l:=by
 unfold g6_;have hl:=b1k (fun i j=>if false then decide (l.getD i 0>l.getD j 0)else decide (l.getD i 0<l.getD j 0)) (l.length-1)
 rw[Ug,Zt (by omega)]
 exact Ub _
theorem b1l{l:List Int}(h:1≤l.length):g7_ false [dR l]=some (.int (g6_ false l)):=by
 unfold dR;show(ints? (l.map D.int)).bind _=_;rw[a1V,Qj,Qs];cases l with
 |nil=>simp at h
 |cons _ _=>simp
theorem b8v{l:List Int}(h:1≤l.length):g7_ false [.lst (l.map D.int)]=some (.int (g6_ false l)):=by
 show(ints? (l.map D.int)).bind _=_;rw[a1V,Qj,Qs];cases l with
 |nil=>simp at h
 |cons _ _=>simp
abbrev a8a:Mo Fl:=(q0_ (v1_ 6 (mF (x6_ 1 u5_ (z7_ (z0_ 2) q2_)))) (q0_ (y3_ (mT (z5_ (dEq false) (z0_ 4) (mC (.int 0)))) (q0_ (v1_ 8 (mCB (g7_ false) (z2_ (mF (y0_ (v6_ (z0_ 6)) [false,false,false,false,false,false,false,false,false] 1 (gN 9) y4_ (mCB (g7_ false) (z2_ (z0_ 9) z4_)))) z4_))) (w5_ 6 (y0_ (v6_ (z0_ 6)) [false,false,false,false,false,false,false,false,true] 1 (gN 9) (mT (z5_ (dEq false) (mCB (g7_ false) (z2_ (z0_ 9) z4_)) (z0_ 8))) (z0_ 9)))) mNx) (q0_ (v1_ 7 (z5_ dIx (z0_ 6) (mCD 2 a0c (k7_ 0 (z7_ (mCB k3_ (z2_ (z0_ 6) z4_)) q2_))))) (q0_ (v1_ 3 (z5_ x2_ (z0_ 3) (q7_ (z2_ (z0_ 7) z4_)))) (v1_ 2 (mCD 2 g8_ (z7_ (z0_ 2) (z7_ (z0_ 7) q2_))))))))
abbrev b8w:Mo Fl:=(y3_ (mT (z5_ (dEq false) (z0_ 4) (mC (.int 0)))) (q0_ (v1_ 8 (mCB (g7_ false) (z2_ (mF (y0_ (v6_ (z0_ 6)) [false,false,false,false,false,false,false,false,false] 1 (gN 9) y4_ (mCB (g7_ false) (z2_ (z0_ 9) z4_)))) z4_))) (w5_ 6 (y0_ (v6_ (z0_ 6)) [false,false,false,false,false,false,false,false,true] 1 (gN 9) (mT (z5_ (dEq false) (mCB (g7_ false) (z2_ (z0_ 9) z4_)) (z0_ 8))) (z0_ 9)))) mNx)
def LW(w:W)(ds:List D):Prop:=w=.dat (.lst ds)∨w=.own ds
theorem b8x{b:Bool}{a few:Int}{w1 w2 w3 w5 w7 w8:W}{rows:OI}(h1:1≤rows.length)(h2:rows.length≤1000)(hr:∀r∈rows,1≤r.length):
  ∃(rows':OI) (w6 x8:W),b8w [.par [.int a,.bl b],w1,w2,w3,.dat (.int few),w5,.dat (.lst (rows.map dR)),w7,w8]=some (.nx,[.par [.int a,.bl b],w1,w2,w3,.dat (.int few),w5,w6,w7,x8])/\LW w6 (rows'.map dR)/\1≤rows'.length/\rows'.length≤1000/\∀r∈rows',r∈rows:=by
 by_cases hf:few=0
 ·subst hf
  let most:Int:=g6_ false (rows.map (g6_ false))
  have hm:most∈rows.map (g6_ false):=b8u (by simpa using h1)
  obtain⟨r0,hr0,e0⟩:=Qe.mp hm;refine⟨rows.filter fun r=>(g6_ false r==most),.own ((rows.filter fun r=>(g6_ false r==most)).map dR),.dat (.int most),?_,.inr rfl,?_,?_,fun r hq=>(Jl.mp hq).1⟩
  ·refine a1W (e1:=[.par [.int a,.bl b],w1,w2,w3,.dat (.int 0),w5,.dat (.lst (rows.map dR)),w7,w8]) rfl ?_
   have c1:=a5k (mi:=v6_ (z0_ 6)) (keep:=[false,false,false,false,false,false,false,false,false]) (m:=mCB (g7_ false) (z2_ (z0_ 9) z4_)) (env:=[.par [.int a,.bl b],w1,w2,w3,.dat (.int 0),w5,.dat (.lst (rows.map dR)),w7,w8]) (base:=[.nil,.nil,.nil,.nil,.nil,.nil,.nil,.nil,.nil]) (l:=rows) (q:=dR) (f:=fun r=>.int (g6_ false r)) (k:=9) rfl (by omega) rfl rfl
    (fun r hq=>u3_ (x3_ (e1:=[.nil,.nil,.nil,.nil,.nil,.nil,.nil,.nil,.nil,.dat (dR r)]) rfl rfl) (b1l (hr r hq))) (fun w=>rfl)
   have s1:(v1_ 8 (mCB (g7_ false) (z2_ (mF (y0_ (v6_ (z0_ 6)) [false,false,false,false,false,false,false,false,false] 1 (gN 9) y4_ (mCB (g7_ false) (z2_ (z0_ 9) z4_)))) z4_))) [.par [.int a,.bl b],w1,w2,w3,.dat (.int 0),w5,.dat (.lst (rows.map dR)),w7,w8]=some (.nx,[.par [.int a,.bl b],w1,w2,w3,.dat (.int 0),w5,.dat (.lst (rows.map dR)),w7,.dat (.int most)]):=by
    refine a0F (e1:=[.par [.int a,.bl b],w1,w2,w3,.dat (.int 0),w5,.dat (.lst (rows.map dR)),w7,w8]) (u3_ (x3_ (w7_ c1) rfl) ?_);have:=b8v (l:=rows.map (g6_ false)) (by simpa using h1)
    rw[Yz]at this;exact this
   have c2:=b0N (mi:=v6_ (z0_ 6)) (keep:=[false,false,false,false,false,false,false,false,true]) (t:=mT (z5_ (dEq false) (mCB (g7_ false) (z2_ (z0_ 9) z4_)) (z0_ 8))) (m:=z0_ 9) (env:=[.par [.int a,.bl b],w1,w2,w3,.dat (.int 0),w5,.dat (.lst (rows.map dR)),w7,.dat (.int most)]) (base:=[.nil,.nil,.nil,.nil,.nil,.nil,.nil,.nil,.dat (.int most)]) (l:=rows) (q:=dR) (f:=dR) (p:=fun r=>(g6_ false r==most)) (k:=9) rfl (by omega) rfl rfl
    (fun r hq=>⟨a0j (v7_ (a:=.int (g6_ false r)) (b:=.int most) (e1:=[.nil,.nil,.nil,.nil,.nil,.nil,.nil,.nil,.dat (.int most),.dat (dR r)]) (u3_ (x3_ (e1:=[.nil,.nil,.nil,.nil,.nil,.nil,.nil,.nil,.dat (.int most),.dat (dR r)]) rfl rfl) (b1l (hr r hq))) rfl rfl),fun _=>rfl⟩) (fun w=>rfl)
   refine y2_ s1 ?_
   unfold w5_;rw[c2];rfl
  ·have:r0∈rows.filter fun r=>(g6_ false r==most):=Jl.mpr ⟨hr0,by simp[e0]⟩
   exact List.length_pos_of_mem this
  ·exact Zo (List.length_filter_le _ _) h2
 ·refine⟨rows,.dat (.lst (rows.map dR)),w8,?_,.inl rfl,h1,h2,fun r hq=>hq⟩
  refine a0x (e1:=[.par [.int a,.bl b],w1,w2,w3,.dat (.int few),w5,.dat (.lst (rows.map dR)),w7,w8]) ?_ rfl;refine a0j (v7_ rfl rfl ?_);rw[b5H]
  simp[hf]
theorem b8y{w0 w1 w2 w3 w4 w5 w6 w7 w8:W}{ds:List D}(h:LW w6 ds):z0_ 6 [w0,w1,w2,w3,w4,w5,w6,w7,w8]=some (.lst ds,[w0,w1,w2,w3,w4,w5,.dat (.lst ds),w7,w8]):=by
 rcases h with rfl|rfl<;>rfl
theorem a5z{h r:List Int}(hl:r.length=h.length)(h6:h.length≤6):∃ws',g8_ [.dat (dR h),.dat (dR r)]=some (.d (dR (v8_ h r)),ws'):=by
 have ez:(h.zip r).map (fun p=>D.int (p.1+p.2))=(v8_ h r).map D.int:=by
  unfold v8_;rw[Vu,List.zip_eq_zipWith,Vu]
 have c:=a5m (mi:=a1e (z2_ (z0_ 0) (z2_ (z0_ 1) z4_))) (keep:=[false,false]) (m:=z5_ x2_ (z0_ 2) (z0_ 3)) (env:=[.dat (dR h),.dat (dR r)]) (base:=[.nil,.nil]) (l:=h.zip r) (q:=fun p=>D.int p.1) (q2:=fun p=>D.int p.2) (f:=fun p=>.int (p.1+p.2)) (k:=2) (by
   show some (a0E (h.map D.int) (r.map D.int),_)=_;rw[b1j]) (by rw[List.length_zip];omega) rfl rfl (fun p _=>rfl) (fun w w2=>rfl)
 rw[ez]at c;refine⟨_,(j4_ (d:=dR (v8_ h r)) (env:=[.dat (dR h),.dat (dR r)]) ?_).trans rfl⟩;show a7P [.dat (dR h),.dat (dR r)]=_;unfold a7P;exact a0i (u3_ (x3_ (w7_ c) rfl) rfl)
structure TbI(b:Bool)(n i:Nat)(few:Int)(e:Env')(a:Int)(h:List Int)(rows:OI)(w5 w6 w7 w8:W):Prop where
 eq:e=[.par [.int a,.bl b],.dat (.int n),.dat (dR h),.dat (dT rows),.dat (.int few),w5,w6,w7,w8]
 a0:0≤a
 hb:HB h n
 len:rows.length=i
 row:∀r∈rows,r.length=n/\tt 0 r=true
 sum:h.sum=i
 col:∀j,j<n->run 0 (rows.map fun r=>r.getD j 0)=some (h.getD j 0)
theorem b8z{b:Bool}{n i:Nat}{few:Int}{e:Env'}{a:Int}{h:List Int}{rows:OI}{w5 w6 w7 w8:W}(h1:1≤n)(h6:n≤6)(hi:i<n)(I:TbI b n i few e a h rows w5 w6 w7 w8):
  ∃e2 a' h' rows' x5 x6 x7 x8,a8a e=some (.nx,e2)/\TbI b n (i+1) few e2 a' h' rows' x5 x6 x7 x8:=by
 obtain⟨rfl,a0,hb,hlen,hrow,hsum,hcol⟩:=I;have hs:∃x∈h,x≠1:=by
  refine Um fun hn=>?_
  have hall:∀x∈h,x=1:=fun x hx=>Um fun z=>hn ⟨x,hx,z⟩
  have:h.sum=h.length:=by
   clear hcol hsum hn hb
   induction h with
   |nil=>rfl
   |cons y h ih=>
    have h1:=hall y (by simp)
    have:=ih fun x hx=>hall x (by simp[hx])
    simp only[Jc,Zp]
    omega
  have:=hb.len
  omega
 obtain⟨lines0,ws',el,l10,l20,lok0⟩:=b8r h1 h6 hb hs;have hnl:h.length=n:=hb.len;obtain⟨lines,w6',x8,ef,lw,l1,l2,lsub⟩:=b8x (b:=b) (a:=a) (few:=few) (w1:=.dat (.int n)) (w2:=.dat (dR h)) (w3:=.dat (dT rows)) (w5:=w5) (w7:=w7) (w8:=w8) l10 l20 (fun r hq=>by rw[(lok0 r hq).len,hnl];exact h1)
 have lok:∀r∈lines,LineOk h r:=fun r hq=>lok0 r (lsub r hq)
 obtain⟨v,a',et,v0,v1,a0'⟩:=a7X (a:=a) (m:=(lines.length:Int)) (b:=b) a0 (by omega) (by omega)
 have hv:v.toNat<lines.length:=by omega
 have hvv:((v.toNat:Nat):Int)=v:=by omega
 generalize hr:lines[v.toNat]=r;have rok:LineOk h r:=lok r (by rw[←hr];exact Ub hv)
 have rl:r.length=n:=by rw[rok.len,hb.len]
 obtain⟨wh,eh⟩:=a5z (h:=h) (r:=r) rok.len (by omega)
 refine⟨[.par [.int a',.bl b],.dat (.int n),.dat (dR (v8_ h r)),.dat (dT (rows++[r])),.dat (.int few),w5,.dat (.lst (lines.map dR)),.dat (dR r),x8],a',v8_ h r,rows++[r],w5,.dat (.lst (lines.map dR)),.dat (dR r),x8,?_,rfl,a0',⟨by rw[a7Y rok.len];exact hnl,rok.bit⟩,by simp[hlen],?_,?_,?_⟩
 ·have s1:(v1_ 6 (mF (x6_ 1 u5_ (z7_ (z0_ 2) q2_)))) [.par [.int a,.bl b],.dat (.int n),.dat (dR h),.dat (dT rows),.dat (.int few),w5,w6,w7,w8]=some (.nx,[.par [.int a,.bl b],.dat (.int n),.dat (dR h),.dat (dT rows),.dat (.int few),w5,.dat (.lst (lines0.map dR)),w7,w8]):=
   a0F (e1:=[.par [.int a,.bl b],.dat (.int n),.dat (dR h),.dat (dT rows),.dat (.int few),w5,w6,w7,w8]) (w7_ (a0Q (a0k (av:=[.d (dR h)]) rfl rfl rfl el)))
  have tk:(mCD 2 a0c (k7_ 0 (z7_ (mCB k3_ (z2_ (z0_ 6) z4_)) q2_))) [.par [.int a,.bl b],.dat (.int n),.dat (dR h),.dat (dT rows),.dat (.int few),w5,.dat (.lst (lines.map dR)),w7,x8]=some (.int v,[.par [.int a',.bl b],.dat (.int n),.dat (dR h),.dat (dT rows),.dat (.int few),w5,.dat (.lst (lines.map dR)),w7,x8]):=by
   refine a0P ((a4W (e1:=[.par [.int a,.bl b],.dat (.int n),.dat (dR h),.dat (dT rows),.dat (.int few),w5,.dat (.lst (lines.map dR)),w7,x8]) (w:=.par [.int a,.bl b]) (av:=[.sl 0,.d (.int (lines.length:Int))]) (i:=0) (c:=[.int a,.bl b]) (c':=[.int a',.bl b]) ?_ rfl rfl rfl rfl et rfl).trans rfl);show some ([Ar.sl 0,Ar.d (.int ((lines.map dR).length:Nat))],_)=_;rw[Qk]
  have s2:(v1_ 7 (z5_ dIx (z0_ 6) (mCD 2 a0c (k7_ 0 (z7_ (mCB k3_ (z2_ (z0_ 6) z4_)) q2_))))) [.par [.int a,.bl b],.dat (.int n),.dat (dR h),.dat (dT rows),.dat (.int few),w5,w6',w7,x8]=some (.nx,[.par [.int a',.bl b],.dat (.int n),.dat (dR h),.dat (dT rows),.dat (.int few),w5,.dat (.lst (lines.map dR)),.dat (dR r),x8]):=by
   refine a0F (e1:=[.par [.int a',.bl b],.dat (.int n),.dat (dR h),.dat (dT rows),.dat (.int few),w5,.dat (.lst (lines.map dR)),w7,x8]) (v7_ (b8y lw) tk ?_);rw[←hvv];exact b1a (xs:=lines.map dR) (by rw[Zj,Zt hv,hr];rfl)
  have s4:(v1_ 3 (z5_ x2_ (z0_ 3) (q7_ (z2_ (z0_ 7) z4_)))) [.par [.int a',.bl b],.dat (.int n),.dat (dR h),.dat (dT rows),.dat (.int few),w5,.dat (.lst (lines.map dR)),.dat (dR r),x8]=some (.nx,[.par [.int a',.bl b],.dat (.int n),.dat (dR h),.dat (dT (rows++[r])),.dat (.int few),w5,.dat (.lst (lines.map dR)),.dat (dR r),x8]):=by
   refine a0F (e1:=[.par [.int a',.bl b],.dat (.int n),.dat (dR h),.dat (dT rows),.dat (.int few),w5,.dat (.lst (lines.map dR)),.dat (dR r),x8]) (v7_ rfl rfl ?_);show(if(rows.map dR).length+[dR r].length≤10000 then _ else none)=_
   rw[Qc (by rw[Qk];simp;omega)]
   unfold dT;rw[Uc];rfl
  have s3:(v1_ 2 (mCD 2 g8_ (z7_ (z0_ 2) (z7_ (z0_ 7) q2_)))) [.par [.int a',.bl b],.dat (.int n),.dat (dR h),.dat (dT (rows++[r])),.dat (.int few),w5,.dat (.lst (lines.map dR)),.dat (dR r),x8]=some (.nx,[.par [.int a',.bl b],.dat (.int n),.dat (dR (v8_ h r)),.dat (dT (rows++[r])),.dat (.int few),w5,.dat (.lst (lines.map dR)),.dat (dR r),x8]):=
   a0F (e1:=[.par [.int a',.bl b],.dat (.int n),.dat (dR h),.dat (dT (rows++[r])),.dat (.int few),w5,.dat (.lst (lines.map dR)),.dat (dR r),x8]) (a0P (a0k (av:=[.d (dR h),.d (dR r)]) rfl rfl rfl eh))
  unfold a8a;exact y2_ s1 (y2_ ef (y2_ s2 (y2_ s4 s3)))
 ·intro r' hr'
  rcases Yy.mp hr' with z|z
  ·exact hrow r' z
  ·have:r'=r:=by simpa using z
   subst this;exact⟨rl,rok.tt⟩
 ·have:=b1f r 0 rok.tt
  rw[a7Z rok.len]
  omega
 ·intro j hj
  rw[Uc,Qh,Vf,b1i rok.len (by omega)]
  refine b8t _ _ 0 _ (hcol j hj) ?_
  rw[←b1i rok.len (by omega)]
  have hjl:j<(v8_ h r).length:=by rw[a7Y rok.len];omega
  have:(v8_ h r).getD j 0=(v8_ h r)[j]:=by simp[hjl]
  rw[this];exact rok.bit _ (Ub hjl)
structure Tab(T:OI):Prop where
 lo:1≤T.length
 hi:T.length≤6
 len:∀r∈T,r.length=T.length
 ok:isT (dT T)=true
theorem b8A{a:Int}{n:Nat}{b:Bool}(ha:0≤a)(n1:1≤n)(n6:n≤6):∃T a',a4j [.par [.int a,.bl b],.dat (.int n)]=some (.d (dT T),[.par [.int a',.bl b],.dat (.int n)])/\0≤a'/\Tab T/\T.length=n:=by
 obtain⟨v,a1,et,v0,v1,a10⟩:=a7X (a:=a) (m:=3) (b:=b) ha (by omega) (by omega)
 have s1:(v1_ 2 (z5_ w4_ (q7_ (z2_ (mC (.int 0)) z4_)) (z0_ 1))) [.par [.int a,.bl b],.dat (.int n),.nil,.nil,.nil,.nil,.nil,.nil,.nil]=some (.nx,[.par [.int a,.bl b],.dat (.int n),.dat (dR (List.replicate n 0)),.nil,.nil,.nil,.nil,.nil,.nil]):=by
  refine a0F (e1:=[.par [.int a,.bl b],.dat (.int n),.nil,.nil,.nil,.nil,.nil,.nil,.nil]) (v7_ rfl rfl ?_);show(if 1≤(n:Int)/\(n:Int)≤1000 then some (D.tup (List.replicate (n:Int).toNat (.int 0)))else none)=_
  rw[Qc (by omega),Jw]
  unfold dR;rw[List.map_replicate]
 have s2:(v1_ 3 (q7_ z4_)) [.par [.int a,.bl b],.dat (.int n),.dat (dR (List.replicate n 0)),.nil,.nil,.nil,.nil,.nil,.nil]=some (.nx,[.par [.int a,.bl b],.dat (.int n),.dat (dR (List.replicate n 0)),.dat (dT []),.nil,.nil,.nil,.nil,.nil]):=rfl
 have s3:(v1_ 4 (mCD 2 a0c (k7_ 0 (z7_ (mC (.int 3)) q2_)))) [.par [.int a,.bl b],.dat (.int n),.dat (dR (List.replicate n 0)),.dat (dT []),.nil,.nil,.nil,.nil,.nil]=some (.nx,[.par [.int a1,.bl b],.dat (.int n),.dat (dR (List.replicate n 0)),.dat (dT []),.dat (.int v),.nil,.nil,.nil,.nil]):=
  a0F (e1:=[.par [.int a1,.bl b],.dat (.int n),.dat (dR (List.replicate n 0)),.dat (dT []),.nil,.nil,.nil,.nil,.nil]) (a0P ((a4W (e1:=[.par [.int a,.bl b],.dat (.int n),.dat (dR (List.replicate n 0)),.dat (dT []),.nil,.nil,.nil,.nil,.nil]) (w:=.par [.int a,.bl b]) (av:=[.sl 0,.d (.int 3)]) (i:=0) (c:=[.int a,.bl b]) (c':=[.int a1,.bl b]) rfl rfl rfl rfl rfl et rfl).trans rfl))
 have start:TbI b n 0 v [.par [.int a1,.bl b],.dat (.int n),.dat (dR (List.replicate n 0)),.dat (dT []),.dat (.int v),.nil,.nil,.nil,.nil] a1 (List.replicate n 0) [] .nil .nil .nil .nil:=by
  refine⟨rfl,a10,⟨by simp,fun x hx=>.inl (List.eq_of_mem_replicate hx)⟩,rfl,fun r hr=>(by cases hr),by simp,fun j hj=>?_⟩
  simp[run,Ut,hj]
 obtain⟨e',h1,a',h',rows',x5,x6,x7,x8,I⟩:=b1h (g:=gN 5) (b:=a8a) (ds:=a0B 0 n) (P:=fun i e=>∃a h rows w5 w6 w7 w8,TbI b n i v e a h rows w5 w6 w7 w8) (env:=[.par [.int a1,.bl b],.dat (.int n),.dat (dR (List.replicate n 0)),.dat (dT []),.dat (.int v),.nil,.nil,.nil,.nil])
  (fun i d e hi ⟨a,h,rows,w5,w6,w7,w8,I⟩=>by
   have hil:i<n:=by
    have:=(Qg.mp hi).1;rw[b1b]at this
    simpa using this
   obtain⟨rfl,r1,r2,r3,r4,r5,r6⟩:=I;obtain⟨e2,a',h',rows',x5,x6,x7,x8,t1,t2⟩:=b8z (b:=b) (few:=v) (w5:=.dat d) (w6:=w6) (w7:=w7) (w8:=w8) n1 n6 hil ⟨rfl,r1,r2,r3,r4,r5,r6⟩;exact⟨_,e2,rfl,t1,a',h',rows',x5,x6,x7,x8,t2⟩) ⟨_,_,_,_,_,_,_,start⟩
 have hlen:(a0B 0 n).length=n:=by rw[b1b];simp
 rw[hlen]at I;obtain⟨rfl,r1,r2,r3,r4,r5,r6⟩:=I;have ones:=(b1g r2.bit).2 (by rw[r2.len];exact r5)
 have tab:Tab rows':=by
  refine⟨by omega,by omega,fun r hr=>by rw[r3];exact(r4 r hr).1,?_⟩
  unfold isT;rw[b0Z (by omega) (by omega) (fun r hr=>by rw[r3];exact(r4 r hr).1),a7V,Bool.true_and,List.all_append,Qw,Qy,Qy]
  refine⟨fun r hr=>(r4 r hr).2,fun c hc=>?_⟩
  unfold flip at hc;obtain⟨j,hj,rfl⟩:=Qe.mp hc;have hj':j<n:=by rw[r3]at hj;exact Yi.mp hj
  rw[b8s,r6 j hj'];have hjl:j<h'.length:=by rw[r2.len];exact hj'
  have:h'.getD j 0=h'[j]:=by simp[hjl]
  rw[this,ones _ (Ub hjl)];rfl
 refine⟨rows',a',(j4_ (d:=dT rows') (env:=[.par [.int a',.bl b],.dat (.int n),.dat (dR h'),.dat (dT rows'),.dat (.int v),x5,x6,x7,x8]) ?_).trans rfl,r1,tab,r3⟩;show a7Q [.par [.int a,.bl b],.dat (.int n),.nil,.nil,.nil,.nil,.nil,.nil,.nil]=_;unfold a7Q;have rg:=a9Q (ms:=z2_ (z0_ 1) z4_) (env:=[.par [.int a1,.bl b],.dat (.int n),.dat (dR (List.replicate n 0)),.dat (dT []),.dat (.int v),.nil,.nil,.nil,.nil]) (e1:=[.par [.int a1,.bl b],.dat (.int n),.dat (dR (List.replicate n 0)),.dat (dT []),.dat (.int v),.nil,.nil,.nil,.nil]) (j:=(n:Int)) rfl (by omega) (by omega)
 rw[Jw]at rg;rw[g4_ s1,g4_ s2,g4_ s3,g4_ ((a1R rg).trans h1)];rfl
def S(g:Nat->Int):Nat->Int
 |0=>0
 |k+1=>S g k+g k
def U(h:OO)(i j:Nat):Int:=(h (i+1) (j+1)-h i (j+1))-(h (i+1) j-h i j)
theorem b8B(g:Nat->Int):∀n,S (fun k=>g (k+1)-g k) n=g n-g 0
 |0=>by show(0:Int)=_;omega
 |n+1=>by
  show S (fun k=>g (k+1)-g k) n+(g (n+1)-g n)=_
  rw[b8B g n];omega
theorem a4m(g:Nat->Int):∀n,S g (n+1)=g 0+S (fun k=>g (k+1)) n
 |0=>by show(0:Int)+g 0=g 0+0;omega
 |n+1=>by
  show S g (n+1)+g (n+1)=g 0+(S (fun k=>g (k+1)) n+g (n+1))
  rw[a4m g n];omega
structure TabF(n:Nat)(f:OO):Prop where
 row:∀i<n,∀k≤n,S (f i) k=0∨S (f i) k=1
 rowN:∀i<n,S (f i) n=1
 col:∀j<n,∀k≤n,S (fun r=>f r j) k=0∨S (fun r=>f r j) k=1
 colN:∀j<n,S (fun r=>f r j) n=1
structure HtF(n:Nat)(h:OO):Prop where
 r0:∀i≤n,h i 0=0
 d0:∀j≤n,h 0 j=0
 rN:∀i≤n,h i n=i
 dN:∀j≤n,h n j=j
 dd:∀i<n,∀j≤n,h (i+1) j=h i j∨h (i+1) j=h i j+1
 rr:∀i≤n,∀j<n,h i (j+1)=h i j∨h i (j+1)=h i j+1
def tr(n:Nat)(h:OO)(i j:Nat):Int:=(i:Int)+j-n+h (n-i) (n-j)
theorem a5A:∀(n:Nat) (g:Nat->Int) (s:Int),tt s ((List.range n).map g)=true↔(∀k<n,s+S g (k+1)=0∨s+S g (k+1)=1)/\s+S g n=1
 |0,g,s=>by
  show(s==1)=true↔_;rw[Xp]
  constructor
  ·intro h;exact⟨fun k hk=>by omega,by show s+0=1;omega⟩
  ·rintro⟨_,h⟩;have:S g 0=0:=rfl;omega
 |n+1,g,s=>by
  rw[List.range_succ_eq_map,Qh,Yz];show((s+g 0==0||s+g 0==1)&&tt (s+g 0) ((List.range n).map fun k=>g (k+1)))=true↔_
  rw[Qw,Vd,Xp,Xp,a5A n (fun k=>g (k+1)) (s+g 0),a4m g n]
  constructor
  ·rintro⟨h1,h2,h3⟩
   refine⟨fun k hk=>?_,by omega⟩
   rw[a4m g k];cases k with
   |zero=>show s+(g 0+0)=0∨s+(g 0+0)=1;omega
   |succ k=>have:=h2 k (by omega);omega
  ·rintro⟨h1,h2⟩
   refine⟨?_,fun k hk=>?_,by omega⟩
   ·have:=h1 0 (by omega)
    rw[a4m g 0]at this;have e:S (fun k=>g (k+1)) 0=0:=rfl
    omega
   ·have:=h1 (k+1) (by omega)
    rw[a4m g (k+1)]at this;omega
def gm(n m:Nat)(f:OO):OI:=(List.range n).map fun i=>(List.range m).map (f i)
theorem a3r{n m:Nat}{f:OO}:(gm n m f).length=n:=by simp[gm]
theorem b8C{n m:Nat}{f:OO}:∀r∈gm n m f,r.length=m:=by
 intro r hr;obtain⟨i,_,rfl⟩:=Qe.mp hr
 simp
def at2(R:OI)(i j:Nat):Int:=(R.getD i []).getD j 0
theorem b1m{R:OI}{n:Nat}(h1:R.length=n)(h2:∀r∈R,r.length=n):R=gm n n (at2 R):=by
 subst h1;unfold gm
 apply List.ext_getElem
 ·simp
 ·intro i hi hi'
  have hr:=h2 R[i] (Ub hi)
  rw[List.getElem_map,List.getElem_range]
  apply List.ext_getElem
  ·simp[hr]
  ·intro j hj hj'
   rw[List.getElem_map,List.getElem_range]
   simp[at2,hi,hj]
theorem b8D(n m:Nat)(f:OO):flip m (gm n m f)=gm m n (fun i j=>f j i):=by
 unfold flip gm
 apply Yp
 intro j hj;have hj:=Yi.mp hj;rw[Yz]
 apply Yp
 intro i hi
 simp[hj]
theorem b8E{n:Nat}{f:OO}:isT (dT (gm n n f))=true↔(1≤n/\n≤6)/\TabF n f:=by
 unfold isT;rw[a7V,a3r,b8D,Qw,List.all_append,Qw,Qy,Qy];have row:∀g:OO,(∀x∈gm n n g,tt 0 x=true)↔ ∀i<n,(∀k≤n,S (g i) k=0∨S (g i) k=1)/\S (g i) n=1:=by
  intro g
  constructor
  ·intro h i hi
   have h1:=(a5A n (g i) 0).mp (h _ (Qe.mpr ⟨i,Yi.mpr hi,rfl⟩))
   refine⟨fun k hk=>?_,by have:=h1.2;omega⟩
   cases k with
   |zero=>exact .inl rfl
   |succ k=>have:=h1.1 k (by omega);omega
  ·intro h x hx
   obtain⟨i,hi,rfl⟩:=Qe.mp hx;have h1:=h i (Yi.mp hi);refine(a5A n (g i) 0).mpr ⟨fun k hk=>?_,by have:=h1.2;omega⟩
   have:=h1.1 (k+1) (by omega);omega
 rw[row,row]
 constructor
 ·rintro⟨h1,h2,h3⟩
  have:=b8c h1;rw[a7V,a3r]at this;exact⟨⟨by omega,by omega⟩,⟨fun i hi=>(h2 i hi).1,fun i hi=>(h2 i hi).2,fun i hi=>(h3 i hi).1,fun i hi=>(h3 i hi).2⟩⟩
 ·rintro⟨⟨h1,h2⟩,T⟩
  refine⟨b0Z (by rw[a3r];omega) (by rw[a3r];omega) (by rw[a3r];exact b8C),fun i hi=>⟨T.row i hi,T.rowN i hi⟩,fun i hi=>⟨T.col i hi,T.colN i hi⟩⟩
abbrev rw'(n:Nat)(g:Nat->Int):List Int:=(List.range n).map g
theorem c1{f:Fn}{m:Mo D}{env:Env'}{d r:D}{ws:List W}(h:m env=some (d,env))(hf:f [.dat d]=some (.d r,ws)):mCD 1 f (z7_ m q2_) env=some (r,env):=
 a0P (a0k (av:=[.d d]) (a1u h rfl) rfl rfl hf)
theorem b8F(l:List Int):shp (dR l)=true:=by
 unfold shp SeqAt.shaped;show(PyData.canLayAll0 (x5_ (l.map D.int))&&decide (PyData.depthAll (x5_ (l.map D.int))+1≤64))=true;rw[a3q,a2u,a7W];rfl
theorem b8G(l k:List Int):PyData.eqv (toP (dR l)) (toP (dR k))=decide (l=k):=by
 show PyData.eqvAll (x5_ (l.map D.int)) (x5_ (k.map D.int))=_;rw[a3q,a3q,b1c]
theorem b1n:∀R:OI,PyData.canLayAll0 (x5_ (R.map dR))=true
 |[]=>rfl
 |r::R=>by
  show(PyData.canLayAll0 (x5_ (r.map D.int))&&PyData.canLayAll0 (x5_ (R.map dR)))=true;rw[b1n R,a3q,a2u];rfl
def bts:Nat->OI
 |0=>[[]]
 |n+1=>(bts n).map (fun s=>0::s)++(bts n).map fun s=>1::s
theorem a8b:∀{n:Nat}{s:List Int},s.length=n->(∀x∈s,x=0∨x=1)->s∈bts n
 |0,[],_,_=>by simp[bts]
 |0,_::_,h,_=>by simp at h
 |n+1,[],h,_=>by simp at h
 |n+1,x::s,h,hx=>by
  have ih:=a8b (n:=n) (s:=s) (by simpa using h) fun y hy=>hx y (Qa _ hy)
  unfold bts;rw[Yy]
  rcases hx x (Zv ..)with rfl|rfl
  ·exact .inl (Qe.mpr ⟨s,ih,rfl⟩)
  ·exact .inr (Qe.mpr ⟨s,ih,rfl⟩)
theorem a5B:∀{n:Nat}{s:List Int},s∈bts n->s.length=n/\∀x∈s,x=0∨x=1
 |0,s,h=>by
  have:s=[]:=by simpa [bts]using h
  subst this;exact⟨rfl,fun x hx=>nomatch hx⟩
 |n+1,s,h=>by
  unfold bts at h
  rcases Yy.mp h with h|h
  ·obtain⟨t,ht,rfl⟩:=Qe.mp h
   obtain⟨h1,h2⟩:=a5B ht;exact⟨by simp[h1],fun x hx=>(Qn.mp hx).elim (fun e=>.inl e) (h2 x)⟩
  ·obtain⟨t,ht,rfl⟩:=Qe.mp h
   obtain⟨h1,h2⟩:=a5B ht;exact⟨by simp[h1],fun x hx=>(Qn.mp hx).elim (fun e=>.inr e) (h2 x)⟩
theorem b1o:∀n:Nat,(bts n).length=2^n
 |0=>rfl
 |n+1=>by unfold bts;rw[Qt,Qk,Qk,b1o n];omega
def ext(rows:OI)(a:Int):OI:=rows.flatMap fun row=>([-1,0,1].filter fun n=>(a+n==0||a+n==1)&&(row.sum+n==0||row.sum+n==1)).map fun n=>row++[n]
def R(s:List Int):OI:=(s.foldl ext [[]]).filter fun r=>r.sum==1
def T64:List Int:=[7436,429,1287,42,2002,105,203,7,2002,135,300,14,322,23,34,2,1287,105,250,14,300,26,41,3,203,23,41,4,34,5,6,1,429,42,105,7,135,14,23,2,105,14,26,3,23,4,5,1,42,7,14,2,14,3,4,1,7,2,3,1,2,1,1,1]
def idx(s:List Int):Nat:=s.foldl (fun a b=>2 * a+b.toNat) 0
def Wy(s:List Int):Int:=T64.getD (64-2^s.length+idx s) 0
def srt:OI->Bool
 |[]=>true
 |a::l=>l.all (fun b=>HT.lexLt a b)&&srt l
def a0J(s:List Int):Bool:=
 ((R s).all fun r=>decide (r.length=s.length)&&decide (r.sum=1)&&(v8_ s r).all fun x=>x==0||x==1)&&srt (R s)&&decide ((R s).length≤50)&&(s.contains 0||(R s).isEmpty)
  &&decide (Wy s=if s.contains 0 then((R s).map fun r=>Wy (v8_ s r)).sum else 1)&&decide (1≤Wy s)
theorem ck1:(bts 1).all a0J=true:=by decide+kernel
theorem ck2:(bts 2).all a0J=true:=by decide+kernel
theorem ck3:(bts 3).all a0J=true:=by decide+kernel
theorem ck4:(bts 4).all a0J=true:=by decide+kernel
theorem ck5:(bts 5).all a0J=true:=by decide+kernel
theorem ck6:(bts 6).all a0J=true:=by decide+kernel
def a4n:List D->Option (List Int)
 |[]=>some []
 |.int i::r=>(a4n r).map (i:: ·)
 |_::_=>none
def a3s:List D->Option (OI)
 |[]=>some []
 |.tup x::r=>(a4n x).bind fun a=>(a3s r).map (a:: ·)
 |_::_=>none
theorem b1p:∀{l:List D}{r:List Int},a4n l=some r->l=r.map .int
 |[],r,h=>by cases h;rfl
 |d::l,r,h=>by
  cases d with
  |int i=>
   obtain⟨a,h1,h2⟩:=Uj.mp (show(a4n l).map (i:: ·)=some r from h)
   rw[←h2,Qh,←b1p h1]
  |_=>cases h
theorem a5C:∀{l:List D}{r:OI},a3s l=some r->l=r.map dR
 |[],r,h=>by cases h;rfl
 |d::l,r,h=>by
  cases d with
  |tup x=>
   obtain⟨a,h0,h'⟩:=Option.bind_eq_some_iff.mp (show(a4n x).bind (fun a=>(a3s l).map (a:: ·))=some r from h)
   obtain⟨b,h1,h2⟩:=Uj.mp h';rw[←h2,Qh,←a5C h1,b1p h0];rfl
  |_=>cases h
def a5D(o:Option (Rr×List W)):Option (OI):=match o with
 |some (.l ds,[_])=>a3s ds
 |_=>none
theorem b1q{o:Option (Rr×List W)}{L:OI}(h:a5D o=some L):∃w,o=some (.l (L.map dR),[w]):=by
 unfold a5D at h;split at h
 ·rename_i ds w
  exact⟨w,by rw[a5C h]⟩
 ·cases h
theorem b1r{N:Nat}{m:Mo Fl}{d:D}{r:Rr}{w:W}(h:fnM N m [.dat d]=some (r,[w])):fnM N m [.dat d]=some (r,[.dat d]):=by
 have key:∀env:Env',a0r [.dat d] env=[w]->w=.dat d:=fun env e=>by
  cases env with
  |nil=>cases e
  |cons a as=>
   have e':[a3F (.dat d) a]=[w]:=by
    cases as<;>exact e
   injection e' with e1 _
   rw[←e1];rfl
 suffices hw:w=.dat d by rw[h,hw]
 unfold fnM at h;split at h<;>first|(cases h;done)|(injection h with h;injection h with _ h;exact key _ h)
def a1X(s:List Int):Bool:=a5D (a1i [.dat (dR s)])==some (R s)
theorem cp1:(bts 1).all a1X=true:=by decide+kernel
theorem cp2:(bts 2).all a1X=true:=by decide+kernel
theorem cp3:(bts 3).all a1X=true:=by decide+kernel
theorem cp4:(bts 4).all a1X=true:=by decide+kernel
theorem cp5:(bts 5).all a1X=true:=by decide+kernel
theorem cp6:(bts 6).all a1X=true:=by decide+kernel
structure Bt(n:Nat)(s:List Int):Prop where
 lo:1≤n
 hi:n≤6
 mem:s∈bts n
theorem Bt.all{n:Nat}{s:List Int}(b:Bt n s):a0J s=true/\a1X s=true:=by
 obtain⟨h1,h6,hm⟩:=b;have:n=1∨n=2∨n=3∨n=4∨n=5∨n=6:=by omega
 rcases this with rfl|rfl|rfl|rfl|rfl|rfl
 ·exact⟨Qy.mp ck1 s hm,Qy.mp cp1 s hm⟩
 ·exact⟨Qy.mp ck2 s hm,Qy.mp cp2 s hm⟩
 ·exact⟨Qy.mp ck3 s hm,Qy.mp cp3 s hm⟩
 ·exact⟨Qy.mp ck4 s hm,Qy.mp cp4 s hm⟩
 ·exact⟨Qy.mp ck5 s hm,Qy.mp cp5 s hm⟩
 ·exact⟨Qy.mp ck6 s hm,Qy.mp cp6 s hm⟩
theorem Bt.len{n:Nat}{s:List Int}(b:Bt n s):s.length=n:=(a5B b.mem).1
theorem Bt.bit{n:Nat}{s:List Int}(b:Bt n s):∀x∈s,x=0∨x=1:=(a5B b.mem).2
theorem Bt.row{n:Nat}{s r:List Int}(b:Bt n s)(hr:r∈R s):r.length=s.length/\r.sum=1/\Bt n (v8_ s r):=by
 have h:=b.all.1
 unfold a0J at h;simp only[Qw]at h;have h1:=Qy.mp h.1.1.1.1.1 r hr;rw[Qw,Qw,Zy,Zy]at h1;refine⟨h1.1.1,h1.1.2,b.lo,b.hi,a8b (by rw[a7Y h1.1.1,b.len]) fun x hx=>?_⟩
 have:=Qy.mp h1.2 x hx
 simpa using this
theorem Bt.few{n:Nat}{s:List Int}(b:Bt n s):(R s).length≤50:=by
 have h:=b.all.1
 unfold a0J at h;simp only[Qw,Zy]at h;exact h.1.1.1.2
theorem Bt.done{n:Nat}{s:List Int}(b:Bt n s)(h0:s.contains 0=false):R s=[]/\Wy s=1:=by
 have h:=b.all.1
 unfold a0J at h;simp only[Qw,Zy]at h;refine⟨?_,?_⟩
 ·have:=h.1.1.2
  rw[h0,Xj]at this
  simpa using this
 ·have:=h.1.2
  rw[h0]at this
  simpa using this
theorem Bt.sum{n:Nat}{s:List Int}(b:Bt n s)(h0:s.contains 0=true):Wy s=((R s).map fun r=>Wy (v8_ s r)).sum:=by
 have h:=b.all.1
 unfold a0J at h;simp only[Qw,Zy]at h;have:=h.1.2;rw[h0]at this
 simpa using this
theorem Bt.none{n:Nat}{s:List Int}(b:Bt n s)(h:(n:Int)≤s.sum):s.contains 0=false:=by
 have key:∀l:List Int,(∀x∈l,x=0∨x=1)->l.sum≤l.length/\((l.length:Int)≤l.sum->l.contains 0=false):=by
  intro l
  induction l with
  |nil=>intro _;exact⟨by simp,fun _=>rfl⟩
  |cons x l ih=>
   intro hx;obtain⟨h1,h2⟩:=ih fun y hy=>hx y (Qa _ hy)
   simp only[Jc,Zp,Ji]
   rcases hx x (Zv ..)with rfl|rfl
   ·exact⟨by omega,fun h=>by omega⟩
   ·exact⟨by omega,fun h=>by rw[h2 (by omega)];rfl⟩
 exact(key s b.bit).2 (by rw[b.len];exact h)
theorem Bt.next{n:Nat}{s r:List Int}(b:Bt n s)(hr:r∈R s):(v8_ s r).sum=s.sum+1:=by
 obtain⟨h1,h2,_⟩:=b.row hr;rw[a7Z h1,h2]
def okE:Int->List Int->List Int->Bool
 |_,[],[]=>true
 |q,a::s,x::t=>(x== -1||x==0||x==1)&&(a+x==0||a+x==1)&&(q+x==0||q+x==1)&&okE (q+x) s t
 |_,_,_=>false
theorem b1s:∀(s t:List Int) {rows:OI}{r0:List Int},r0∈rows->okE r0.sum s t=true->r0++t∈s.foldl ext rows
 |[],[],rows,r0,h,_=>by simpa using h
 |[],_::_,_,_,_,h=>by simp[okE]at h
 |_::_,[],_,_,_,h=>by simp[okE]at h
 |a::s,x::t,rows,r0,h,e=>by
  simp only[okE,Qw]at e;obtain⟨⟨⟨e1,e2⟩,e3⟩,e4⟩:=e;have hm:r0++[x]∈ext rows a:=by
   unfold ext;refine List.mem_flatMap.mpr ⟨r0,h,Qe.mpr ⟨x,Jl.mpr ⟨?_,?_⟩,rfl⟩⟩
   ·have:x= -1∨x=0∨x=1:=by simpa [or_assoc]using e1
    rcases this with rfl|rfl|rfl<;>simp
   ·rw[Qw];exact⟨e2,e3⟩
  have:=b1s s t (rows:=ext rows a) (r0:=r0++[x]) hm (by
   have:(r0++[x]).sum=r0.sum+x:=by rw[List.sum_append];simp
   rw[this];exact e4)
  rw[Uo]at this;exact this
theorem b1t:∀(s t:List Int) (q:Int),t.length=s.length->(∀x∈s,x=0∨x=1)->tt q t=true->(∀x∈v8_ s t,x=0∨x=1)->okE q s t=true
 |[],[],_,_,_,_,_=>rfl
 |[],_::_,_,h,_,_,_=>by simp at h
 |_::_,[],_,h,_,_,_=>by simp at h
 |a::s,x::t,q,hl,hs,ht,ha=>by
  simp only[tt,Qw]at ht;have ih:=b1t s t (q+x) (by simpa using hl) (fun y hy=>hs y (Qa _ hy)) ht.2 fun y hy=>ha y (by
   show y∈List.zipWith _ (a::s) (x::t);rw[Ux];exact Qa _ hy)
  have h1:=hs a (Zv ..)
  have h2:=ha (a+x) (by
   show a+x∈List.zipWith _ (a::s) (x::t);rw[Ux];exact Zv ..)
  simp only[okE,Qw,Vd,Xp];refine⟨⟨⟨?_,?_⟩,?_⟩,ih⟩
  ·rcases h1 with rfl|rfl<;>omega
  ·exact h2
  ·simpa using ht.1
theorem b8H{s r:List Int}(hl:r.length=s.length)(hs:∀x∈s,x=0∨x=1)(ht:tt 0 r=true)(ha:∀x∈v8_ s r,x=0∨x=1):r∈R s:=by
 refine Jl.mpr ⟨?_,?_⟩
 ·have:=b1s s r (rows:=[[]]) (r0:=[]) (by simp) (b1t s r 0 hl hs ht ha)
  simpa using this
 ·have:=b1f r 0 ht
  simp;omega
def wt(s:List Int)(r:List Int):Int:=Wy (v8_ s r)
theorem b1u{n:Nat}{s:List Int}(b:Bt n s):a1i [.dat (dR s)]=some (.l ((R s).map dR),[.dat (dR s)]):=by
 have h:=b.all.2
 unfold a1X at h;obtain⟨w,e⟩:=b1q (Vp h);exact b1r e
theorem b1v{n:Nat}{s r:List Int}(b:Bt n s)(hr:r∈R s):a1j [.dat (dR s),.dat (dR r)]=some (.d (dR (v8_ s r)),[.dat (dR s),.dat (dR r)]):=by
 have ez:(s.zip r).map (fun p=>D.int (p.1+p.2))=(v8_ s r).map D.int:=by
  unfold v8_;rw[Vu,List.zip_eq_zipWith,Vu]
 have hl:=b.len
 have h6:=b.hi
 have c:=a5m (mi:=a1e (z2_ (z0_ 0) (z2_ (z0_ 1) z4_))) (keep:=[false,false]) (m:=z5_ x2_ (z0_ 2) (z0_ 3)) (env:=[.dat (dR s),.dat (dR r)]) (base:=[.nil,.nil]) (l:=s.zip r) (q:=fun p=>D.int p.1) (q2:=fun p=>D.int p.2) (f:=fun p=>.int (p.1+p.2)) (k:=2) (by
   show some (a0E (s.map D.int) (r.map D.int),_)=_;rw[b1j]) (by rw[List.length_zip];omega) rfl rfl (fun p _=>rfl) (fun w w2=>rfl)
 rw[ez]at c;refine(j4_ (d:=dR (v8_ s r)) (env:=[.dat (dR s),.dat (dR r)]) ?_).trans rfl;show a7I [.dat (dR s),.dat (dR r)]=_;unfold a7I;exact a0i (u3_ (x3_ (w7_ c) rfl) rfl)
structure KOk(n:Nat)(ks:OI)(vs:List D):Prop where
 nd:ks.Nodup
 sub:∀k∈ks,k∈bts n
 val:∀k,ks.contains k=true->lkD ks vs k=some (.int (Wy k))
theorem b1w:∀{l m:OI},l.Nodup->(∀x∈l,x∈m)->l.length≤m.length
 |[],_,_,_=>by simp
 |a::l,m,hn,h=>by
  rw[Jd]at hn;have ha:=h a (Zv ..);have:=b1w (l:=l) (m:=m.erase a) hn.2 fun x hx=>(List.mem_erase_of_ne (fun e=>hn.1 (by rw[←e];exact hx))).mpr (h x (Qa _ hx))
  rw[List.length_erase_of_mem ha]at this;have:=List.length_pos_of_mem ha;simp only[Zp];omega
theorem KOk.len{n:Nat}{ks:OI}{vs:List D}(h6:n≤6)(h:KOk n ks vs):ks.length<100000:=by
 have:=b1w h.nd h.sub;rw[b1o]at this;have:2^n≤2^6:=Nat.pow_le_pow_right (by decide) h6
 omega
theorem KOk.nil(n:Nat):KOk n [] []:=⟨List.nodup_nil,(fun k h=>nomatch h),fun k h=>by simp at h⟩
theorem b1x:∀{ks:OI}{vs:List D}{k:List Int}{d:D},ks.length=vs.length->ks.contains k=false->lkD (ks++[k]) (vs++[d]) k=some d
 |[],[],k,d,_,_=>by simp[lkD]
 |[],_::_,_,_,h,_=>by simp at h
 |_::_,[],_,_,h,_=>by simp at h
 |a::ks,v::vs,k,d,hl,h=>by
  rw[Ji,Bool.or_eq_false_iff]at h;show(if a=k then some v else lkD (ks++[k]) (vs++[d]) k)=_
  rw[Qs (fun z=>by rw[z]at h;simp at h),b1x (by simpa using hl) h.2]
theorem a8c:∀{ks:OI}{vs:List D}{k k':List Int}{d x:D},lkD ks vs k'=some x->lkD (ks++[k]) (vs++[d]) k'=some x
 |[],_,_,_,_,_,h=>by simp[lkD]at h
 |_::_,[],_,_,_,_,h=>by simp[lkD]at h
 |a::ks,v::vs,k,k',d,x,h=>by
  show(if a=k' then some v else lkD (ks++[k]) (vs++[d]) k')=_
  have h':(if a=k' then some v else lkD ks vs k')=some x:=h
  by_cases e:a=k'
  ·rw[Qc e]at h' ⊢;exact h'
  ·rw[Qs e]at h' ⊢;exact a8c h'
def KL(n:Nat)(ks:OI)(vs:List D):Prop:=KOk n ks vs/\ks.length=vs.length
theorem KL.nil(n:Nat):KL n [] []:=⟨KOk.nil n,rfl⟩
theorem KL.put{n:Nat}{ks:OI}{vs:List D}{k:List Int}(h:KL n ks vs)(hk:k∈bts n)(hc:ks.contains k=false):KL n (w8_ ks k) (j5_ ks vs k (.int (Wy k))):=by
 obtain⟨h,hl⟩:=h;unfold w8_ j5_;rw[hc];simp only[Zz,Yw];have hn:k∉ks:=fun z=>by rw[Yn.mpr z]at hc;cases hc
 refine⟨⟨?_,fun x hx=>?_,fun x hx=>?_⟩,by simp[hl]⟩
 ·rw[List.nodup_append]
  exact⟨h.nd,by simp,fun a ha b hb=>by
   have:b=k:=by simpa using hb
   subst this;exact fun e=>hn (by rw[←e];exact ha)⟩
 ·rcases Yy.mp hx with hx|hx
  ·exact h.sub x hx
  ·have:x=k:=by simpa using hx
   subst this;exact hk
 ·by_cases e:x=k
  ·subst e;exact b1x hl hc
  ·refine a8c (h.val x ?_)
   have:x∈ks++[k]:=Yn.mp hx
   rcases Yy.mp this with z|z
   ·exact Yn.mpr z
   ·exact absurd (by simpa using z) e
theorem a1Y(s:List Int):a0l (dR s)=some s:=a1V s
def chD(s:List Int):List D:=(R s).map fun r=>.tup [dR r,.int (wt s r)]
def WOk(n:Nat)(f:Fn)(s:List Int):Prop:=∀ks vs,KL n ks vs->∃ks' vs',f [.dat (dR s),.parD ks vs]=some (.d (.int (Wy s)),[.dat (dR s),.parD ks' vs'])/\KL n ks' vs'
theorem b1y{n:Nat}{f:Fn}{s:List Int}(b:Bt n s)(hf:∀r∈R s,WOk n f (v8_ s r)){ks:OI}{vs:List D}(hk:KL n ks vs):
  ∃ks' vs',a1B f [.dat (dR s),.parD ks vs]=some (.l (chD s),[.dat (dR s),.parD ks' vs'])/\KL n ks' vs':=by
 obtain⟨e',h1,ks',vs',w',rfl,hk'⟩:=b8f (g:=gN 2) (m:=q7_ (z2_ (z0_ 2) (z2_ (mCD 2 f (z7_ (mCD 2 a1j (z7_ (z0_ 0) (z7_ (z0_ 2) q2_))) (k7_ 1 q2_))) z4_))) (P:=fun e=>∃ks vs w,e=[.dat (dR s),.parD ks vs,w]/\KL n ks vs) (q:=dR) (f:=fun r=>.tup [dR r,.int (wt s r)]) (l:=R s) (env:=[.dat (dR s),.parD ks vs,.nil])
  (fun r hr e ⟨ks,vs,w,he,hk⟩=>by
   subst he;obtain⟨ks',vs',e1,hk'⟩:=hf r hr ks vs hk;refine⟨[.dat (dR s),.parD ks vs,.dat (dR r)],[.dat (dR s),.parD ks' vs',.dat (dR r)],rfl,?_,_,_,_,rfl,hk'⟩;refine a4b (x3_ (e1:=[.dat (dR s),.parD ks vs,.dat (dR r)]) rfl (x3_ (d:=.int (wt s r)) (e1:=[.dat (dR s),.parD ks' vs',.dat (dR r)]) ?_ rfl)) (by simp)
   refine a0P ((a4X (i:=1) (w:=.parD ks vs) (c:=.d ks vs) (c':=.d ks' vs') (e1:=[.dat (dR s),.parD ks vs,.dat (dR r)]) (av:=[.d (dR (v8_ s r)),.sl 1]) ?_ rfl rfl rfl rfl e1 rfl).trans rfl);refine a1u (e1:=[.dat (dR s),.parD ks vs,.dat (dR r)]) (a0P (a0k (av:=[.d (dR s),.d (dR r)]) rfl rfl rfl (b1v b hr))) rfl) ⟨_,_,_,rfl,hk⟩
 refine⟨ks',vs',(a4V (d:=chD s) (env:=[.dat (dR s),.parD ks' vs']) ?_).trans rfl,hk'⟩;show a7J f [.dat (dR s),.parD ks vs]=_;unfold a7J;refine a6K (a3O (e1:=[.dat (dR s),.parD ks vs]) (ds:=(R s).map dR) (e2:=[.dat (dR s),.parD ks' vs',w']) ?_ ?_ h1 rfl)
 ·exact a1f (w7_ (a0Q (a0k (e1:=[.dat (dR s),.parD ks vs]) (av:=[.d (dR s)]) rfl rfl rfl (b1u b)))) rfl
 ·have:=b.few
  rw[Qk];omega
theorem b1z:∀{ks:OI}{vs:List D}{k:List Int}{d:D},k∉ks->reD ks vs k d=vs
 |[],_,_,_,_=>rfl
 |_::_,[],_,_,_=>rfl
 |a::ks,v::vs,k,d,h=>by
  show(if a=k then d::reD ks vs k d else v::reD ks vs k d)=_
  rw[Qs (fun z=>h (by rw[z];exact Zv ..)),b1z fun z=>h (Qa _ z)]
theorem b1A:∀{ks:OI}{vs:List D}{k:List Int}{d:D},ks.length=vs.length->lkD ks vs k=some d->ks.Nodup->reD ks vs k d=vs
 |[],_,_,_,_,h,_=>by simp[lkD]at h
 |_::_,[],_,_,_,h,_=>by simp[lkD]at h
 |a::ks,v::vs,k,d,hl,h,hn=>by
  rw[Jd]at hn;show(if a=k then d::reD ks vs k d else v::reD ks vs k d)=_
  have h':(if a=k then some v else lkD ks vs k)=some d:=h
  by_cases e:a=k
  ·rw[Qc e]at h' ⊢
   cases h';rw[b1z (by rw[←e];exact hn.1)]
  ·rw[Qs e]at h' ⊢
   rw[b1A (by simpa using hl) h' hn.2]
theorem b1B{n:Nat}{f:Fn}{s:List Int}{ks ks':OI}{vs vs' ds:List D}(b:Bt n s)(hk':KL n ks' vs')
  (tst:(mT (z5_ (dIn true) (mC (.int 0)) (z0_ 0))) [.dat (dR s),.parD ks vs]=some (false,[.dat (dR s),.parD ks vs]))
  (tin:(mT (a3f true 1 (z0_ 0))) [.dat (dR s),.parD ks vs]=some (true,[.dat (dR s),.parD ks vs]))
  (cc:(y0_ (v6_ (mF (x6_ 2 (a1B f) (z7_ (z0_ 0) (k7_ 1 q2_))))) [false,false] 2 (gT 2 (gCn (gN 2) (gCn (gN 3) gNl))) y4_ (z0_ 3)) [.dat (dR s),.parD ks vs]=some (ds,[.dat (dR s),.parD ks' vs']))
  (sm1:g5_ [.lst ds]=some (.int (Wy s)))(hv:lkD (w8_ ks' s) (j5_ ks' vs' s (.int (Wy s))) s=some (.int (Wy s))):
  a1C f [.dat (dR s),.parD ks vs]=some (.ret (.int (Wy s)),[.dat (dR s),.parD (w8_ ks' s) (j5_ ks' vs' s (.int (Wy s)))]):=by
 unfold a1C;refine y2_ (e1:=[.dat (dR s),.parD ks vs]) (a0x tst rfl) (y2_ (e1:=[.dat (dR s),.parD (w8_ ks' s) (j5_ ks' vs' s (.int (Wy s)))]) (a1W tin ?_) (a0i ?_))
 ·unfold j8_
  rw[u3_ (x3_ (w7_ cc) rfl) sm1];show(((a0l (dR s)).bind fun k=>if ks'.length<100000 then some ([W.dat (dR s),W.parD (w8_ ks' k) (j5_ ks' vs' k (.int (Wy s)))])else none).map fun e=>(Fl.nx,e))=_
  rw[a1Y,Qj,Qc (hk'.1.len b.hi)];rfl
 ·show((a0l (dR s)).bind fun k=>(lkD _ _ k).map fun d=>(d,_))=_
  rw[a1Y,Qj,hv];rfl
theorem b8I{n:Nat}:∀{k:Nat}{s:List Int},Bt n s->(n:Int)≤s.sum+k->WOk n (j6_ (k+1)) s:=by
 intro k
 induction k with
 |zero=>
  intro s b h ks vs hk;have h0:=b.none (by simpa using h)
  refine⟨ks,vs,(j4_ (d:=.int (Wy s)) (env:=[.dat (dR s),.parD ks vs]) ?_).trans rfl,hk⟩;show a1C (j6_ 0) [.dat (dR s),.parD ks vs]=_;unfold a1C;rw[(b.done h0).2];refine a1Q (a1W (e1:=[.dat (dR s),.parD ks vs]) (a0j (v7_ (a:=.int 0) (b:=dR s) rfl rfl ?_)) rfl);show(ints? (s.map D.int)).map _=_;rw[a1V];show some (D.bl (!s.contains 0))=_;rw[h0];rfl
 |succ k ih=>
  intro s b h ks vs hk;have tst:(mT (z5_ (dIn true) (mC (.int 0)) (z0_ 0))) [.dat (dR s),.parD ks vs]=some (!s.contains 0,[.dat (dR s),.parD ks vs]):=by
   refine a0j (v7_ (a:=.int 0) (b:=dR s) rfl rfl ?_);show(ints? (s.map D.int)).map _=_;rw[a1V];rfl
  cases h0:s.contains 0 with
  |false=>
   refine⟨ks,vs,(j4_ (d:=.int (Wy s)) (env:=[.dat (dR s),.parD ks vs]) ?_).trans rfl,hk⟩;show a1C (j6_ (k+1)) [.dat (dR s),.parD ks vs]=_;unfold a1C;rw[(b.done h0).2];rw[h0]at tst;exact a1Q (a1W (e1:=[.dat (dR s),.parD ks vs]) tst rfl)
  |true=>
   rw[h0]at tst;have tin:(mT (a3f true 1 (z0_ 0))) [.dat (dR s),.parD ks vs]=some (!ks.contains s,[.dat (dR s),.parD ks vs]):=by
    refine a0j ?_
    show((a0l (dR s)).map _)=_;rw[a1Y];rfl
   cases hc:ks.contains s with
   |true=>
    rw[hc]at tin;refine⟨ks,vs,(j4_ (d:=.int (Wy s)) (env:=[.dat (dR s),.parD ks vs]) ?_).trans rfl,hk⟩;show a1C (j6_ (k+1)) [.dat (dR s),.parD ks vs]=_;unfold a1C;refine y2_ (a0x (e1:=[.dat (dR s),.parD ks vs]) tst rfl) (y2_ (a0x (e1:=[.dat (dR s),.parD ks vs]) tin rfl) (a0i ?_));show((a0l (dR s)).bind fun k=>(lkD ks vs k).map fun d=>(d,_))=_
    rw[a1Y,Qj,hk.1.val s hc];rfl
   |false=>
    rw[hc]at tin;obtain⟨ks',vs',e1,hk'⟩:=b1y (f:=j6_ (k+1)) b (fun r hr=>ih (b.row hr).2.2 (by rw[b.next hr];omega)) hk
    have cc:(y0_ (v6_ (mF (x6_ 2 (a1B (j6_ (k+1))) (z7_ (z0_ 0) (k7_ 1 q2_))))) [false,false] 2 (gT 2 (gCn (gN 2) (gCn (gN 3) gNl))) y4_ (z0_ 3)) [.dat (dR s),.parD ks vs]=some ((R s).map fun r=>.int (wt s r),[.dat (dR s),.parD ks' vs']):=by
     obtain⟨w1,w2,q1⟩:=a5l (t:=y4_) (m:=z0_ 3) (base:=[.nil,.nil]) (q:=dR) (q2:=fun r=>D.int (wt s r)) (f:=fun r=>D.int (wt s r)) (p:=fun _=>true) (k:=2) rfl (l:=R s) (fun a _=>⟨rfl,fun _=>rfl⟩) .nil .nil
     rw[Uh.mpr (fun _ _=>rfl)]at q1
     refine a3O (e1:=[.dat (dR s),.parD ks' vs']) (ds:=chD s) ?_ ?_ q1 rfl
     ·exact a1f (w7_ (a0Q ((a4X (i:=1) (w:=.parD ks vs) (c:=.d ks vs) (c':=.d ks' vs') (e1:=[.dat (dR s),.parD ks vs]) (av:=[.d (dR s),.sl 1]) rfl rfl rfl rfl rfl e1 rfl).trans rfl))) rfl
     ·have:=b.few
      unfold chD;rw[Qk];omega
    have sm1:g5_ [.lst ((R s).map fun r=>D.int (wt s r))]=some (.int (Wy s)):=by
     have e:((R s).map fun r=>D.int (wt s r))=((R s).map (wt s)).map D.int:=by rw[Yz];rfl
     rw[e,b0P,b.sum h0];rfl
    have hb:=b.mem
    by_cases hc2:ks'.contains s=true
    ·have hp:KL n (w8_ ks' s) (j5_ ks' vs' s (.int (Wy s)))/\lkD (w8_ ks' s) (j5_ ks' vs' s (.int (Wy s))) s=some (.int (Wy s)):=by
      have:reD ks' vs' s (.int (Wy s))=vs':=b1A hk'.2 (hk'.1.val s hc2) hk'.1.nd;unfold w8_ j5_;rw[hc2];simp only[Zh];rw[this];exact⟨hk',hk'.1.val s hc2⟩
     refine⟨_,_,(j4_ (d:=.int (Wy s)) (env:=[.dat (dR s),.parD (w8_ ks' s) (j5_ ks' vs' s (.int (Wy s)))]) ?_).trans rfl,hp.1⟩;exact b1B b hk' tst tin cc sm1 hp.2
    ·have hc3:ks'.contains s=false:=by simpa using hc2
     have hp:=hk'.put hb hc3
     refine⟨_,_,(j4_ (d:=.int (Wy s)) (env:=[.dat (dR s),.parD (w8_ ks' s) (j5_ ks' vs' s (.int (Wy s)))]) ?_).trans rfl,hp⟩;refine b1B b hk' tst tin cc sm1 (hp.1.val s ?_);unfold w8_;rw[hc3]
     simp
def a1Z(s:List Int):Bool:=a5D (u5_ [.dat (dR s)])==some (R s)
theorem cl1:(bts 1).all a1Z=true:=by decide+kernel
theorem cl2:(bts 2).all a1Z=true:=by decide+kernel
theorem cl3:(bts 3).all a1Z=true:=by decide+kernel
theorem cl4:(bts 4).all a1Z=true:=by decide+kernel
theorem cl5:(bts 5).all a1Z=true:=by decide+kernel
theorem cl6:(bts 6).all a1Z=true:=by decide+kernel
theorem b1C{n:Nat}{s:List Int}(b:Bt n s):u5_ [.dat (dR s)]=some (.l ((R s).map dR),[.dat (dR s)]):=by
 have h:a1Z s=true:=by
  obtain⟨h1,h6,hm⟩:=b
  rcases(by omega:n=1∨n=2∨n=3∨n=4∨n=5∨n=6)with rfl|rfl|rfl|rfl|rfl|rfl
  ·exact Qy.mp cl1 s hm
  ·exact Qy.mp cl2 s hm
  ·exact Qy.mp cl3 s hm
  ·exact Qy.mp cl4 s hm
  ·exact Qy.mp cl5 s hm
  ·exact Qy.mp cl6 s hm
 unfold a1Z at h;obtain⟨w,e⟩:=b1q (Vp h);exact b1r e
abbrev eT:Mo Bool:=mT (z5_ dGt (z0_ 3) (mC (.int 0)))
abbrev eB:Mo Fl:=a1K 2 3 (z2_ (z0_ 3) (z2_ (z5_ u0_ (z0_ 2) (z0_ 3)) z4_))
theorem b1D{d0 d1:W}{a n:Nat}:whl eT eB (n+1) [d0,d1,.dat (.int (a:Int)),.dat (.int 0)]=some (.nx,[d0,d1,.dat (.int (a:Int)),.dat (.int 0)]):=rfl
theorem b1E{d0 d1:W}{a b n:Nat}(hb:0<b):whl eT eB (n+1) [d0,d1,.dat (.int (a:Int)),.dat (.int (b:Int))]=whl eT eB n [d0,d1,.dat (.int (b:Int)),.dat (.int ((a%b:Nat):Int))]:=by
 have h1:eT [d0,d1,.dat (.int (a:Int)),.dat (.int (b:Int))]=some (true,[d0,d1,.dat (.int (a:Int)),.dat (.int (b:Int))]):=by
  show some (decide ((b:Int)>0),_)=_;rw[Zs (by omega)]
 have h2:eB [d0,d1,.dat (.int (a:Int)),.dat (.int (b:Int))]=some (.nx,[d0,d1,.dat (.int (b:Int)),.dat (.int ((a%b:Nat):Int))]):=by
  refine a7k (a:=.int (b:Int)) (b:=.int ((a%b:Nat):Int)) (e1:=[d0,d1,.dat (.int (a:Int)),.dat (.int (b:Int))]) (x3_ rfl (x3_ (v7_ rfl rfl ?_) rfl)) rfl;show(if decide ((0:Int)<(b:Int))=true then some (D.int ((a:Int)%(b:Int)))else none)=_
  rw[Qc (Zs (by omega))]
  rfl
 show(eT _).bind _=_;rw[h1,Qj];dsimp only;rw[Qc rfl,h2]
 rfl
theorem a8d{d0 d1:W}:∀(k a b n:Nat),b<2^k->2 * k+1≤n->whl eT eB n [d0,d1,.dat (.int (a:Int)),.dat (.int (b:Int))]=some (.nx,[d0,d1,.dat (.int ((Nat.gcd a b:Nat):Int)),.dat (.int 0)])
 |k,a,0,n+1,_,_=>by
  rw[Nat.gcd_zero_right];exact b1D
 |0,a,b+1,n,h,_=>by simp at h
 |k+1,a,b+1,n+2,h,hn=>by
  rw[b1E (Nat.succ_pos b)];have hg:Nat.gcd a (b+1)=Nat.gcd (b+1) (a%(b+1)):=by
   rw[Vr a,Nat.gcd_rec,Vr]
  rcases Nat.eq_zero_or_pos (a%(b+1))with hz|hz
  ·rw[hg,hz,Nat.gcd_zero_right]
   exact b1D
  ·rw[b1E hz,hg]
   have hg2:Nat.gcd (b+1) (a%(b+1))=Nat.gcd (a%(b+1)) ((b+1)%(a%(b+1))):=by
    rw[Vr (b+1),Nat.gcd_rec,Vr]
   rw[hg2];refine a8d k _ _ n ?_ (by omega)
   show(b+1)%(a%(b+1))<2^k;have h1:(b+1)%(a%(b+1))<a%(b+1):=Nat.mod_lt _ hz;have h2:a%(b+1)≤b+1:=Jg (Nat.mod_lt _ (Nat.succ_pos b));have h3:(b+1)%(a%(b+1))+(a%(b+1))≤b+1:=by
    have h4:=Nat.mod_add_div (b+1) (a%(b+1))
    have h5:1≤(b+1)/(a%(b+1)):=Nat.div_pos h2 hz
    have h6:=Nat.mul_le_mul_left (a%(b+1)) h5
    omega
   have hp:2^(k+1)=2 * 2^k:=by rw[Nat.pow_succ];omega
   omega
 |k+1,a,b+1,0,_,hn=>by omega
 |k+1,a,b+1,1,_,hn=>by omega
 |k,a,0,0,_,hn=>by omega
def frD(a b:Nat):D:=.tup [.int ((a:Int)/((Nat.gcd a b:Nat):Int)),.int ((b:Int)/((Nat.gcd a b:Nat):Int))]
theorem a5E{a g:Nat}(hg:0<g)(hs:g<2^29):a3j (.int (a:Int)) (.int (g:Int))=some (.int ((a:Int)/(g:Int))):=by
 have h:a3U (a:Int) (g:Int)=true:=by
  unfold a3U;rw[Zs (by omega),PyProof.noPylong_small (by rw[Int.natAbs_natCast];omega)]
  rfl
 show(if a3U (a:Int) (g:Int)=true then some (D.int ((a:Int)/(g:Int)))else none)=_
 rw[Qc h]
theorem b8J{a b:Nat}(ha:0<a)(hb:0<b)(ha2:a<2^29)(hb2:b<2^29):a3n [.dat (.int (a:Int)),.dat (.int (b:Int))]=some (.d (frD a b),[.dat (.int (a:Int)),.dat (.int (b:Int))]):=by
 have hg:0<Nat.gcd a b:=Nat.gcd_pos_of_pos_left _ ha
 have hg2:Nat.gcd a b<2^29:=Ve (Nat.gcd_le_left _ ha) ha2
 refine a4c (env:=[.dat (.int (a:Int)),.dat (.int (b:Int)),.dat (.int ((Nat.gcd a b:Nat):Int)),.dat (.int 0)]) ?_ rfl;show a7N [.dat (.int (a:Int)),.dat (.int (b:Int)),.nil,.nil]=_;unfold a7N;refine y2_ (a7k (a:=.int (a:Int)) (b:=.int (b:Int)) (e1:=[.dat (.int (a:Int)),.dat (.int (b:Int)),.nil,.nil]) (e2:=[.dat (.int (a:Int)),.dat (.int (b:Int)),.dat (.int (a:Int)),.dat (.int (b:Int))]) rfl rfl) ?_
 refine y2_ (a8d 29 a b 60 hb2 (by decide)) ?_
 exact a0i (a4b (x3_ (v7_ rfl rfl (a5E hg hg2)) (x3_ (v7_ rfl rfl (a5E hg hg2)) rfl)) (by simp))
theorem b8K{a b:Nat}(ha:0<a)(hb:0<b)(ha2:a<2^29)(hb2:b<2^29):a3p [.dat (.int (a:Int)),.dat (.int (b:Int))]=some (.d (frD a b),[.dat (.int (a:Int)),.dat (.int (b:Int))]):=by
 have hg:0<Nat.gcd a b:=Nat.gcd_pos_of_pos_left _ ha
 have hg2:Nat.gcd a b<2^29:=Ve (Nat.gcd_le_left _ ha) ha2
 refine a4c (env:=[.dat (.int (a:Int)),.dat (.int (b:Int)),.dat (.int ((Nat.gcd a b:Nat):Int)),.dat (.int 0)]) ?_ rfl;show a7T [.dat (.int (a:Int)),.dat (.int (b:Int)),.nil,.nil]=_;unfold a7T;have eu:=a8d (d0:=.dat (.int (a:Int))) (d1:=.dat (.int (b:Int))) 29 b a 60 ha2 (by decide)
 rw[Vr b a]at eu;refine y2_ (a7k (a:=.int (b:Int)) (b:=.int (a:Int)) (e1:=[.dat (.int (a:Int)),.dat (.int (b:Int)),.nil,.nil]) (e2:=[.dat (.int (a:Int)),.dat (.int (b:Int)),.dat (.int (b:Int)),.dat (.int (a:Int))]) rfl rfl) ?_
 refine y2_ eu ?_
 exact a0i (a4b (x3_ (v7_ rfl rfl (a5E hg hg2)) (x3_ (v7_ rfl rfl (a5E hg hg2)) rfl)) (by simp))
def lot:Nat->OI
 |0=>[[]]
 |k+1=>(lot k).map (fun s=>s++[0])++(lot k).map fun s=>s++[1]
def sl(n:Nat):OI:=(List.range (n+1)).reverse.flatMap fun(k:Nat)=>(lot n).filter fun s=>s.sum==(k:Int)
def a2C(n:Nat):Bool:=(a2z ((lot n).map dR)).bind a3s==some (sl n)
theorem co1:a2C 1=true:=by decide+kernel
theorem co2:a2C 2=true:=by decide+kernel
theorem co3:a2C 3=true:=by decide+kernel
theorem co4:a2C 4=true:=by decide+kernel
theorem co5:a2C 5=true:=by decide+kernel
def Z6:List Int:=[6,5,5,4,5,4,4,3,5,4,4,3,4,3,3,2,5,4,4,3,4,3,3,2,4,3,3,2,3,2,2,1,5,4,4,3,4,3,3,2,4,3,3,2,3,2,2,1,4,3,3,2,3,2,2,1,3,2,2,1,2,1,1,0]
def P6:List Nat:=[63,31,47,55,59,61,62,15,23,27,29,30,39,43,45,46,51,53,54,57,58,60,7,11,13,14,19,21,22,25,26,28,35,37,38,41,42,44,49,50,52,56,3,5,6,9,10,12,17,18,20,24,33,34,36,40,48,1,2,4,8,16,32,0]
theorem z6:((lot 6).map List.sum).reverse=Z6:=by decide+kernel
theorem s6:((a5j 64 fun i j=>decide (Z6.getD i 0<Z6.getD j 0)).map (·.toList)==some P6)=true:=by decide+kernel
theorem p6:(((P6.mapM fun i=>((lot 6).map dR).reverse[i]?).map List.reverse).bind a3s==some (sl 6))=true:=by decide+kernel
theorem l6:(lot 6).length=64:=by decide+kernel
theorem b1F:∀R:OI,rows? (R.map dR)=some R
 |[]=>rfl
 |r::R=>by
  show(ints? (r.map D.int)).bind (fun a=>(rows? (R.map dR)).map fun l=>a::l)=_
  rw[a1V,Qj,b1F R]
  rfl
theorem b8L{n:Nat}(h1:1≤n)(h6:n≤6):a2z ((lot n).map dR)=some ((sl n).map dR):=by
 have key:∀n,a2C n=true->a2z ((lot n).map dR)=some ((sl n).map dR):=fun n h=>by
  unfold a2C at h;obtain⟨ds,e1,e2⟩:=z9_ (Vp h);rw[e1,a5C e2]
 rcases(by omega:n=1∨n=2∨n=3∨n=4∨n=5∨n=6)with rfl|rfl|rfl|rfl|rfl|rfl
 ·exact key 1 co1
 ·exact key 2 co2
 ·exact key 3 co3
 ·exact key 4 co4
 ·exact key 5 co5
 ·obtain⟨p,e1,e2⟩:=Uj.mp (Vp s6)
  obtain⟨ds,e3,e4⟩:=z9_ (Vp p6);unfold a2z;rw[b1F,Qj,l6,Qc (by decide),z6,e1,Qj,e2,Qc (by decide),e3,a5C e4]
def nxt(n:Nat):OI->OI->Bool
 |_,[]=>true
 |pre,h::r=>!pre.contains h&&(bts n).contains h&&((R h).all fun q=>pre.contains (v8_ h q))&&nxt n (pre++[h]) r
def a2a(n:Nat):Bool:=nxt n [] (sl n)&&(bts n).all fun s=>(sl n).contains s
theorem cn1:a2a 1=true:=by decide+kernel
theorem cn2:a2a 2=true:=by decide+kernel
theorem cn3:a2a 3=true:=by decide+kernel
theorem cn4:a2a 4=true:=by decide+kernel
theorem cn5:a2a 5=true:=by decide+kernel
theorem cn6:a2a 6=true:=by decide+kernel
theorem b8M{n:Nat}(h1:1≤n)(h6:n≤6):a2a n=true:=by
 rcases(by omega:n=1∨n=2∨n=3∨n=4∨n=5∨n=6)with rfl|rfl|rfl|rfl|rfl|rfl
 ·exact cn1
 ·exact cn2
 ·exact cn3
 ·exact cn4
 ·exact cn5
 ·exact cn6
theorem b1G:∀{ks:OI}{vs:List D}{k:List Int}{x d:D},ks.length=vs.length->k∉ks->reD (ks++[k]) (vs++[x]) k d=vs++[d]
 |[],[],k,x,d,_,_=>by
  show(if k=k then d::reD [] [] k d else _)=_
  rw[Qc rfl]
  rfl
 |[],_::_,_,_,_,h,_=>by simp at h
 |_::_,[],_,_,_,h,_=>by simp at h
 |a::ks,v::vs,k,x,d,hl,h=>by
  show(if a=k then d::reD (ks++[k]) (vs++[x]) k d else v::reD (ks++[k]) (vs++[x]) k d)=_
  rw[Qs (fun z=>h (by rw[z];exact Zv ..)),b1G (by simpa using hl) fun z=>h (Qa _ z)]
  rfl
theorem b1H:∀{l:List Int},(∀x∈l,x=0∨x=1)->l.contains 0=false->l.sum=l.length
 |[],_,_=>rfl
 |x::l,h,hc=>by
  rw[Ji,Bool.or_eq_false_iff]at hc;have h1:=b1H (fun y hy=>h y (Qa _ hy)) hc.2
  have h2:x=1:=(h x Zv).resolve_left fun z=>by rw[z]at hc;simp at hc
  rw[Jc,h1,h2,Zp]
  omega
abbrev kB:Mo Fl:=(q0_ (j8_ (mCB a3J (z2_ (z5_ (dEq false) (mCB g5_ (z2_ (z0_ 4) z4_)) (z0_ 0)) z4_)) (gSD 3 (z0_ 4))) (y3_ (mT (z5_ dLt (mCB g5_ (z2_ (z0_ 4) z4_)) (z0_ 0))) (j8_ (mCB g5_ (z2_ (mF (y0_ (v6_ (mF (x6_ 1 u5_ (z7_ (z0_ 4) q2_)))) [false,false,false,true,true] 1 (gN 5) y4_ (a5a 3 (mCD 2 g8_ (z7_ (z0_ 4) (z7_ (z0_ 5) q2_)))))) z4_)) (gSD 3 (z0_ 4))) mNx))
theorem b1I(h:List Int):g5_ [dR h]=some (.int h.sum):=by
 show(ints? (h.map D.int)).map _=_;rw[a1V]
 rfl
theorem b8N{n:Nat}{ks:OI}{vs:List D}(hk:KL n ks vs){k h:List Int}{d:D}(hc:ks.contains k=true):lkD (ks++[h]) (vs++[d]) k=some (.int (Wy k)):=a8c (hk.1.val k hc)
theorem b8O{n:Nat}{h:List Int}{ks:OI}{vs:List D}{w1 w2:W}(b:Bt n h)(hk:KL n ks vs)(hn:ks.contains h=false)(hr:∀r∈R h,ks.contains (v8_ h r)=true):
  kB [.dat (.int (n:Int)),w1,w2,.ownD ks vs,.dat (dR h)]=some (.nx,[.dat (.int (n:Int)),w1,w2,.ownD (ks++[h]) (vs++[.int (Wy h)]),.dat (dR h)]):=by
 have hlen:=hk.1.len b.hi
 have hnm:h∉ks:=fun z=>by rw[Yn.mpr z]at hn;cases hn
 have hlen2:(ks++[h]).length<100000:=by
  have:=(hk.put b.mem hn).1.len b.hi;unfold w8_ at this;rw[hn]at this;exact this
 have hc2:(ks++[h]).contains h=true:=Yn.mpr (by simp)
 have st1:∀(m:Mo D) (d:D),m [.dat (.int (n:Int)),w1,w2,.ownD ks vs,.dat (dR h)]=some (d,[.dat (.int (n:Int)),w1,w2,.ownD ks vs,.dat (dR h)])->j8_ m (gSD 3 (z0_ 4)) [.dat (.int (n:Int)),w1,w2,.ownD ks vs,.dat (dR h)]=some (.nx,[.dat (.int (n:Int)),w1,w2,.ownD (ks++[h]) (vs++[d]),.dat (dR h)]):=fun m d e=>by
  unfold j8_;rw[e];show(((a0l (dR h)).bind fun k=>if ks.length<100000 then some ([W.dat (.int (n:Int)),w1,w2,W.ownD (w8_ ks k) (j5_ ks vs k d),W.dat (dR h)])else none).map fun e=>(Fl.nx,e))=_
  rw[a1Y,Qj,Qc hlen];unfold w8_ j5_;rw[hn]
  rfl
 have st2:∀(m:Mo D) (x d:D),m [.dat (.int (n:Int)),w1,w2,.ownD (ks++[h]) (vs++[x]),.dat (dR h)]=some (d,[.dat (.int (n:Int)),w1,w2,.ownD (ks++[h]) (vs++[x]),.dat (dR h)])->j8_ m (gSD 3 (z0_ 4)) [.dat (.int (n:Int)),w1,w2,.ownD (ks++[h]) (vs++[x]),.dat (dR h)]=some (.nx,[.dat (.int (n:Int)),w1,w2,.ownD (ks++[h]) (vs++[d]),.dat (dR h)]):=fun m x d e=>by
  unfold j8_;rw[e];show(((a0l (dR h)).bind fun k=>if(ks++[h]).length<100000 then some ([W.dat (.int (n:Int)),w1,w2,W.ownD (w8_ (ks++[h]) k) (j5_ (ks++[h]) (vs++[x]) k d),W.dat (dR h)])else none).map fun e=>(Fl.nx,e))=_
  rw[a1Y,Qj,Qc hlen2];unfold w8_ j5_;rw[hc2];simp only[Zh];rw[b1G hk.2 hnm]
  rfl
 have hlt:∀vs',mT (z5_ dLt (mCB g5_ (z2_ (z0_ 4) z4_)) (z0_ 0)) [.dat (.int (n:Int)),w1,w2,.ownD (ks++[h]) vs',.dat (dR h)]=some (decide (h.sum<(n:Int)),[.dat (.int (n:Int)),w1,w2,.ownD (ks++[h]) vs',.dat (dR h)]):=fun vs'=>a0j (v7_ (u3_ (x3_ rfl rfl) (b1I h)) rfl rfl)
 have hfirst:mCB a3J (z2_ (z5_ (dEq false) (mCB g5_ (z2_ (z0_ 4) z4_)) (z0_ 0)) z4_) [.dat (.int (n:Int)),w1,w2,.ownD ks vs,.dat (dR h)]=some (.int (if(h.sum==(n:Int))=true then 1 else 0),[.dat (.int (n:Int)),w1,w2,.ownD ks vs,.dat (dR h)]):=
  u3_ (x3_ (v7_ (u3_ (x3_ rfl rfl) (b1I h)) rfl rfl) rfl) rfl
 refine y2_ (st1 _ _ hfirst) ?_
 cases h0:h.contains 0 with
 |true=>
  have hl:h.sum<(n:Int):=by
   rcases Int.lt_or_le h.sum n with z|z
   ·exact z
   ·rw[b.none z]at h0;cases h0
  refine a1W ((hlt _).trans (by rw[Zs hl])) (st2 _ _ _ ?_)
  refine u3_ (x3_ (w7_ (a5k (α:=List Int) (l:=R h) (q:=dR) (f:=fun r=>.int (wt h r)) (base:=[.nil,.nil,.nil,.ownD (ks++[h]) (vs++[.int (if(h.sum==(n:Int))=true then 1 else 0)]),.dat (dR h)]) (a1f (w7_ (a0Q (a0k (av:=[.d (dR h)]) rfl rfl rfl (b1C b)))) rfl) (by have:=b.few;omega) rfl rfl (fun r hr'=>?_) (fun _=>rfl))) rfl) ?_
  ·obtain⟨ws',eh⟩:=a5z (h:=h) (r:=r) (b.row hr').1 (by rw[b.len];exact b.hi)
   have c:=a0y (n:=2) (as:=z7_ (z0_ 4) (z7_ (z0_ 5) q2_)) (env:=[.nil,.nil,.nil,.ownD (ks++[h]) (vs++[.int (if(h.sum==(n:Int))=true then 1 else 0)]),.dat (dR h),.dat (dR r)]) (e1:=[.nil,.nil,.nil,.ownD (ks++[h]) (vs++[.int (if(h.sum==(n:Int))=true then 1 else 0)]),.dat (dR h),.dat (dR r)]) (av:=[.d (dR h),.d (dR r)]) rfl rfl rfl eh
   show(mCD 2 g8_ _ _).bind _=_;rw[show([.nil,.nil,.nil,.ownD (ks++[h]) (vs++[.int (if(h.sum==(n:Int))=true then 1 else 0)]),.dat (dR h)]++[.dat (dR r)]:Env')=[.nil,.nil,.nil,.ownD (ks++[h]) (vs++[.int (if(h.sum==(n:Int))=true then 1 else 0)]),.dat (dR h),.dat (dR r)]from rfl,c,Qj]
   show((a0l (dR (v8_ h r))).bind fun k=>(lkD (ks++[h]) (vs++[.int (if(h.sum==(n:Int))=true then 1 else 0)]) k).map fun d=>(d,_))=_
   rw[a1Y,Qj,b8N hk (hr r hr')]
   rfl
  ·have e:((R h).map fun r=>D.int (wt h r))=((R h).map (wt h)).map D.int:=by rw[Yz];rfl
   rw[e,b0P,b.sum h0];rfl
 |false=>
  have hs:=b1H b.bit h0
  rw[b.len]at hs;refine a0x ((hlt _).trans (by rw[Qr (by omega)])) ?_
  rw[(b.done h0).2,hs]
  simp
  rfl
theorem b1J{n:Nat}(h1:1≤n)(h6:n≤6){w1 w2:W}:∀(l pre:OI) (vs:List D) (w4:W),KL n pre vs->nxt n pre l=true->∃vs' w4',loop (gN 4) kB (l.map dR) [.dat (.int (n:Int)),w1,w2,.ownD pre vs,w4]=some (.nx,[.dat (.int (n:Int)),w1,w2,.ownD (pre++l) vs',w4'])/\KL n (pre++l) vs'
 |[],pre,vs,w4,hk,_=>⟨vs,w4,by rw[Yl];rfl,by rw[Yl];exact hk⟩
 |h::l,pre,vs,w4,hk,hx=>by
  have hx':(!pre.contains h&&(bts n).contains h&&((R h).all fun q=>pre.contains (v8_ h q))&&nxt n (pre++[h]) l)=true:=hx
  rw[Qw,Qw,Qw]at hx';obtain⟨⟨⟨x1,x2⟩,x3⟩,x4⟩:=hx';have hn:pre.contains h=false:=by simpa using x1
  have b:Bt n h:=⟨h1,h6,Yn.mp x2⟩
  have hp:=hk.put b.mem hn
  unfold w8_ j5_ at hp;rw[hn]at hp;simp only[Zz,Yw]at hp;obtain⟨vs',w4',e,hk'⟩:=b1J h1 h6 l (pre++[h]) (vs++[.int (Wy h)]) (.dat (dR h)) hp x4;have t:=b8O (w1:=w1) (w2:=w2) b hk hn fun r hr=>Qy.mp x3 r hr
  have ea:pre++[h]++l=pre++h::l:=by simp
  rw[ea]at e hk';refine⟨vs',w4',?_,hk'⟩;rw[Qh];unfold loop;show(some [W.dat (.int (n:Int)),w1,w2,.ownD pre vs,.dat (dR h)]).bind _=_;rw[Qj,t,Qj];exact e
theorem b1K:∀n,(lot n).length=2^n
 |0=>rfl
 |n+1=>by
  show((lot n).map _++(lot n).map _).length=_;rw[Qt,Qk,Qk,b1K n,Nat.pow_succ];omega
theorem a8e:∀n,∀s∈lot n,s.length=n
 |0,s,h=>by
  have:s=[]:=by simpa [lot]using h
  rw[this];rfl
 |n+1,s,h=>by
  rcases Yy.mp (show s∈(lot n).map (fun s=>s++[0])++(lot n).map (fun s=>s++[1])from h)with h|h
  ·obtain⟨t,ht,rfl⟩:=Qe.mp h
   rw[Qt,a8e n t ht];rfl
  ·obtain⟨t,ht,rfl⟩:=Qe.mp h
   rw[Qt,a8e n t ht];rfl
abbrev lB:Mo Fl:=(v1_ 1 (mF (a4R (mF (y0_ (v6_ (z0_ 1)) [false,false,false,false,false] 1 (gN 5) y4_ (z5_ x2_ (z0_ 5) (q7_ (z2_ (mC (.int 0)) z4_))))) (mF (y0_ (v6_ (z0_ 1)) [false,false,false,false,false] 1 (gN 5) y4_ (z5_ x2_ (z0_ 5) (q7_ (z2_ (mC (.int 1)) z4_))))))))
theorem b8P{s:List Int}{x:Int}(h:s.length≤1000):x2_ (dR s) (.tup [.int x])=some (dR (s++[x])):=by
 have e:dR (s++[x])=.tup (s.map D.int++[.int x]):=by show D.tup _=_;rw[Uc];rfl
 rw[e];show(if(s.map D.int).length+[D.int x].length≤10000 then some (D.tup (s.map D.int++[.int x]))else none)=_
 rw[Qc (by rw[Qk];simp;omega)]
theorem b8Q{n i:Nat}{w0 w2:W}(hi:i<6):lB [w0,.dat (.lst ((lot i).map dR)),w2,.nil,.nil]=some (.nx,[w0,.dat (.lst ((lot (i+1)).map dR)),w2,.nil,.nil]):=by
 have hl:=b1K i
 have h64:2^i≤32:=Nat.pow_le_pow_right (by decide) (show i≤5 by omega)
 have c:∀x:Int,y0_ (v6_ (z0_ 1)) [false,false,false,false,false] 1 (gN 5) y4_ (z5_ x2_ (z0_ 5) (q7_ (z2_ (mC (.int x)) z4_))) [w0,.dat (.lst ((lot i).map dR)),w2,.nil,.nil]=some ((lot i).map fun s=>dR (s++[x]),[w0,.dat (.lst ((lot i).map dR)),w2,.nil,.nil]):=fun x=>
  a5k (α:=List Int) (l:=lot i) (q:=dR) (f:=fun s=>dR (s++[x])) (base:=[.nil,.nil,.nil,.nil,.nil]) (a1f rfl rfl) (by omega) rfl rfl (fun s hs=>v7_ rfl rfl (b8P (by rw[a8e i s hs];omega))) (fun _=>rfl)
 refine a0V (d:=.lst ((lot (i+1)).map dR)) (e1:=[w0,.dat (.lst ((lot i).map dR)),w2,.nil,.nil]) (w7_ ?_) rfl;unfold a4R;rw[w7_ (c 0),Qj,w7_ (c 1),Qj];show(if((lot i).map fun s=>dR (s++[0])).length+((lot i).map fun s=>dR (s++[1])).length≤10000 then some (((lot i).map fun s=>dR (s++[0]))++((lot i).map fun s=>dR (s++[1])),_)else none)=_
 rw[Qc (by rw[Qk,Qk];omega)]
 show some (_,_)=some (((lot i).map (fun s=>s++[0])++(lot i).map fun s=>s++[1]).map dR,_)
 rw[Uc,Yz,Yz]
 rfl
theorem b8R{n:Nat}(h1:1≤n)(h6:n≤6):∃vs ws,a4k [.dat (.int (n:Int))]=some (.d (.dct (sl n) vs),ws)/\∀s∈bts n,lkD (sl n) vs s=some (.int (Wy s)):=by
 have hN:=b8M h1 h6
 unfold a2a at hN;rw[Qw]at hN;obtain⟨w2,hloop⟩:∃w2,loop (gN 2) lB ((List.range n).map fun(i:Nat)=>D.int (i:Int)) [.dat (.int (n:Int)),.dat (.lst [dR []]),.nil,.nil,.nil]=some (.nx,[.dat (.int (n:Int)),.dat (.lst ((lot n).map dR)),w2,.nil,.nil]):=by
  obtain⟨e,he,w2,rfl⟩:=b0O (g:=gN 2) (b:=lB) (n:=n) (fun i e=>∃w2,e=[.dat (.int (n:Int)),.dat (.lst ((lot i).map dR)),w2,.nil,.nil]) (env:=[.dat (.int (n:Int)),.dat (.lst [dR []]),.nil,.nil,.nil]) (fun i hi e ⟨w2,he⟩=>by
   subst he;exact⟨_,_,rfl,b8Q (n:=n) (by omega),_,rfl⟩) ⟨_,rfl⟩
  exact⟨w2,he⟩
 obtain⟨vs,w4,hk,hKL⟩:=b1J h1 h6 (w1:=.dat (.lst ((lot n).map dR))) (w2:=w2) (sl n) [] [] .nil (KL.nil n) hN.1;rw[Vc]at hk hKL;refine⟨vs,_,a4c (env:=[.dat (.int (n:Int)),.dat (.lst ((lot n).map dR)),w2,.dat (.dct (sl n) vs),w4]) ?_ rfl,fun s hs=>hKL.1.val s (Qy.mp hN.2 s hs)⟩
 show a7R [.dat (.int (n:Int)),.nil,.nil,.nil,.nil]=_;unfold a7R;refine y2_ (a0V (d:=.lst [dR []]) (e1:=[.dat (.int (n:Int)),.nil,.nil,.nil,.nil]) (e2:=[.dat (.int (n:Int)),.dat (.lst [dR []]),.nil,.nil,.nil]) rfl rfl) ?_
 refine y2_ ((a1R (a7i (n:=n) rfl rfl (by omega))).trans hloop) ?_
 refine y2_ (e1:=[.dat (.int (n:Int)),.dat (.lst ((lot n).map dR)),w2,.ownD [] [],.nil]) rfl ?_
 have hs:v6_ (mF (a7h (z0_ 1))) [.dat (.int (n:Int)),.dat (.lst ((lot n).map dR)),w2,.ownD [] [],.nil]=some ((sl n).map dR,[.dat (.int (n:Int)),.dat (.lst ((lot n).map dR)),w2,.ownD [] [],.nil]):=by
  refine a1f (ds:=(sl n).map dR) (w7_ (ds:=(sl n).map dR) ?_) rfl;show(a2z ((lot n).map dR)).map _=_;rw[b8L h1 h6]
  rfl
 refine y2_ ((a1R hs).trans hk) ?_
 exact a0i rfl
abbrev zs(n:Nat):List Int:=List.replicate n 0
theorem b1L{α:Type}(a b:α->Int):∀l:List α,List.zipWith (· + ·) (l.map a) (l.map b)=l.map fun x=>a x+b x
 |[]=>rfl
 |x::l=>by rw[Qh,Qh,Ux,b1L a b l,Qh]
abbrev cS(f:OO)(i j:Nat):Int:=S (fun k=>f k j) i
def sI(n:Nat)(f:OO)(i:Nat):List Int:=rw' n (cS f i)
theorem sI0(n:Nat)(f:OO):sI n f 0=zs n:=by
 show(List.range n).map (fun _=>(0:Int))=List.replicate n 0
 rw[List.map_const',Xu]
theorem a8f(n:Nat)(f:OO)(i:Nat):v8_ (sI n f i) (rw' n (f i))=sI n f (i+1):=b1L _ _ _
theorem TabF.bt{n:Nat}{f:OO}(h1:1≤n)(h6:n≤6)(F:TabF n f){i:Nat}(hi:i≤n):Bt n (sI n f i):=by
 refine⟨h1,h6,a8b (by unfold sI;simp) fun x hx=>?_⟩
 obtain⟨j,hj,rfl⟩:=Qe.mp hx;exact F.col j (Yi.mp hj) i hi
theorem TabF.mem{n:Nat}{f:OO}(h1:1≤n)(h6:n≤6)(F:TabF n f){i:Nat}(hi:i<n):rw' n (f i)∈R (sI n f i):=by
 refine b8H (by unfold sI;simp) (F.bt h1 h6 (by omega)).bit ?_ ?_
 ·refine(a5A n (f i) 0).mpr ⟨fun k hk=>?_,?_⟩
  ·have:=F.row i hi (k+1) (by omega)
   omega
  ·have:=F.rowN i hi
   omega
 ·rw[a8f]
  exact(F.bt h1 h6 (by omega)).bit
section
variable{n:Nat}{f:OO}
abbrev fst(n:Nat)(f:OO)(m:Nat):OI:=(List.range m).map fun i=>rw' n (f i)
theorem mbw(h1:1≤n)(h6:n≤6):a5q [.dat (.int (n:Int)),.dat (.int 1),.dat (.int 6),.dat (.str "side")]=some (.d .non,[.dat (.int (n:Int)),.dat (.int 1),.dat (.int 6),.dat (.str "side")]):=by
 rcases(by omega:n=1∨n=2∨n=3∨n=4∨n=5∨n=6)with rfl|rfl|rfl|rfl|rfl|rfl<;>rfl
theorem b8S(h6:n≤6){m:Nat}(hm:m≤n):a5s [.dat (dT (fst n f m)),.dat (.int (n:Int))]=some (.d (.bl true),[.dat (dT (fst n f m)),.dat (.int (n:Int))]):=by
 have hg:=b7Z (dT (fst n f m)) (m:Int) (n:Int) (by omega) (by omega)
 have ht:isG (dT (fst n f m)) (m:Int) (n:Int)=true:=by
  show((((fst n f m).map dR).length:Int)==(m:Int)&&((fst n f m).map dR).all fun r=>isR r (n:Int))=true
  rw[Qw];refine⟨by simp,List.all_eq_true.mpr fun d hd=>?_⟩
  obtain⟨r,hr,rfl⟩:=Qe.mp hd;obtain⟨i,_,rfl⟩:=Qe.mp hr;have:=b0Y (rw' n (f i));rwa [show((rw' n (f i)).length:Int)=(n:Int) by simp]at this
 rw[ht]at hg;have hl:k3_ [dT (fst n f m)]=some (.int (m:Int)):=by
  show some (D.int _)=_;rw[Qk];simp
 generalize fst n f m=X at *;refine a4c (env:=[.dat (dT X),.dat (.int (n:Int))]) ?_ rfl;show a7K [.dat (dT X),.dat (.int (n:Int))]=_;unfold a7K;exact a0i (a5n rfl (a0y (av:=[.d (dT X),.d (.int (m:Int)),.d (.int (n:Int))]) (a1u rfl (a1u (u3_ (x3_ rfl rfl) hl) rfl)) rfl rfl hg))
theorem b1M{T:List Int}:∀{L:OI},T∈L->((x5_ (L.map dR)).any fun y=>PyData.eqv y (toP (dR T)))=true
 |[],h=>by cases h
 |V::L,h=>by
  show(PyData.eqv (toP (dR V)) (toP (dR T))||(x5_ (L.map dR)).any fun y=>PyData.eqv y (toP (dR T)))=true
  rcases Qn.mp h with rfl|h
  ·rw[b8G];simp
  ·rw[b1M h,Bool.or_true]
theorem b8T{s:List Int}(b:Bt n s){r:List Int}(hr:r∈R s):a3Q true (dR r) (.lst ((R s).map dR))=some (.bl false):=by
 show(if _ then _ else _)=_
 rw[b8F,b1n,b1M hr];have hd:(toP (dR r)).depth≤60:=by
  show PyData.depthAll (x5_ (r.map D.int))+1≤60;rw[a3q,a7W];omega
 rw[Zs hd]
 rfl
theorem b8U(h1:1≤n)(h6:n≤6)(F:TabF n f){m:Nat}(hm:m≤n):∃ws,a5u [.dat (.int (n:Int)),.dat (dT (fst n f m))]=some (.d (dR (sI n f m)),ws):=by
 have hi:=b8S (f:=f) h6 hm
 obtain⟨w,hl⟩:∃w,loop (gN 3) (q0_ (y3_ (mT (z5_ (a3Q true) (z0_ 3) (mF (x6_ 1 a1i (z7_ (z0_ 2) q2_))))) a2P mNx) (v1_ 2 (mCD 2 a1j (z7_ (z0_ 2) (z7_ (z0_ 3) q2_))))) ((fst n f m).map dR) [.dat (.int (n:Int)),.dat (dT (fst n f m)),.dat (dR (sI n f 0)),.nil]=some (.nx,[.dat (.int (n:Int)),.dat (dT (fst n f m)),.dat (dR (sI n f m)),w]):=by
  obtain⟨e,he,w,rfl⟩:=a4a (g:=gN 3) (b:=(q0_ (y3_ (mT (z5_ (a3Q true) (z0_ 3) (mF (x6_ 1 a1i (z7_ (z0_ 2) q2_))))) a2P mNx) (v1_ 2 (mCD 2 a1j (z7_ (z0_ 2) (z7_ (z0_ 3) q2_)))))) (ds:=(fst n f m).map dR) (P:=fun i e=>∃w,e=[.dat (.int (n:Int)),.dat (dT (fst n f m)),.dat (dR (sI n f i)),w]) (env:=[.dat (.int (n:Int)),.dat (dT (fst n f m)),.dat (dR (sI n f 0)),.nil]) (fun i d e hd ⟨w,he⟩=>by
   subst he;rw[Zj,Zj]at hd;have hi:i<m:=by
    rcases Nat.lt_or_ge i m with z|z
    ·exact z
    ·rw[Vb (by simpa using z)]at hd;cases hd
   rw[Vi hi]at hd;cases hd;have b:=F.bt h1 h6 (i:=i) (by omega)
   have hr:=F.mem h1 h6 (i:=i) (by omega)
   have er:=b1u b
   have ea:=b1v b hr
   have ei:=b8T b hr
   rw[a8f]at ea;generalize dR (sI n f i)=A at *;refine⟨[.dat (.int (n:Int)),.dat (dT (fst n f m)),.dat A,.dat (dR (rw' n (f i)))],_,rfl,y2_ (a0x (a0j (v7_ rfl (w7_ (a0Q (a0k (av:=[.d A]) rfl rfl rfl er))) ei)) rfl) (a0V (d:=dR (sI n f (i+1))) (e1:=[.dat (.int (n:Int)),.dat (dT (fst n f m)),.dat A,.dat (dR (rw' n (f i)))]) (e2:=[.dat (.int (n:Int)),.dat (dT (fst n f m)),.dat (dR (sI n f (i+1))),.dat (dR (rw' n (f i)))]) (a0y (av:=[.d A,.d (dR (rw' n (f i)))]) rfl rfl rfl ea) rfl),_,rfl⟩) ⟨_,rfl⟩
  rw[Qk,Qk,Xu]at he;exact⟨w,he⟩
 have hz:w4_ (.tup [.int 0]) (.int (n:Int))=some (dR (sI n f 0)):=by
  rw[sI0]
  rcases(by omega:n=1∨n=2∨n=3∨n=4∨n=5∨n=6)with rfl|rfl|rfl|rfl|rfl|rfl<;>rfl
 refine⟨_,a4c (env:=[.dat (.int (n:Int)),.dat (dT (fst n f m)),.dat (dR (sI n f m)),w]) ?_ rfl⟩;show a7L [.dat (.int (n:Int)),.dat (dT (fst n f m)),.nil,.nil]=_;unfold a7L;refine y2_ (b5K (a0y (av:=[.d (.int (n:Int)),.d (.int 1),.d (.int 6),.d (.str "side")]) rfl rfl rfl (mbw h1 h6))) ?_
 refine y2_ (a0x (a9R (b:=true) (a0j (a0y (av:=[.d (dT (fst n f m)),.d (.int (n:Int))]) rfl rfl rfl hi))) rfl) ?_
 refine y2_ (a0V (d:=dR (sI n f 0)) (e1:=[.dat (.int (n:Int)),.dat (dT (fst n f m)),.nil,.nil]) (e2:=[.dat (.int (n:Int)),.dat (dT (fst n f m)),.dat (dR (sI n f 0)),.nil]) (v7_ rfl rfl hz) rfl) ?_
 exact y2_ ((a1R (a1f rfl rfl)).trans hl) (a0i rfl)
end
theorem t64:(T64.all fun x=>decide (0≤x)&&decide (x≤7436))=true:=by decide+kernel
theorem b1N(s:List Int):0≤Wy s/\Wy s≤7436:=by
 unfold Wy;rw[Ug];cases h:T64[64-2^s.length+idx s]? with
 |none=>exact⟨by decide,by decide⟩
 |some x=>
  have:=Qy.mp t64 x (Jp h)
  simpa using this
theorem b8V{n:Nat}{s:List Int}(b:Bt n s):1≤Wy s:=by
 have h:=b.all.1
 unfold a0J at h;simp only[Qw,Zy]at h;exact h.2
def Wn(s:List Int):Nat:=(Wy s).toNat
theorem a3t(s:List Int):((Wn s:Nat):Int)=Wy s:=Int.toNat_of_nonneg (b1N s).1
theorem a5F{n:Nat}{s:List Int}(b:Bt n s):0<Wn s/\Wn s<2^29:=by
 have h1:=a3t s
 have h2:=b8V b
 have h3:=(b1N s).2
 omega
def duD(s:List Int):List D:=(R s).map fun r=>.tup [dR r,frD (Wn (v8_ s r)) (Wn s)]
section
variable{n:Nat}{f:OO}
theorem b1O:∀{l:List Int},(∀x∈l,x=0∨x=1)->0≤l.sum
 |[],_=>by simp
 |x::l,h=>by
  have:=b1O fun y hy=>h y (Qa _ hy)
  have:=h x Zv;rw[Jc];omega
theorem b1P{s:List Int}(b:Bt n s):WOk n (j6_ 8) s:=b8I (k:=7) b (by have:=b1O b.bit;have:=b.hi;omega)
theorem a8g(h1:1≤n)(h6:n≤6)(F:TabF n f){m:Nat}(hm:m≤n):∃ws,a0I [.dat (.int (n:Int)),.dat (dT (fst n f m))]=some (.l (duD (sI n f m)),ws):=by
 obtain⟨wb,hb⟩:=b8U h1 h6 F hm;have b:=F.bt h1 h6 hm;generalize sI n f m=s at *;generalize dT (fst n f m)=A at *;obtain⟨ks,vs,e1,hk⟩:=b1P b [] [] (KL.nil n);obtain⟨ks2,vs2,e2,hk2⟩:=b1y (f:=j6_ 8) b (fun r hr=>b1P (b.row hr).2.2) hk
 have hW:=a5F b
 have hWs:=a3t s
 refine⟨_,b7f (env:=[.dat (.int (n:Int)),.dat A,.dat (dR s),.ownD ks2 vs2,.dat (.int (Wy s))]) ?_ rfl⟩;show a7O [.dat (.int (n:Int)),.dat A,.nil,.nil,.nil]=_;unfold a7O;refine y2_ (a0V (d:=dR s) (e1:=[.dat (.int (n:Int)),.dat A,.nil,.nil,.nil]) (e2:=[.dat (.int (n:Int)),.dat A,.dat (dR s),.nil,.nil]) (a0y (av:=[.d (.int (n:Int)),.d A]) rfl rfl rfl hb) rfl) ?_
 refine y2_ (e1:=[.dat (.int (n:Int)),.dat A,.dat (dR s),.ownD [] [],.nil]) rfl ?_
 refine y2_ (a0V (d:=.int (Wy s)) (e1:=[.dat (.int (n:Int)),.dat A,.dat (dR s),.ownD ks vs,.nil]) (e2:=[.dat (.int (n:Int)),.dat A,.dat (dR s),.ownD ks vs,.dat (.int (Wy s))]) (a0P ((a4X (i:=3) (w:=.ownD [] []) (c:=.d [] []) (c':=.d ks vs) (e1:=[.dat (.int (n:Int)),.dat A,.dat (dR s),.ownD [] [],.nil]) (av:=[.d (dR s),.sl 3]) rfl rfl rfl rfl rfl e1 rfl).trans rfl)) rfl) ?_
 refine a6K ?_
 have hel:∀r∈R s,q7_ (z2_ (z0_ 5) (z2_ (mCD 2 a3n (z7_ (z0_ 6) (z7_ (z0_ 4) q2_))) z4_)) ([.nil,.nil,.nil,.nil,.dat (.int (Wy s))]++[.dat (dR r),.dat (.int (wt s r))])=some (.tup [dR r,frD (Wn (v8_ s r)) (Wn s)],[.nil,.nil,.nil,.nil,.dat (.int (Wy s))]++[.dat (dR r),.dat (.int (wt s r))]):=fun r hr=>by
  have b2:=(b.row hr).2.2
  have hW2:=a5F b2
  have ef:=b8J hW2.1 hW.1 hW2.2 hW.2
  rw[a3t,a3t]at ef;exact a4b (x3_ rfl (x3_ (a0y (av:=[.d (.int (wt s r)),.d (.int (Wy s))]) rfl rfl rfl ef) rfl)) (by simp)
 obtain⟨w1,w2,q1⟩:=a5l (t:=y4_) (m:=q7_ (z2_ (z0_ 5) (z2_ (mCD 2 a3n (z7_ (z0_ 6) (z7_ (z0_ 4) q2_))) z4_))) (base:=[.nil,.nil,.nil,.nil,.dat (.int (Wy s))]) (q:=dR) (q2:=fun r=>D.int (wt s r)) (f:=fun r=>.tup [dR r,frD (Wn (v8_ s r)) (Wn s)]) (p:=fun _=>true) (k:=5) rfl (l:=R s) (fun r hr=>⟨rfl,fun _=>hel r hr⟩) .nil .nil
 rw[Uh.mpr (fun _ _=>rfl)]at q1
 refine a3O (e1:=[.dat (.int (n:Int)),.dat A,.dat (dR s),.ownD ks2 vs2,.dat (.int (Wy s))]) (ds:=chD s) ?_ ?_ q1 rfl
 ·exact a1f (w7_ (a0Q ((a4X (i:=3) (w:=.ownD ks vs) (c:=.d ks vs) (c':=.d ks2 vs2) (e1:=[.dat (.int (n:Int)),.dat A,.dat (dR s),.ownD ks vs,.dat (.int (Wy s))]) (av:=[.d (dR s),.sl 3]) rfl rfl rfl rfl rfl e2 rfl).trans rfl))) rfl
 ·have:=b.few
  unfold chD;rw[Qk];omega
end
theorem a8h(k:Nat)(i:Int):w0_ (k+1) [.dat (.int i),.dat (.int i)]=some (.d (.bl true),[.dat (.int i),.dat (.int i)]):=by
 refine(j4_ (d:=.bl true) (env:=[.dat (.int i),.dat (.int i)]) ?_).trans rfl;show a2B (w0_ k) [.dat (.int i),.dat (.int i)]=_;unfold a2B;refine y2_ (a0x rfl rfl) (a0i ?_);have e:(z5_ (dEq false) (z0_ 0) (z0_ 1)) [.dat (.int i),.dat (.int i)]=some (.bl (i==i),[.dat (.int i),.dat (.int i)]):=rfl;rw[Xf]at e;exact a5n e rfl
theorem a8i{k:Nat}{es:List D}(hl:es.length≤1000)(h:∀x∈es,∃ws,w0_ k [.dat x,.dat x]=some (.d (.bl true),ws)):∃ws,w0_ (k+1) [.dat (.tup es),.dat (.tup es)]=some (.d (.bl true),ws):=by
 refine⟨_,(j4_ (d:=.bl true) (env:=[.dat (.tup es),.dat (.tup es)]) ?_)⟩;show a2B (w0_ k) [.dat (.tup es),.dat (.tup es)]=_;unfold a2B;refine a1Q (a1W (e1:=[.dat (.tup es),.dat (.tup es)]) rfl (y2_ (e1:=[.dat (.tup es),.dat (.tup es)]) (a0x (e1:=[.dat (.tup es),.dat (.tup es)]) rfl rfl) (a0i ?_)));have e1:(z5_ (dEq false) (mCB k3_ (z2_ (z0_ 0) z4_)) (mCB k3_ (z2_ (z0_ 1) z4_))) [.dat (.tup es),.dat (.tup es)]=some (.bl ((es.length:Int)==(es.length:Int)),[.dat (.tup es),.dat (.tup es)]):=rfl;have c:=a5m (mi:=a1e (z2_ (z0_ 0) (z2_ (z0_ 1) z4_))) (keep:=[false,false]) (m:=mCD 2 (w0_ k) (z7_ (z0_ 2) (z7_ (z0_ 3) q2_))) (env:=[.dat (.tup es),.dat (.tup es)]) (base:=[.nil,.nil]) (l:=es) (q:=fun p=>p) (q2:=fun p=>p) (f:=fun p=>.bl true) (k:=2) (b7e (a:=.tup es) (b:=.tup es) rfl (by show some es=some (es.map fun p=>p);simp) (by show some es=some (es.map fun p=>p);simp)) (by omega) rfl rfl (fun p hp=>by
   obtain⟨ws,q⟩:=h p hp;exact a0y (av:=[.d p,.d p]) rfl rfl rfl q) (fun w w2=>rfl)
 refine(a5n (e1.trans ?_) (u3_ (d:=.bl true) (x3_ (w7_ c) rfl) ?_))
 ·rw[Xf]
 ·show(a0D _).map _=_
  rw[a3N]
  simp
theorem b8W{k:Nat}{es:List D}(hl:es.length≤1000)(h:∀x∈es,∃ws,w0_ k [.dat x,.dat x]=some (.d (.bl true),ws)):w0_ (k+1) [.dat (.lst es),.dat (.lst es)]=some (.d (.bl true),[.dat (.lst es),.dat (.lst es)]):=by
 refine(j4_ (d:=.bl true) (env:=[.dat (.lst es),.dat (.lst es)]) ?_).trans rfl;show a2B (w0_ k) [.dat (.lst es),.dat (.lst es)]=_;unfold a2B;refine a1Q (a1W (e1:=[.dat (.lst es),.dat (.lst es)]) rfl (y2_ (e1:=[.dat (.lst es),.dat (.lst es)]) (a0x (e1:=[.dat (.lst es),.dat (.lst es)]) rfl rfl) (a0i ?_)));have e1:(z5_ (dEq false) (mCB k3_ (z2_ (z0_ 0) z4_)) (mCB k3_ (z2_ (z0_ 1) z4_))) [.dat (.lst es),.dat (.lst es)]=some (.bl ((es.length:Int)==(es.length:Int)),[.dat (.lst es),.dat (.lst es)]):=rfl;rw[Xf]at e1;have z:a0E es es=es.map fun a=>.tup [a,a]:=by have:=b0Q es id id;simpa using this
 have c:=a5m (mi:=a1e (z2_ (z0_ 0) (z2_ (z0_ 1) z4_))) (keep:=[false,false]) (m:=mCD 2 (w0_ k) (z7_ (z0_ 2) (z7_ (z0_ 3) q2_))) (env:=[.dat (.lst es),.dat (.lst es)]) (base:=[.nil,.nil]) (l:=es) (q:=fun p=>p) (q2:=fun p=>p) (f:=fun _=>.bl true) (k:=2) (by rw[←z];rfl) (by omega) rfl rfl (fun p hp=>by
   obtain⟨ws,q⟩:=h p hp;exact a0y (av:=[.d p,.d p]) rfl rfl rfl q) (fun w w2=>rfl)
 refine a5n e1 (u3_ (d:=.bl true) (x3_ (w7_ c) rfl) ?_);show(a0D _).map _=_;rw[a3N];simp
theorem b8X{k:Nat}{r:List Int}(h:r.length≤1000):∃ws,w0_ (k+2) [.dat (dR r),.dat (dR r)]=some (.d (.bl true),ws):=
 a8i (k:=k+1) (by rw[Qk];exact h) fun z hz=>by
  obtain⟨i,_,rfl⟩:=Qe.mp hz;exact⟨_,a8h k i⟩
theorem b8Y(k a b:Nat):∃ws,w0_ (k+2) [.dat (frD a b),.dat (frD a b)]=some (.d (.bl true),ws):=
 a8i (k:=k+1) (by show 2≤1000;omega) fun z hz=>by
  rcases Qn.mp hz with rfl|hz
  ·exact⟨_,a8h k _⟩
  ·rw[List.mem_singleton.mp hz];exact⟨_,a8h k _⟩
theorem b8Z{s:List Int}(h:(R s).length≤1000)(h2:∀r∈R s,r.length≤1000):w0_ 6 [.dat (.lst (duD s)),.dat (.lst (duD s))]=some (.d (.bl true),[.dat (.lst (duD s)),.dat (.lst (duD s))]):=
 b8W (k:=5) (by unfold duD;rw[Qk];exact h) fun x hx=>by
  obtain⟨r,hr,rfl⟩:=Qe.mp hx;exact a8i (k:=4) (by show 2≤1000;omega) fun z hz=>by
   rcases Qn.mp hz with rfl|hz
   ·exact b8X (k:=2) (h2 r hr)
   ·rw[List.mem_singleton.mp hz];exact b8Y 2 _ _
theorem b9a{n:Nat}{f:OO}{m:Nat}(hm:m≤n):(gm n n f).take m=fst n f m:=by
 unfold gm fst;rw[←List.map_take,List.take_range,Nat.min_eq_left hm]
theorem b9b{n:Nat}{f:OO}{m:Nat}(hm:m≤n):a1r ((gm n n f).map dR) none (some (m:Int))=(fst n f m).map dR:=by
 have hl:((gm n n f).map dR).length=n:=by rw[Qk,a3r]
 have h:HT.sIx n n (some (m:Int))=m:=by
  rw[HT.sIx_nat];exact Nat.min_eq_left hm
 have h0:HT.sIx n 0 none=0:=rfl
 unfold a1r;rw[hl,h,h0,←b9a hm,List.map_take]
 rfl
theorem b1Q{n i j:Nat}{f:OO}{m:Nat}{e:Env'}(hm:m≤n)(h1:z0_ i e=some (dT (gm n n f),e))(h2:z0_ j e=some (.int (m:Int),e)):mSl (z0_ i) a1s (a1t (z0_ j)) e=some (dT (fst n f m),e):=by
 unfold mSl a1s a1t;rw[h1,Qj];dsimp only;rw[Qj,h2,Qj];show some (D.tup (a1r ((gm n n f).map dR) none (some (m:Int))),e)=_;rw[b9b hm]
 rfl
theorem b9c{n:Nat}{f:OO}(F:TabF n f):sI n f n=List.replicate n 1:=by
 rw[List.eq_replicate_iff];refine⟨by unfold sI;simp,fun x hx=>?_⟩
 obtain⟨j,hj,rfl⟩:=Qe.mp hx;exact F.colN j (Yi.mp hj)
theorem b9d:∀n,n≤6->1≤n->R (List.replicate n 1)=[]:=by decide
theorem b1R{n:Nat}{f:OO}(h1:1≤n)(h6:n≤6)(F:TabF n f):duD (sI n f n)=[]:=by
 unfold duD;rw[b9c F,b9d n h6 h1]
 rfl
section
variable{n:Nat}{f:OO}{w0 w1 w2 w3 w4 w5 w6 w8 w9 w10 w11:W}
abbrev heB:Mo Fl:=v1_ 7 (mCD 2 g8_ (z7_ (z0_ 7) (z7_ (z0_ 8) q2_)))
theorem b9e(h1:1≤n)(h6:n≤6){m:Nat}(hm:m≤n):∃w,loop (gN 8) heB ((fst n f m).map dR) [w0,w1,w2,w3,w4,w5,w6,.dat (dR (sI n f 0)),w8,w9,w10,w11]=some (.nx,[w0,w1,w2,w3,w4,w5,w6,.dat (dR (sI n f m)),w,w9,w10,w11]):=by
 obtain⟨e,he,w,rfl⟩:=a4a (g:=gN 8) (b:=heB) (ds:=(fst n f m).map dR) (P:=fun i e=>∃w,e=[w0,w1,w2,w3,w4,w5,w6,.dat (dR (sI n f i)),w,w9,w10,w11]) (env:=[w0,w1,w2,w3,w4,w5,w6,.dat (dR (sI n f 0)),w8,w9,w10,w11]) (fun i d e hd ⟨w,he⟩=>by
  subst he;rw[Zj,Zj]at hd;have hi:i<m:=by
   rcases Nat.lt_or_ge i m with z|z
   ·exact z
   ·rw[Vb (by simpa using z)]at hd;cases hd
  rw[Vi hi]at hd;cases hd;obtain⟨ws,eh⟩:=a5z (h:=sI n f i) (r:=rw' n (f i)) (by unfold sI;simp) (by unfold sI;simpa using h6)
  rw[a8f]at eh;generalize dR (sI n f i)=A at *;exact⟨[w0,w1,w2,w3,w4,w5,w6,.dat A,.dat (dR (rw' n (f i))),w9,w10,w11],_,rfl,a0V (d:=dR (sI n f (i+1))) (e1:=[w0,w1,w2,w3,w4,w5,w6,.dat A,.dat (dR (rw' n (f i))),w9,w10,w11]) (e2:=[w0,w1,w2,w3,w4,w5,w6,.dat (dR (sI n f (i+1))),.dat (dR (rw' n (f i))),w9,w10,w11]) (a0y (av:=[.d A,.d (dR (rw' n (f i)))]) rfl rfl rfl eh) rfl,_,rfl⟩) ⟨_,rfl⟩
 rw[Qk,Qk,Xu]at he;exact⟨w,he⟩
end
section
variable{n:Nat}{s:List Int}{w0 w1 w2 w3 w5 w6 w8 w9 w10 w11:W}
abbrev duM:Mo D:=q7_ (z2_ (z0_ 12) (z2_ (mCD 2 a3p (z7_ (z5_ a1w (z0_ 4) (mCD 2 g8_ (z7_ (z0_ 7) (z7_ (z0_ 12) q2_)))) (z7_ (z5_ a1w (z0_ 4) (z0_ 7)) q2_))) z4_))
abbrev dC:Mo (List D):=y0_ (v6_ (mF (x6_ 1 u5_ (z7_ (z0_ 7) q2_)))) [false,false,false,false,true,false,false,true,false,false,false,false] 1 (gN 12) y4_ duM
theorem b1S{ks:OI}{vs:List D}(hv:∀s∈bts n,lkD ks vs s=some (.int (Wy s)))(b:Bt n s):a1w (.dct ks vs) (dR s)=some (.int (Wy s)):=by
 show(a0l (dR s)).bind _=_;rw[a1Y,Qj];exact hv s b.mem
theorem b9f{ks:OI}{vs:List D}(hv:∀s∈bts n,lkD ks vs s=some (.int (Wy s)))(b:Bt n s)(hl:s.length≤6):dC [w0,w1,w2,w3,.dat (.dct ks vs),w5,w6,.dat (dR s),w8,w9,w10,w11]=some (duD s,[w0,w1,w2,w3,.dat (.dct ks vs),w5,w6,.dat (dR s),w8,w9,w10,w11]):=by
 have hW:=a5F b
 have er:=b1C b
 have g1:=b1S hv b
 have hel:∀r∈R s,duM ([.nil,.nil,.nil,.nil,.dat (.dct ks vs),.nil,.nil,.dat (dR s),.nil,.nil,.nil,.nil]++[.dat (dR r)])=some (.tup [dR r,frD (Wn (v8_ s r)) (Wn s)],[.nil,.nil,.nil,.nil,.dat (.dct ks vs),.nil,.nil,.dat (dR s),.nil,.nil,.nil,.nil]++[.dat (dR r)]):=fun r hr=>by
  obtain⟨hlr,_,b2⟩:=b.row hr;have hW2:=a5F b2;have g2:=b1S hv b2;obtain⟨ws,eh⟩:=a5z hlr hl;have ec:=b8K hW2.1 hW.1 hW2.2 hW.2;rw[a3t,a3t]at ec;generalize D.dct ks vs=C at *;generalize dR (v8_ s r)=A2 at *;generalize dR s=A at *;generalize dR r=A3 at *;refine a4b (x3_ rfl (x3_ (a0y (av:=[.d (.int (Wy (v8_ s r))),.d (.int (Wy s))]) (a1u (v7_ rfl (a0y (av:=[.d A,.d A3]) rfl rfl rfl eh) g2) (a1u (v7_ rfl rfl g1) rfl)) rfl rfl ec) rfl)) (by simp)
 have hf:=b.few
 generalize hC:D.dct ks vs=C at *;refine a5k (base:=[.nil,.nil,.nil,.nil,.dat C,.nil,.nil,.dat (dR s),.nil,.nil,.nil,.nil]) (l:=R s) (q:=dR) (f:=fun r=>.tup [dR r,frD (Wn (v8_ s r)) (Wn s)]) (k:=12) ?_ (by omega) rfl rfl hel (fun w=>rfl)
 generalize dR s=A at *;exact a1f (w7_ (a0Q (a0k (av:=[.d A]) rfl rfl rfl er))) rfl
end
section
variable{n:Nat}{f:OO}{w0 w1 w2 w4 w7 w8 w9 w10 w11:W}
abbrev tB:Mo Fl:=q0_ (w5_ 11 (x6_ 2 a0I (z7_ (z0_ 3) (z7_ (mSl (z0_ 5) a1s (a1t (z0_ 6))) q2_)))) (q0_ (y3_ (u8_ (mT (a3h 2 (w0_ 6) [11,9]))) (y9_ (mC (.bl false))) mNx) (a1p 11 (q7_ z4_)))
theorem b9g(h1:1≤n)(h6:n≤6)(F:TabF n f){m:Nat}(hm:m≤n)(h9:w9.view=some (.lst (duD (sI n f m)))):∃w,tB [w0,w1,w2,.dat (.int (n:Int)),w4,.dat (dT (gm n n f)),.dat (.int (m:Int)),w7,w8,w9,w10,w11]=some (.nx,[w0,w1,w2,.dat (.int (n:Int)),w4,.dat (dT (gm n n f)),.dat (.int (m:Int)),w7,w8,w9,w10,w]):=by
 obtain⟨ws,en⟩:=a8g h1 h6 F hm;have b:=F.bt h1 h6 hm;have hs:=b1Q (i:=5) (j:=6) (f:=f) (e:=[w0,w1,w2,.dat (.int (n:Int)),w4,.dat (dT (gm n n f)),.dat (.int (m:Int)),w7,w8,w9,w10,w11]) hm rfl rfl;have hf:=b.few;have hsm:=b8Z (s:=sI n f m) (by omega) (fun r hr=>by
  have:=(b.row hr).1;have:=b.len
  omega)
 have hlen:(duD (sI n f m)).length<100000:=by unfold duD;rw[Qk];omega
 generalize duD (sI n f m)=O at *;generalize dT (gm n n f)=T at *;generalize dT (fst n f m)=U at *;refine⟨.own (O++[.tup []]),y2_ (a7j (e1:=[w0,w1,w2,.dat (.int (n:Int)),w4,.dat T,.dat (.int (m:Int)),w7,w8,w9,w10,w11]) (e2:=[w0,w1,w2,.dat (.int (n:Int)),w4,.dat T,.dat (.int (m:Int)),w7,w8,w9,w10,.own O]) (a0Q (a0k (av:=[.d (.int (n:Int)),.d U]) (a1u rfl (a1u hs rfl)) rfl rfl en)) rfl) (y2_ (e1:=[w0,w1,w2,.dat (.int (n:Int)),w4,.dat T,.dat (.int (m:Int)),w7,w8,w9,w10,.own O]) ?_ ((b7b (w:=.own O) (w':=.own O) rfl rfl rfl rfl rfl hlen).trans rfl))⟩;refine a0x (a9R (b:=true) (a0j (?_:a3h 2 (w0_ 6) [11,9] [w0,w1,w2,.dat (.int (n:Int)),w4,.dat T,.dat (.int (m:Int)),w7,w8,w9,w10,.own O]=some (.bl true,[w0,w1,w2,.dat (.int (n:Int)),w4,.dat T,.dat (.int (m:Int)),w7,w8,w9,w10,.own O])))) rfl;have hv:a3g [w0,w1,w2,.dat (.int (n:Int)),w4,.dat T,.dat (.int (m:Int)),w7,w8,w9,w10,.own O] [11,9]=some [.lst O,.lst O]:=by
  show(some (D.lst O)).bind _=_
  simp[a3g,h9]
 unfold a3h;rw[hv,Qj,Qc (show[D.lst O,D.lst O].length=2 from rfl)]
 show(w0_ 6 [.dat (.lst O),.dat (.lst O)]).bind _=_;rw[hsm]
 rfl
end
section
variable{n:Nat}{f:OO}{w0 w1 w2 w4 w7 w8 w9 w10 w11:W}
theorem b9h(h1:1≤n)(h6:n≤6)(F:TabF n f){m:Nat}(hm:m≤n)(h9:w9.view=some (.lst (duD (sI n f m)))):∃x10 x11,w6_ (a0q (z2_ (mC (.int 2)) z4_)) (gN 10) tB [w0,w1,w2,.dat (.int (n:Int)),w4,.dat (dT (gm n n f)),.dat (.int (m:Int)),w7,w8,w9,w10,w11]=some (.nx,[w0,w1,w2,.dat (.int (n:Int)),w4,.dat (dT (gm n n f)),.dat (.int (m:Int)),w7,w8,w9,x10,x11]):=by
 rw[a1R (a7i (M:=mC (.int 2)) (n:=2) (e1:=[w0,w1,w2,.dat (.int (n:Int)),w4,.dat (dT (gm n n f)),.dat (.int (m:Int)),w7,w8,w9,w10,w11]) rfl rfl (by decide))]
 obtain⟨e,he,x10,x11,rfl⟩:=a4a (g:=gN 10) (b:=tB) (ds:=rgD 2) (P:=fun i e=>∃x10 x11,e=[w0,w1,w2,.dat (.int (n:Int)),w4,.dat (dT (gm n n f)),.dat (.int (m:Int)),w7,w8,w9,x10,x11]) (env:=[w0,w1,w2,.dat (.int (n:Int)),w4,.dat (dT (gm n n f)),.dat (.int (m:Int)),w7,w8,w9,w10,w11]) (fun i d e hd ⟨x10,x11,he⟩=>by
  subst he;obtain⟨w,ht⟩:=b9g (w0:=w0) (w1:=w1) (w2:=w2) (w4:=w4) (w7:=w7) (w8:=w8) (w10:=.dat d) (w11:=x11) h1 h6 F hm h9;exact⟨_,_,rfl,ht,_,_,rfl⟩) ⟨_,_,rfl⟩
 exact⟨x10,x11,he⟩
abbrev mB:Mo Fl:=q0_ (v1_ 7 (z5_ w4_ (q7_ (z2_ (mC (.int 0)) z4_)) (z0_ 3))) (q0_ (w6_ (v6_ (mSl (z0_ 5) a1s (a1t (z0_ 6)))) (gN 8) heB) (q0_ (v1_ 9 (mF (w9_ z4_))) (q0_ (y3_ (mT (z5_ a3i (z0_ 6) (z0_ 3))) (w5_ 9 dC) mNx) (w6_ (a0q (z2_ (mC (.int 2)) z4_)) (gN 10) tB))))
theorem b9i{ks:OI}{vs:List D}(hv:∀s∈bts n,lkD ks vs s=some (.int (Wy s)))(h1:1≤n)(h6:n≤6)(F:TabF n f){m:Nat}(hm:m≤n):∃x7 x8 x9 x10 x11,mB [w0,w1,w2,.dat (.int (n:Int)),.dat (.dct ks vs),.dat (dT (gm n n f)),.dat (.int (m:Int)),w7,w8,w9,w10,w11]=some (.nx,[w0,w1,w2,.dat (.int (n:Int)),.dat (.dct ks vs),.dat (dT (gm n n f)),.dat (.int (m:Int)),x7,x8,x9,x10,x11]):=by
 have hz:w4_ (.tup [.int 0]) (.int (n:Int))=some (dR (sI n f 0)):=by
  rw[sI0]
  rcases(by omega:n=1∨n=2∨n=3∨n=4∨n=5∨n=6)with rfl|rfl|rfl|rfl|rfl|rfl<;>rfl
 have b:=F.bt h1 h6 hm
 obtain⟨x8,hl⟩:=b9e (f:=f) (w0:=w0) (w1:=w1) (w2:=w2) (w3:=.dat (.int (n:Int))) (w4:=.dat (.dct ks vs)) (w5:=.dat (dT (gm n n f))) (w6:=.dat (.int (m:Int))) (w8:=w8) (w9:=w9) (w10:=w10) (w11:=w11) h1 h6 hm;have hs:=b1Q (i:=5) (j:=6) (f:=f) (e:=[w0,w1,w2,.dat (.int (n:Int)),.dat (.dct ks vs),.dat (dT (gm n n f)),.dat (.int (m:Int)),.dat (dR (sI n f 0)),w8,w9,w10,w11]) hm rfl rfl;have hd:=b9f (w0:=w0) (w1:=w1) (w2:=w2) (w3:=.dat (.int (n:Int))) (w5:=.dat (dT (gm n n f))) (w6:=.dat (.int (m:Int))) (w8:=x8) (w9:=.dat (.lst [])) (w10:=w10) (w11:=w11) hv b (by rw[b.len];exact h6)
 obtain⟨x9,h9,hif⟩:∃x9,x9.view=some (.lst (duD (sI n f m)))/\y3_ (mT (z5_ a3i (z0_ 6) (z0_ 3))) (w5_ 9 dC) mNx [w0,w1,w2,.dat (.int (n:Int)),.dat (.dct ks vs),.dat (dT (gm n n f)),.dat (.int (m:Int)),.dat (dR (sI n f m)),x8,.dat (.lst []),w10,w11]=some (.nx,[w0,w1,w2,.dat (.int (n:Int)),.dat (.dct ks vs),.dat (dT (gm n n f)),.dat (.int (m:Int)),.dat (dR (sI n f m)),x8,x9,w10,w11]):=by
  have hlt:a3i (.int (m:Int)) (.int (n:Int))=some (.bl (decide ((m:Int)<(n:Int)))):=rfl
  rcases Nat.lt_or_ge m n with c|c
  ·rw[Zs (by omega)]at hlt
   exact⟨.own (duD (sI n f m)),rfl,a1W (a0j (v7_ rfl rfl hlt)) (a7j hd rfl)⟩
  ·rw[Qr (by omega)]at hlt
   refine⟨.dat (.lst []),?_,a0x (a0j (v7_ rfl rfl hlt)) rfl⟩;have:m=n:=by omega
   subst this;rw[b1R h1 h6 F];rfl
 obtain⟨x10,x11,ht⟩:=b9h (w0:=w0) (w1:=w1) (w2:=w2) (w4:=.dat (.dct ks vs)) (w7:=.dat (dR (sI n f m))) (w8:=x8) (w10:=w10) (w11:=w11) h1 h6 F hm h9;refine⟨_,_,_,_,_,y2_ (a0V (e1:=[w0,w1,w2,.dat (.int (n:Int)),.dat (.dct ks vs),.dat (dT (gm n n f)),.dat (.int (m:Int)),w7,w8,w9,w10,w11]) (v7_ rfl rfl hz) rfl) (y2_ ((a1R (a1f hs rfl)).trans hl) (y2_ (e1:=[w0,w1,w2,.dat (.int (n:Int)),.dat (.dct ks vs),.dat (dT (gm n n f)),.dat (.int (m:Int)),.dat (dR (sI n f m)),x8,.dat (.lst []),w10,w11]) rfl (y2_ hif ht)))⟩
end
theorem b1T{i:Nat}{e:Env'}{w:W}{a k:Int}{b:Bool}{M:Mo D}(hw:e[i]? =some w)(hm:w.mutL=some [.int a,.bl b])(hM:M e=some (.int k,e))(ha:0≤a)(h1:1≤k)(h2:k<1073741824):
  ∃v a',mCD 2 a0c (k7_ i (z7_ M q2_)) e=some (.int v,e.set i (w.put [.int a',.bl b]))/\0≤v/\v<k/\0≤a':=by
 obtain⟨v,a',et,v0,v1,a0⟩:=a7X (a:=a) (m:=k) (b:=b) ha h1 h2;refine⟨v,a',a0P (a4W (av:=[.sl i,.d (.int k)]) (c:=[.int a,.bl b]) ?_ rfl rfl hw hm et rfl),v0,v1,a0⟩;unfold k7_;rw[hw];simp only[Qj];have hm':∃m,w.mut=some m:=by
  cases w<;>first|cases hm;done|exact⟨_,rfl⟩
 obtain⟨m,hm'⟩:=hm';rw[hm'];simp only[Qj];rw[a1u hM rfl];rfl
def fD:OO:=fun i j=>if i=j then 1 else 0
theorem b1U:TabF 1 fD:=⟨by decide,by decide,by decide,by decide⟩
theorem b9j:TabF 2 fD:=⟨by decide,by decide,by decide,by decide⟩
abbrev L2d:List D:=[.tup [.tup [.int 0,.int 1],.tup [.int 1,.int 2]],.tup [.tup [.int 1,.int 0],.tup [.int 1,.int 2]]]
theorem b9k:∃ws,a0I [.dat (.int 2),.dat (.tup [])]=some (.l L2d,ws):=by
 obtain⟨ws,h⟩:=a8g (n:=2) (by decide) (by decide) b9j (m:=0) (by decide)
 have:duD (sI 2 fD 0)=L2d:=by rfl
 rw[this]at h;exact⟨ws,h⟩
theorem b9l:∃ws,a0I [.dat (.int 1),.dat (.tup [.tup [.int 1]])]=some (.l [],ws):=by
 obtain⟨ws,h⟩:=a8g (n:=1) (by decide) (by decide) b1U (m:=1) (by decide)
 rw[b1R (by decide) (by decide) b1U]at h
 exact⟨ws,h⟩
abbrev t0:Mo Fl:=(y3_ (a0f (mT (z5_ (dEq true) (mF (x6_ 2 a0I (z7_ (mC (.int 2)) (z7_ (q7_ z4_) q2_)))) (mF (w9_ (z2_ (q7_ (z2_ (q7_ (z2_ (mC (.int 0)) (z2_ (mC (.int 1)) z4_))) (z2_ (q7_ (z2_ (mC (.int 1)) (z2_ (mC (.int 2)) z4_))) z4_))) (z2_ (q7_ (z2_ (q7_ (z2_ (mC (.int 1)) (z2_ (mC (.int 0)) z4_))) (z2_ (q7_ (z2_ (mC (.int 1)) (z2_ (mC (.int 2)) z4_))) z4_))) z4_)))))) (mT (z5_ (dEq true) (mF (x6_ 2 a0I (z7_ (mC (.int 1)) (z7_ (q7_ (z2_ (q7_ (z2_ (mC (.int 1)) z4_)) z4_)) q2_)))) (mF (w9_ z4_))))) (y9_ (mC (.bl false))) mNx)
theorem b9m{ms:Mo (List D)}{e e1:Env'}{ds:List D}(h:ms e=some (ds,e1))(hl:ds.length≤1000):w9_ ms e=some (ds,e1):=by
 unfold w9_;rw[h];exact Qc hl
theorem b9n:dEq true (.lst L2d) (.lst L2d)=some (.bl false):=by rfl
theorem b9o:dEq true (.lst []) (.lst [])=some (.bl false):=by rfl
theorem b9p(e:Env'):t0 e=some (.nx,e):=by
 obtain⟨ws,h2⟩:=b9k;obtain⟨ws1,h1⟩:=b9l;refine a0x (b7c (a0j (v7_ (w7_ (a0Q (a0k (av:=[.d (.int 2),.d (.tup [])]) rfl rfl rfl h2))) rfl b9n)) (a0j (v7_ (w7_ (a0Q (a0k (av:=[.d (.int 1),.d (.tup [.tup [.int 1]])]) rfl rfl rfl h1))) rfl b9o))) rfl
theorem Tab.fn{T:OI}{n:Nat}(t:Tab T)(hn:T.length=n):∃f,T=gm n n f/\TabF n f:=by
 subst hn;refine⟨at2 T,b1m rfl t.len,?_⟩;have h:=t.ok;rw[b1m rfl t.len]at h;exact(b8E.mp h).2
abbrev lw:Mo Fl:=(q0_ (w5_ 2 (x6_ 2 a4h (z7_ (z0_ 0) (z7_ (z0_ 1) q2_)))) (q0_ (v1_ 3 (z5_ x2_ (mC (.int 1)) (mCD 2 a0c (k7_ 2 (z7_ (mC (.int 6)) q2_))))) (q0_ (v1_ 4 (mCD 1 a4k (z7_ (z0_ 3) q2_))) (q0_ (v1_ 5 (mCD 2 a4j (k7_ 2 (z7_ (z0_ 3) q2_)))) (w6_ (v6_ (mF (w9_ (z2_ (mCD 2 a0c (k7_ 2 (z7_ (z5_ x2_ (z0_ 3) (mC (.int 1))) q2_))) (z2_ (mC (.int 0)) (z2_ (z0_ 3) (z2_ (z5_ a2M (z0_ 3) (mC (.int 1))) z4_))))))) (gN 6) (q0_ (v1_ 7 (z5_ w4_ (q7_ (z2_ (mC (.int 0)) z4_)) (z0_ 3))) (q0_ (w6_ (v6_ (mSl (z0_ 5) a1s (a1t (z0_ 6)))) (gN 8) (v1_ 7 (mCD 2 g8_ (z7_ (z0_ 7) (z7_ (z0_ 8) q2_))))) (q0_ (v1_ 9 (mF (w9_ z4_))) (q0_ (y3_ (mT (z5_ a3i (z0_ 6) (z0_ 3))) (w5_ 9 (y0_ (v6_ (mF (x6_ 1 u5_ (z7_ (z0_ 7) q2_)))) [false,false,false,false,true,false,false,true,false,false,false,false] 1 (gN 12) y4_ (q7_ (z2_ (z0_ 12) (z2_ (mCD 2 a3p (z7_ (z5_ a1w (z0_ 4) (mCD 2 g8_ (z7_ (z0_ 7) (z7_ (z0_ 12) q2_)))) (z7_ (z5_ a1w (z0_ 4) (z0_ 7)) q2_))) z4_))))) mNx) (w6_ (a0q (z2_ (mC (.int 2)) z4_)) (gN 10) (q0_ (w5_ 11 (x6_ 2 a0I (z7_ (z0_ 3) (z7_ (mSl (z0_ 5) a1s (a1t (z0_ 6))) q2_)))) (q0_ (y3_ (u8_ (mT (a3h 2 (w0_ 6) [11,9]))) (y9_ (mC (.bl false))) mNx) (a1p 11 (q7_ z4_))))))))))))))
theorem b9q(ns:List Int)(k:Nat)(hk:k<1000)(w2 w3 w4 w5 w6 w7 w8 w9 w10 w11:W):∃ws':List W,ws'.length=11/\lw [.dat (.lst (ns.map .int)),.dat (.int k),w2,w3,w4,w5,w6,w7,w8,w9,w10,w11]=some (.nx,.dat (.lst (ns.map .int))::ws'):=by
 obtain⟨a,b,a0,est⟩:=b8j ns k hk;generalize D.lst (ns.map .int)=Z at *;obtain⟨v,a1,et,v0,v1,a10⟩:=b1T (i:=2) (e:=[.dat Z,.dat (.int k),.own [.int a,.bl b],w3,w4,w5,w6,w7,w8,w9,w10,w11]) (w:=.own [.int a,.bl b]) (a:=a) (k:=6) (b:=b) (M:=mC (.int 6)) rfl rfl rfl a0 (by decide) (by decide)
 obtain⟨n,hn⟩:∃n:Nat,(1:Int)+v=(n:Int):=⟨(1+v).toNat,by omega⟩
 have h1:1≤n:=by omega
 have h6:n≤6:=by omega
 obtain⟨vs,wsC,eC,hv⟩:=b8R h1 h6;obtain⟨T,a2,eT,a20,t1,l1⟩:=b8A (a:=a1) (b:=b) a10 h1 h6;obtain⟨f,rfl,F⟩:=t1.fn l1;obtain⟨v3,a3,et3,v30,v31,a30⟩:=b1T (i:=2) (e:=[.dat Z,.dat (.int k),.own [.int a2,.bl b],.dat (.int (n:Int)),.dat (.dct (sl n) vs),.dat (dT (gm n n f)),w6,w7,w8,w9,w10,w11]) (w:=.own [.int a2,.bl b]) (a:=a2) (k:=(n:Int)+1) (b:=b) (M:=z5_ x2_ (z0_ 3) (mC (.int 1))) rfl rfl rfl a20 (by omega) (by omega)
 obtain⟨m3,hm3⟩:∃m:Nat,v3=(m:Int):=⟨v3.toNat,by omega⟩
 subst hm3;have hloop:∃e',loop (gN 6) mB [.int (m3:Int),.int 0,.int (n:Int),.int ((n:Int)-1)] [.dat Z,.dat (.int k),.own [.int a3,.bl b],.dat (.int (n:Int)),.dat (.dct (sl n) vs),.dat (dT (gm n n f)),w6,w7,w8,w9,w10,w11]=some (.nx,e')/\∃ws':List W,ws'.length=11/\e'=.dat Z::ws':=by
  obtain⟨e',he,x6,x7,x8,x9,x10,x11,rfl⟩:=a9P (g:=gN 6) (b:=mB) (P:=fun e=>∃x6 x7 x8 x9 x10 x11,e=[.dat Z,.dat (.int k),.own [.int a3,.bl b],.dat (.int (n:Int)),.dat (.dct (sl n) vs),.dat (dT (gm n n f)),x6,x7,x8,x9,x10,x11]) (ds:=[.int (m3:Int),.int 0,.int (n:Int),.int ((n:Int)-1)]) (env:=[.dat Z,.dat (.int k),.own [.int a3,.bl b],.dat (.int (n:Int)),.dat (.dct (sl n) vs),.dat (dT (gm n n f)),w6,w7,w8,w9,w10,w11]) (fun d hd e ⟨x6,x7,x8,x9,x10,x11,he⟩=>by
   subst he;obtain⟨m,hm,rfl⟩:∃m:Nat,m≤n/\d=.int (m:Int):=by
    simp only[Qn,Zk,Yd]at hd
    rcases hd with rfl|rfl|rfl|rfl
    ·exact⟨m3,by omega,rfl⟩
    ·exact⟨0,by omega,rfl⟩
    ·exact⟨n,by omega,rfl⟩
    ·exact⟨n-1,by omega,Yq D.int (by omega)⟩
   obtain⟨y7,y8,y9,y10,y11,hmo⟩:=b9i (w0:=.dat Z) (w1:=.dat (.int k)) (w2:=.own [.int a3,.bl b]) (w7:=x7) (w8:=x8) (w9:=x9) (w10:=x10) (w11:=x11) hv h1 h6 F hm;exact⟨_,_,rfl,hmo,_,_,_,_,_,_,rfl⟩) ⟨_,_,_,_,_,_,rfl⟩
  exact⟨_,he,_,rfl,rfl⟩
 obtain⟨e',he,ws',hl,rfl⟩:=hloop;refine⟨ws',hl,?_⟩;generalize hC:D.dct (sl n) vs=C at *;generalize hT:dT (gm n n f)=T at *;refine y2_ (a7j (e1:=[.dat Z,.dat (.int k),w2,w3,w4,w5,w6,w7,w8,w9,w10,w11]) (e2:=[.dat Z,.dat (.int k),.own [.int a,.bl b],w3,w4,w5,w6,w7,w8,w9,w10,w11]) (a0Q (a0k (av:=[.d Z,.d (.int k)]) rfl rfl rfl est)) rfl) ?_
 refine y2_ (e1:=[.dat Z,.dat (.int k),.own [.int a1,.bl b],.dat (.int (n:Int)),w4,w5,w6,w7,w8,w9,w10,w11]) (a0V (d:=.int (n:Int)) (v7_ (e1:=[.dat Z,.dat (.int k),.own [.int a,.bl b],w3,w4,w5,w6,w7,w8,w9,w10,w11]) rfl et (by show some (D.int (1+v))=_;rw[hn])) rfl) ?_
 refine y2_ (e1:=[.dat Z,.dat (.int k),.own [.int a1,.bl b],.dat (.int (n:Int)),.dat C,w5,w6,w7,w8,w9,w10,w11]) (a0V (e1:=[.dat Z,.dat (.int k),.own [.int a1,.bl b],.dat (.int (n:Int)),w4,w5,w6,w7,w8,w9,w10,w11]) (d:=C) (a0y (av:=[.d (.int (n:Int))]) rfl rfl rfl eC) rfl) ?_
 refine y2_ (e1:=[.dat Z,.dat (.int k),.own [.int a2,.bl b],.dat (.int (n:Int)),.dat C,.dat T,w6,w7,w8,w9,w10,w11]) (a0V (e1:=[.dat Z,.dat (.int k),.own [.int a2,.bl b],.dat (.int (n:Int)),.dat C,w5,w6,w7,w8,w9,w10,w11]) (d:=T) (a0P ((a4W (e1:=[.dat Z,.dat (.int k),.own [.int a1,.bl b],.dat (.int (n:Int)),.dat C,w5,w6,w7,w8,w9,w10,w11]) (w:=.own [.int a1,.bl b]) (av:=[.sl 2,.d (.int (n:Int))]) (i:=2) (c:=[.int a1,.bl b]) (c':=[.int a2,.bl b]) rfl rfl rfl rfl rfl eT rfl).trans rfl)) rfl) ?_
 refine(a1R (a1f (w7_ (b9m (x3_ et3 rfl) (by simp))) rfl)).trans ?_
 exact he
theorem b9r:∀ns:List Int,ns.length≤63->∃ws',a5x [.dat (.lst (ns.map D.int))]=some (.d (.bl true),ws'):=by
 intro ns hns;obtain⟨ws',h⟩:=b7d (C:=6) (N:=10) (ns:=ns) (body:=lw) (last:=y9_ (mC (.bl true))) (by decide) (by decide) (fun k hk ws hw=>by
  match ws,hw with
  |[w2,w3,w4,w5,w6,w7,w8,w9,w10,w11],_=>exact b9q ns k hk w2 w3 w4 w5 w6 w7 w8 w9 w10 w11) fun ws hw=>⟨_,rfl⟩
 refine⟨ws',?_⟩;rw[←h];show fnM 12 (q0_ t0 _) _=_;unfold fnM;rw[g4_ (b9p _)]
 rfl
end K82
namespace K82
open L2 L2.Mir PySem
abbrev md0:Value:=.str "turnsigns.grids" 239
abbrev md1:Value:=.str "turnsigns.counts" 271
abbrev md2:Value:=.str "turnsigns.shares" 307
abbrev md3:Value:=.str "law_turnsigns_k82_rows_that_come_next" 343
theorem b9s{P:Program}(w:World)(mg:OU)(fa:Addr)(h:Heap)(X:(hK w.params).In h)(G:h.Ns mainGlobals mg)(hfa:mg "law"=some (.ref fa)):
 ∃fd:FuncData,(∀(s:Shared) (v:Value),BindsTo s fd ⟨[v],[]⟩ [("_law_script",v)])/\∀base:Heap,(hK w.params).In base->base.Ns mainGlobals mg->FnOk P w (hK w.params) mg base CX0 20 fa fd ["_law_script"] (SpF (hK w.params) 1 a5x):=by
 obtain⟨A1,A2,A3,A4,A5,A6,A7,A8,A9,A10,A11,A12,A13,A14,A15,A16,A17,A18,A19,A20,A21,A22,A23⟩:DfAt (hK w.params) "is_whole" a7l 58 md0 57/\DfAt (hK w.params) "is_within" a7m 65 md0 64/\DfAt (hK w.params) "is_row" a7n 70 md0 69/\DfAt (hK w.params) "is_grid" a7o 75 md0 74/\DfAt (hK w.params) "must_be_within" a7p 82 md1 81/\DfAt (hK w.params) "rows_on" a7q 87 md1 86/\DfAt (hK w.params) "added" a7r 92 md1 91/\DfAt (hK w.params) "choices_on" a5o 97 md1 96/\DfAt (hK w.params) "ways_on" a7s 102 md1 101/\DfAt (hK w.params) "is_rows" a7t 109 md2 108/\DfAt (hK w.params) "sums_behind" a7u 116 md2 115/\DfAt (hK w.params) "fraction" a7v 123 md2 122/\DfAt (hK w.params) "next_rows" a7w 128 md2 127/\DfAt (hK w.params) "_law_cell_at" a7x 135 md3 134/\DfAt (hK w.params) "_law_state" a7y 142 md3 141/\DfAt (hK w.params) "_law_take" a7z 149 md3 148/\DfAt (hK w.params) "_law_rows" a7A 154 md3 153/\DfAt (hK w.params) "_law_held" a7B 159 md3 158/\DfAt (hK w.params) "_law_table" a7C 164 md3 163/\DfAt (hK w.params) "_law_counts" a7D 169 md3 168/\DfAt (hK w.params) "_law_same" a7E 174 md3 173/\DfAt (hK w.params) "_law_cut" a7F 181 md3 180/\DfAt (hK w.params) "law" a3m 186 md3 185:=by refine⟨?_,?_,?_,?_,?_,?_,?_,?_,?_,?_,?_,?_,?_,?_,?_,?_,?_,?_,?_,?_,?_,?_,?_⟩<;>constructor<;>kernel_rfl
 have e:=hfa.symm.trans (PySem.W.mg_of X G A23.a)
 cases e;have T:Txt (hK w.params) mg:=⟨Zw X G (by kernel_rfl),Zw X G (by kernel_rfl),Zw X G (by kernel_rfl),Zw X G (by kernel_rfl),Zw X G (by kernel_rfl),Zw X G (by kernel_rfl),Zw X G (by kernel_rfl),Zw X G (by kernel_rfl),Zw X G (by kernel_rfl),Zw X G (by kernel_rfl),Zw X G (by kernel_rfl),Zw X G (by kernel_rfl),Zw X G (by kernel_rfl),⟨269,PySem.W.mg_of X G (by kernel_rfl)⟩⟩
 have b1:=A1.f.binds (ps:=["thing"]) fun _ _ _ _ _ _=>us1 fun _=>rfl
 have b2:=A2.f.binds (ps:=["thing","least","greatest"]) fun _ _ _ _ _ _=>us3 fun _ _ _=>rfl
 have b3:=A3.f.binds (ps:=["thing","width"]) fun _ _ _ _ _ _=>us2 fun _ _=>rfl
 have b4:=A4.f.binds (ps:=["thing","many","width"]) fun _ _ _ _ _ _=>us3 fun _ _ _=>rfl
 have b5:=A5.f.binds (ps:=["thing","least","greatest","name"]) fun _ _ _ _ _ _=>us4 fun _ _ _ _=>rfl
 have b6:=A6.f.binds (ps:=["sums"]) fun _ _ _ _ _ _=>us1 fun _=>rfl
 have b7:=A7.f.binds (ps:=["sums","row"]) fun _ _ _ _ _ _=>us2 fun _ _=>rfl
 have b8:=A8.f.binds (ps:=["sums","known"]) fun _ _ _ _ _ _=>us2 fun _ _=>rfl
 have b9:=A9.f.binds (ps:=["sums","known"]) fun _ _ _ _ _ _=>us2 fun _ _=>rfl
 have b10:=A10.f.binds (ps:=["thing","width"]) fun _ _ _ _ _ _=>us2 fun _ _=>rfl
 have b11:=A11.f.binds (ps:=["side","rows"]) fun _ _ _ _ _ _=>us2 fun _ _=>rfl
 have b12:=A12.f.binds (ps:=["top","bottom"]) fun _ _ _ _ _ _=>us2 fun _ _=>rfl
 have b13:=A13.f.binds (ps:=["side","rows"]) fun _ _ _ _ _ _=>us2 fun _ _=>rfl
 have b14:=A14.f.binds (ps:=["_law_script","_law_k"]) fun _ _ _ _ _ _=>us2 fun _ _=>rfl
 have b15:=A15.f.binds (ps:=["_law_script","_law_k"]) fun _ _ _ _ _ _=>us2 fun _ _=>rfl
 have b16:=A16.f.binds (ps:=["_law_state_here","_law_many"]) fun _ _ _ _ _ _=>us2 fun _ _=>rfl
 have b17:=A17.f.binds (ps:=["_law_held_here"]) fun _ _ _ _ _ _=>us1 fun _=>rfl
 have b18:=A18.f.binds (ps:=["_law_held_here","_law_row"]) fun _ _ _ _ _ _=>us2 fun _ _=>rfl
 have b19:=A19.f.binds (ps:=["_law_state_here","_law_side"]) fun _ _ _ _ _ _=>us2 fun _ _=>rfl
 have b20:=A20.f.binds (ps:=["_law_side"]) fun _ _ _ _ _ _=>us1 fun _=>rfl
 have b21:=A21.f.binds (ps:=["_law_found","_law_due"]) fun _ _ _ _ _ _=>us2 fun _ _=>rfl
 have b22:=A22.f.binds (ps:=["_law_top","_law_bottom"]) fun _ _ _ _ _ _=>us2 fun _ _=>rfl
 have b23:=A23.f.binds (ps:=["_law_script"]) fun _ _ _ _ _ _=>us1 fun _=>rfl
 refine⟨PySem.W.fnOf "law" "law" (a2g a3m) (a1m a3m) (y7_ a3m) .none .none .none (.str "law_turnsigns_k82_rows_that_come_next" 343) none (.ref 185) .none,fun s v=>.of_eq rfl,fun base _ _=>?_⟩
 have d_is_whole:=dM P w base (b7i A1.f T ) A1 X G b1
 have d_is_within:=dM P w base (b7l A2.f T d_is_whole) A2 X G b2
 have d_is_row:=dM P w base (b7n A3.f T d_is_whole) A3 X G b3
 have d_is_grid:=dM P w base (b7p A4.f T d_is_row) A4 X G b4
 have d_must_be_within:=dM P w base (b7s A5.f T d_is_within) A5 X G b5
 have d_rows_on:=dM P w base (b7u A6.f T ) A6 X G b6
 have d_added:=dM P w base (b7w A7.f T ) A7 X G b7
 have d_ways_on:Def P w (hK w.params) mg base "ways_on" 17 2 (j6_ 8):=⟨_,_,_,b0S A9.f A8.f T d_rows_on d_added (A9.g X G) A9.k b9 (A8.g X G) A8.k b8 8,rfl,A9.g X G,A9.k,b9⟩
 have d_choices_on:Def P w (hK w.params) mg base "choices_on" 18 2 (a1B (j6_ 8)):=⟨_,_,_,b0R A8.f T d_rows_on d_added (by decide) d_ways_on,rfl,A8.g X G,A8.k,b8⟩
 have d_is_rows:=dM P w base (b7A A10.f T d_is_grid) A10 X G b10
 have d_sums_behind:=dM P w base (b7B A11.f T d_must_be_within d_is_rows d_added d_rows_on) A11 X G b11
 have d_fraction:=dM P w base (b7C A12.f T ) A12 X G b12
 have d_next_rows:=dM P w base (b7D A13.f T d_sums_behind d_ways_on d_fraction d_choices_on) A13 X G b13
 have d__law_cell_at:=dM P w base (b7F A14.f T ) A14 X G b14
 have d__law_state:=dM P w base (b7G A15.f T d__law_cell_at) A15 X G b15
 have d__law_take:=dM P w base (b7H A16.f T ) A16 X G b16
 have d__law_rows:=dM P w base (b7J A17.f T ) A17 X G b17
 have d__law_held:=dM P w base (b7L A18.f T ) A18 X G b18
 have d__law_table:=dM P w base (b7O A19.f T d__law_take d__law_rows d__law_held) A19 X G b19
 have d__law_counts:=dM P w base (b7S A20.f T d__law_held d__law_rows) A20 X G b20
 have d__law_same:Def P w (hK w.params) mg base "_law_same" 7 2 (w0_ 6):=⟨_,_,_,b0W A21.f T (A21.g X G) A21.k b21 6,rfl,A21.g X G,A21.k,b21⟩
 have d__law_cut:=dM P w base (b7U A22.f T ) A22 X G b22
 exact b7W A23.f T d__law_state d__law_counts d__law_table d_next_rows d__law_take d__law_held d__law_same d__law_cut d__law_rows
end K82
theorem PySem.Challenge.cw_turnsigns_k82_rows_that_come_next_holds : PySem.Challenge.rw_turnsigns_k82_rows_that_come_next.Holds :=
 K82.b2g (L2.Mir.b5G (l:=PySem.Challenge.rw_turnsigns_k82_rows_that_come_next) (k:=20) (x := "_law_script") (fn:=K82.a5x) rfl rfl ⟨rfl,by decide,by decide⟩ (fun w h Y=>PySem.W.km_in_of Y) K82.b9s K82.b9r)
