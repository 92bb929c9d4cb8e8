import PyProof.Rows.All
import Wide.All
import OpenK.KCall
import OpenK.KWalk
import OpenK.KOwn
import Open.Pieces
import KE.KTryMore
import KE.KIsAll
import KE.KItem
import KE.KRevIter
import KE.KRevSl
import KE.KxBytes
import Wide.FinOn
import PyProof.EqAt
import PyProof.EqKinds
import PyProof.TupleCall
import PyProof.ExcArgsOwn
import PyProof.DictRoadsH
import PyProof.TupleKey
import PyProof.AttrMissHeap
import KE.KDictOf
import PySem.Challenge.RW_doughhours_k09_whole_refused_in_turn
local macro_rules | `(tactic| walk_at "v0") => `(tactic| (first | exact Or.inl rfl | exact Or.inr (Or.inl rfl) | exact Or.inr (Or.inr rfl)))
local macro_rules | `(tactic| walk_at "v1") => `(tactic| (first | exact Or.inr (by decide) | exact Or.inl (by assumption)))
local macro_rules | `(tactic| walk_at "v2") => `(tactic| (first | exact .inl rfl | exact .inr rfl | assumption))
local macro_rules | `(tactic| walk_at "v3") => `(tactic| (first | exact Or.inl rfl | exact Or.inr rfl))
set_option Elab.async false
set_option linter.all false
set_option maxRecDepth 100000
set_option maxHeartbeats 4000000
namespace L2
open PySem PySem.Spec PyProof.Rows
noncomputable def q1p (s:Stmt) (j:Nat):Stmt:=match s with
 | .ClassDef _ _ _ body _ _ _ _ _ _ _=>body.getD j (.Pass ⟨0,0,0,0⟩)
 | _=>.Pass ⟨0,0,0,0⟩
noncomputable def q1r (s:Stmt):Arguments:=match s with
 | .FunctionDef _ a _ _ _ _ _ _ _ _=>a
 | _=>{ posonlyargs:=[],args:=[],vararg:=none,kwonlyargs:=[],kw_defaults:=[],kwarg:=none,defaults:=[] }
noncomputable def q0Z (s:Stmt):List Stmt:=match s with
 | .FunctionDef _ _ b _ _ _ _ _ _ _=>b
 | _=>[]
noncomputable def q0g (s:Stmt):Scope:=match s with
 | .FunctionDef _ _ _ _ _ _ sc _ _ _=>sc
 | _=>{ kind:=.function,names:=[],isGenerator:=false,isCoroutine:=false }
end L2
set_option autoImplicit false
namespace L3
open PySem
namespace Tp
open PySem.W
structure TS where
 t:BT
 n:Nat
 k:Nat
 md:Value
 ns:List DictEntry
 cl:List Value
noncomputable def marks (k:Nat):List Str->List Value
 | []=>[]
 | x::l=>.str x k::marks (k+1) l
noncomputable def j3O (l:List Value):Obj:=⟨.type "tuple",none,.seq ⟨l⟩ 0,#[]⟩
noncomputable def fldO (c:Value) (l:List Value):Obj:=⟨c,none,.fields ⟨l⟩,#[]⟩
noncomputable def dicO (l:List DictEntry) (e:Nat):Obj:=⟨.type "dict",none,.dict ⟨l⟩ e,#[]⟩
noncomputable def file:Str:="/claim/cut.py"
noncomputable def j6A (n k:Nat) (name qual:Str) (line argc fl:Nat) (isF:Bool) (tab:List Value) (loc:Option (List Str×List Str)) (tpl:Option FuncData):List Obj×Nat×Nat:=
 let a:=match loc with
  | some (x,y)=>([j3O (marks (k+3) x),j3O (marks (k+3+x.length) y)],k+3+x.length+y.length,n+4,Value.ref (n+2),Value.ref (n+3))
  | none=>([],k+3,n+2,Value.none,Value.none)
 let b:=match tpl with
  | some f=>([Obj.mk .none none (.func f) #[]],a.2.2.1+1,Value.ref a.2.2.1)
  | none=>([],a.2.2.1,Value.none)
 (j3O []::fldO .none tab::a.1++b.1++[fldO (.type "code") [.str name k,.str qual (k+1),.str file (k+2),.int line 0,.int argc 0,.int 0 0,.int 0 0,.int fl 0,.ref n,.bool isF,.int 181 0,.ref (n+1),.none,a.2.2.2.1,a.2.2.2.2,b.2.2,.int a.2.1 0,.int line 0,.str file (a.2.1+1)]],a.2.1+2,b.2.1)
noncomputable def q6m (k:Nat):Expr->Value
 | .Constant (.int i) _ _=>.int i k
 | .Constant (.str x) _ _=>.str x k
 | .Constant (.bool b) _ _=>.bool b
 | _=>.none
noncomputable def consts (k:Nat):List Expr->List Value
 | []=>[]
 | e::l=>q6m k e::consts (k+1) l
noncomputable def w0d (n k:Nat) (md:Value) (pre:Str) (name:Str) (p:Arguments) (body:List Stmt) (sc:Scope) (pos:Pos):List Obj×Nat×Nat×List Value:=
 let d:=p.defaults.length
 let n1:=match d with | 0=>n | _=>n+1
 let qual:=pre++name
 let c:=j6A n1 (k+d) name qual pos.line p.args.length 3 true [] (localNames p sc (.stmts body)) (some { name,qualname:=qual,params:=p,body:=.stmts body,scope:=sc,globals:=builtinsNs,closure:=[],defaults:=.none,kwdefaults:=.none })
 ((match d with | 0=>[] | _=>[j3O (consts k p.defaults)])++c.1++[⟨.type "function",none,.func { name,qualname:=qual,params:=p,body:=.stmts body,scope:=sc,globals:=mainNs,closure:=[],defaults:=match d with | 0=>.none | _=>.ref n,kwdefaults:=.none,pyModule:=md,code:=.ref c.2.2 },#[]⟩],
  c.2.1,c.2.2+2,[.int pos.line 0,.int pos.col 0,.ref c.2.2])
noncomputable def ent (P:Params) (x:Str) (k:Nat) (v:Value):DictEntry:=⟨PyData.keyHash P x,.str x k,v⟩
noncomputable def j48 (P:Params) (md:Value) (pre:Str):Nat->Nat->List Stmt->List Obj×Nat×Nat×List Value×List DictEntry
 | n,k,.FunctionDef name p body _ _ _ sc _ _ pos::l=>
  let a:=w0d n k md pre name p body sc pos
  let r:=j48 P md pre a.2.2.1 (a.2.1+1) l
  (a.1++r.1,r.2.1,r.2.2.1,a.2.2.2++r.2.2.2.1,ent P name a.2.1 (.ref (a.2.2.1-1))::r.2.2.2.2)
 | n,k,_=>([],k,n,[],[])
noncomputable def lookN (x:Str):List DictEntry->Option Value
 | []=>none
 | e::l=>match e.key.isStr x with
  | true=>some e.val
  | false=>lookN x l
noncomputable def j2x (s:TS):List Expr->Option (Value×Bool×List Value)
 | [.Name x _]=>match lookN x s.ns with
  | some (.ref a)=>match s.t.get a with
   | some ⟨_,_,.cls c,_⟩=>some (.ref a,true,c.mro)
   | _=>none
  | _=>some (.type "ValueError",false,[.type "ValueError",.type "Exception",.type "BaseException",.type "object"])
 | _=>none
noncomputable def q5x:BT->Nat->List Obj->BT
 | t,_,[]=>t
 | t,n,o::l=>q5x (t.ins n o) (n+1) l
noncomputable def j6W (P:Params) (s:TS) (name:Str) (bases:List Expr) (body:List Stmt) (st:List Str) (pos:Pos):List Obj×Nat×Value×List Value:=
 let n:=s.n
 let k:=s.k
 let b:=j2x s bases
 let exc:=b.isSome
 let f:=j48 P s.md (name++Str.ofString ".") (n+7) (k+12) body
 let k1:=f.2.1
 let n1:=f.2.2.1
 let c:=j6A (n+3) (k+2) name name pos.line 0 0 false f.2.2.2.1 none none
 let m:=ent P "__module__" (k+7) s.md
 let line:=ent P "__firstlineno__" (k+11) (.int pos.line (k+10))
 let sa:=ent P "__static_attributes__" (k1+st.length) (.ref n1)
 let k2:=k1+st.length+1
 let T:=n1+2
 let dd:=match exc with
  | true=>(([]:List Obj),([]:List DictEntry),k2,n1+3)
  | false=>([fldO (.type "getset_descriptor") [.str "__dict__" k2,.ref T,.builtin "function.__dict__",.builtin "function.__dict__#set"]],[ent P "__dict__" (k2+1) (.ref (n1+3))],k2+2,n1+4)
 let own:=match b with | some (_,o,_)=>o | none=>false
 let ww:=match own with
  | true=>(([]:List Obj),([]:List DictEntry),dd.2.2.1)
  | false=>([fldO (.type "getset_descriptor") [.str "__weakref__" dd.2.2.1,.ref T,.builtin "ExceptionGroup.__weakref__",.none]],[ent P "__weakref__" (dd.2.2.1+1) (.ref dd.2.2.2)],dd.2.2.1+2)
 let k3:=ww.2.2
 let bv:=match b with | some (v,_,_)=>[v] | none=>[]
 let mro:=match b with | some (_,_,r)=>r | none=>[.type "object"]
 ([j3O bv,fldO (.type "builtin_function_or_method") [.builtin "type.__prepare__",.type "type"],dicO ([m,ent P "__qualname__" (k+9) (.str name (k+8)),line]++f.2.2.2.2++[sa]) (4+f.2.2.2.2.length)]++c.1
  ++ [⟨.type "frame",none,.plain,#[some (.ref (n+5)),some (.ref 3),some (.ref (n+2)),none,some s.md,none,some (.ref 0)]⟩]++f.1
  ++ [j3O (marks k1 st),dicO ([m,line]++f.2.2.2.2++[sa]++dd.2.1++ww.2.1++[ent P "__doc__" k3 .none]) (2+dd.1.length+ww.1.length),
   ⟨.type "type",none,.cls { name,bases:=(match bv with | []=>[.type "object"] | _=>bv),mro:=.ref T::mro,ns:=n1+1,qualname:=name },#[match bv with | []=>none | _=>some (.ref n),none,some (.str name k),some (.str name (k+8)),some (.builtin (match exc with | true=>"ValueError.__new__" | false=>"object.__new__")),some (.bool true)]⟩]
  ++ dd.1++ww.1++[fldO (.type "super") [.ref T,.ref T,.ref T],fldO (.type "builtin_function_or_method") [.builtin "object.__init_subclass__",.ref T]],
  k3+2,.ref T,[.int pos.line 0,.int pos.col 0,.ref (n+5)])
noncomputable def j42 (v:Value):Obj->Obj
 | ⟨c,d,.cls k,z⟩=>⟨c,d,.cls { k with subclasses:=k.subclasses++[v] },z⟩
 | o=>o
noncomputable def w0k (P:Params) (x:Str) (k:Nat) (v:Value):List DictEntry->List DictEntry
 | []=>[ent P x k v]
 | e::l=>match e.key.isStr x with
  | true=>⟨e.hash,e.key,v⟩::l
  | false=>e::w0k P x k v l
noncomputable def step (P:Params) (s:TS):Stmt->TS
 | .FunctionDef name p body _ _ _ sc _ _ pos=>
  let a:=w0d s.n s.k s.md Str.empty name p body sc pos
  { s with t:=q5x s.t s.n a.1,n:=a.2.2.1,k:=a.2.1+1,ns:=s.ns++[ent P name a.2.1 (.ref (a.2.2.1-1))],cl:=s.cl++a.2.2.2 }
 | .ClassDef name bases _ body _ _ _ _ _ st pos=>
  let a:=j6W P s name bases body st pos
  { s with t:=(match j2x s bases with | some (.ref b,_,_)=>(q5x s.t s.n a.1).set b (j42 a.2.2.1) | _=>q5x s.t s.n a.1),n:=s.n+a.1.length,k:=a.2.1+1,ns:=s.ns++[ent P name a.2.1 a.2.2.1],cl:=s.cl++a.2.2.2 }
 | .Assign [.Name x _] (.Tuple es _ _) _=>{ s with t:=s.t.ins s.n (j3O (consts s.k es)),n:=s.n+1,k:=s.k+es.length+1,ns:=s.ns++[ent P x (s.k+es.length) (.ref s.n)] }
 | .Assign [.Name x _] (.UnaryOp _ (.Constant (.int i) _ _) _) _=>{ s with k:=s.k+3,ns:=s.ns++[ent P x (s.k+2) (.int (-i) (s.k+1))] }
 | .Assign [.Name x _] e _=>match x==Str.ofString "__name__" with
  | true=>{ s with k:=s.k+2,md:=q6m s.k e,ns:=w0k P x (s.k+1) (q6m s.k e) s.ns }
  | false=>{ s with k:=s.k+2,ns:=s.ns++[ent P x (s.k+1) (q6m s.k e)] }
 | _=>s
end Tp
end L3
namespace L3
open PySem
namespace Hd
open PyProof.Rows
open PySem.W
noncomputable def w0h:List Obj->Nat->BT->BT
 | [],_,t=>t
 | o::l,n,t=>w0h l (n+1) (t.ins n o)
noncomputable def toT (s:Shared):SharedT:=⟨w0h s.heap.objs.toList 0 .nil,s.heap.objs.size,s.heap.life,s.gens,s.drawn,s.toks,s.os⟩
noncomputable def s0 (w:World) (os:OsState):Shared:=⟨boot_heap w.params,Array.mk [],boot_drawn,boot_toks,os⟩
noncomputable def pre (p:Program) (w:World) (os:OsState) (k0:Nat):Option (Shared×Thread):=topGo treeTable p w 11 (some (.ref 6)) k0 (s0 w os) (topStub p)
noncomputable def sa (p:Program) (w:World) (os:OsState) (k0:Nat):Shared:=match pre p w os k0 with
 | some (s,_)=>s
 | none=>s0 w os
noncomputable def env (p:Program):Env:={ scope:=p.main.scope,locals:=mainNs,globals:=mainNs,cells:=[],code:=.ref 13,frame:=some 14 }
noncomputable def cd (p:Program):Code:=.body (behindTheImports p) (env p)
noncomputable def z0:Pos:=⟨0,0,0,0⟩
noncomputable def blk (p:Program) (w:World) (os:OsState) (k0 kb:Nat):Option (Flow×Shared×Code×Pos):=segRun treeTable p w 11 (some (.ref 6)) 1 kb (sa p w os k0) (blockOf (behindTheImports p) (env p) (cd p) z0 [topFrame z0])
noncomputable def tb (p:Program) (w:World) (os:OsState) (k0 kb:Nat):SharedT:=match blk p w os k0 kb with
 | some (_,s,_,_)=>toT s
 | none=>toT (s0 w os)
noncomputable def ini (b:SharedT):Tp.TS:=
 let ns:=match b.tree.get 3 with
  | some ⟨_,_,.dict es _,_⟩=>es.toList
  | _=>[]
 ⟨b.tree,b.n,b.toks,match Tp.lookN "__name__" ns with | some v=>v | none=>.none,ns,[]⟩
noncomputable def sh (os:OsState) (b:SharedT) (s:Tp.TS):SharedT:=⟨(s.t.ins 3 (Tp.dicO s.ns s.ns.length)).ins 12 (Tp.fldO .none s.cl),s.n,b.life,b.gens,b.drawn,s.k,os⟩
noncomputable def stt (p:Program) (w:World) (os:OsState) (k0 kb j:Nat):SharedT:=sh os (tb p w os k0 kb) (((behindTheImports p).take j).foldl (Tp.step w.params) (ini (tb p w os k0 kb)))
noncomputable def run1 (p:Program) (w:World) (n:Nat) (s:SharedT) (l:List Stmt) (pos:Pos):Option (Flow×SharedT×Code×Pos):=PySem.W.Fast.tw10110043849684766642 PySem.W.Fast.tw14364793385576792824 p w 11 (some (.ref 6)) 1 n s (piecesOf l (env p) (cd p) pos [topFrame z0])
noncomputable def Ch (p:Program) (k0 kb j m n:Nat) (pa pz:Pos):Prop:=∀(w:World) (os:OsState),run1 p w n (stt p w os k0 kb j) (((behindTheImports p).drop j).take m) pa=some (.next,stt p w os k0 kb (j+m),cd p,pz)
theorem j4r {p:Program} {w:World} {n:Nat} {s:SharedT} {l:List Stmt} {pos:Pos}:segRunT treeTable p w 11 (some (.ref 6)) 1 n s (piecesOf l (env p) (cd p) pos [topFrame z0])=run1 p w n s l pos:=by
 unfold run1
 rw [PySem.W.Fast.te10110043849684766642,PySem.W.Fast.te14364793385576792824]
noncomputable def To (p:Program) (k0 kb j N:Nat) (pa:Pos) (J:Nat):Prop:=∀(w:World) (os:OsState),topRun treeTable p w 11 (some (.ref 6)) N (stt p w os k0 kb j).abs (restOf ((behindTheImports p).drop j) (env p) (cd p) pa [topFrame z0])=some (stt p w os k0 kb J).abs
theorem To.of {p:Program} {k0 kb j m n N J:Nat} {pa pz:Pos} (h:Ch p k0 kb j m n pa pz) (t:To p k0 kb (j+m) N pz J):To p k0 kb j (n+N) pa J:=λw os=>by
 have h3:=segRun_of (j4r.trans (h w os))
 have:=piece_app (rest:=(behindTheImports p).drop (j+m)) h3 (t w os)
 rwa [<-List.drop_drop,List.take_append_drop] at this
theorem To.fin {p:Program} {k0 kb J:Nat} {pz:Pos} (h:(behindTheImports p).drop J=[]):To p k0 kb J 4 pz J:=λw os=>by
 rw [h]
 exact piece_nil rfl
noncomputable def E1 (p:Program) (k0:Nat):Prop:=∀(w:World) (os:OsState),(pre p w os k0).map Prod.snd=some ⟨denote treeTable (cd p),cd p,z0,[topFrame z0]⟩
noncomputable def E2 (p:Program) (k0 kb:Nat):Prop:=∀(w:World) (os:OsState),blk p w os k0 kb=some (.next,(tb p w os k0 kb).abs,cd p,z0)
noncomputable def lkA (p q:Program) (Xt:Shared->Bool) (w:World) (s:Shared):List Bool:=
 [staticsOk (importedModules p.main.body) (boot_heap w.params) s.heap,namesBound p s.heap,gensDone s,laidKept (boot_heap w.params) s.heap,s.heap.isNs mainGlobals && s.heap.isNs builtinsNs && tablesOk q s.heap,Xt s && (s.gens.size==0)]
noncomputable def lk3 (p q:Program) (loose:List Str) (s:Shared):Bool:=s.heap.keysOk (looseW q loose) ((PyProof.Rows.recsOf q).map (·.name)) ((litsOf q).map (·.1)) ((clssOf q (looseW q loose)).map (·.name)) && s.heap.accountedOkI (importedModules p.main.body)
noncomputable def sfn (p:Program) (w:World) (os:OsState) (k0 kb J:Nat):Shared:=(stt p w os k0 kb J).abs
noncomputable def E3 (p q:Program) (Xt:Shared->Bool) (k0 kb J:Nat):Prop:=∀(w:World) (os:OsState),lkA p q Xt w (sfn p w os k0 kb J)=[true,true,true,true,true,true]
noncomputable def E4 {α:Type} (p:Program) (Yf:World->Shared->α) (Ya:World->α) (k0 kb J:Nat):Prop:=∀(w:World) (os:OsState),Yf w (sfn p w os k0 kb J)=Ya w
theorem left_whole {p q:Program} {loose:List Str} {Xt:Shared->Bool} {α β γ:Type} {Yf:Shared->α×β×γ} {Ya:World->α×β×γ} {N k0 kb kp J:Nat}
 (e:opening p=plainProg p.main.scope.names) (hN:Nat.ble 600 N=true) (f:∀s,fenceModules? p s=some s) (le:Nat.ble (k0+(kb+kp)) N=true)
 (size:∀w:World,((boot_heap w.params).isNs mainGlobals && (Array.mk []:Array GenState).size==0,(boot_heap w.params).objs.size,(boot_heap w.params).nsMap mainGlobals "__annotations__")=(true,11,some (.ref 6)))
 (e1:E1 p k0) (e2:E2 p k0 kb) (ei:∀(w:World) (os:OsState),stt p w os k0 kb 0=tb p w os k0 kb) (et:To p k0 kb 0 kp z0 J) (e3:E3 p q Xt k0 kb J)
 (e5:E4 p (λ_ s=>PyProof.Rows.seen ((PyProof.Rows.recsOf q).map (·.name)) (ownsOf q) [] { s with gens:=#[] }) (λ_=>PyProof.Rows.expectedOf q) k0 kb J)
 (e6:E4 p (λ_ s=>(s.heap.bltView,tabsOk q s,pinSeenD q (drecsOf q) s)) (λ_=>(bltViewBooted,true,pinGoodD (drecsOf q))) k0 kb J)
 (e7:E4 p (λ_ s=>lk3 p q loose s) (λ_=>true) k0 kb J)
 (e8:E4 p (λ_ s=>(plainSeenE q (looseW q loose) s,plainSeenD q loose s,wideSeen q s,clsSeenW q loose s)) (λ_=>(plainGoodE q (looseW q loose),plainGoodD q loose,wideGood q,clsGoodW q loose)) k0 kb J)
 (e4:E4 p (λ_ s=>(Yf s).1) (λw=>(Ya w).1) k0 kb J) (e9:E4 p (λ_ s=>(Yf s).2.1) (λw=>(Ya w).2.1) k0 kb J) (e10:E4 p (λ_ s=>(Yf s).2.2) (λw=>(Ya w).2.2) k0 kb J):LeftO p q loose Xt Yf Ya N:=λw=>by
 obtain ⟨⟨h,gs,d,k,os⟩,ho,e'⟩:=Option.map_eq_some_iff.mp (boot_open (N:=N) e hN f w)
 obtain ⟨rfl,rfl,rfl,rfl⟩:h=boot_heap w.params/\gs=Array.mk []/\d=boot_drawn/\k=boot_toks:=by simpa using e'
 obtain ⟨z1,z2,z3⟩:_/\_/\_:=by simpa only [Prod.mk.injEq] using size w
 have hA:=e3 w os
 generalize hsf:sfn p w os k0 kb J=sf at hA
 simp only [lkA,List.cons.injEq,and_true] at hA
 obtain ⟨a1,a2,a3,a4,a5,a6⟩:=hA
 have one:∀{β:Type} {Y:World->Shared->β} {v:World->β},E4 p Y v k0 kb J->Y w sf=v w:=λ{β Y v} h4=>by
  have h4:=h4 w os
  rw [hsf] at h4
  exact h4
 have l1:(staticsOk (importedModules p.main.body) (boot_heap w.params) sf.heap && namesBound p sf.heap && gensDone sf && laidKept (boot_heap w.params) sf.heap)=true:=by
  rw [a1,a2,a3,a4];rfl
 have b5:=one e5
 have b6:(sf.heap.bltView,tabsOk q sf,pinSeenD q (drecsOf q) sf)=(bltViewBooted,true,pinGoodD (drecsOf q)):=one e6
 have b7:lk3 p q loose sf=true:=one e7
 have b8:(plainSeenE q (looseW q loose) sf,plainSeenD q loose sf,wideSeen q sf,clsSeenW q loose sf)=(plainGoodE q (looseW q loose),plainGoodD q loose,wideGood q,clsGoodW q loose):=one e8
 have l2:openSeen q loose (importedModules p.main.body) Xt true sf=openGood q loose:=by
  obtain ⟨b61,b62⟩:=Prod.mk.inj b6
  obtain ⟨b62,b63⟩:=Prod.mk.inj b62
  obtain ⟨b81,b82⟩:=Prod.mk.inj b8
  obtain ⟨b82,b83⟩:=Prod.mk.inj b82
  obtain ⟨b83,b84⟩:=Prod.mk.inj b83
  obtain ⟨b71,b72⟩:=Bool.and_eq_true_iff.mp b7
  obtain ⟨a5,a53⟩:=Bool.and_eq_true_iff.mp a5
  obtain ⟨a51,a52⟩:=Bool.and_eq_true_iff.mp a5
  obtain ⟨a61,a62⟩:=Bool.and_eq_true_iff.mp a6
  unfold openSeen openGood
  rw [b71,b72,a51,a52,a53,a61,b61,b62,b63,b81,b82,b83,b84]
  refine Prod.ext b5 (Prod.ext rfl (Prod.ext ?_ rfl))
  simpa using a62
 have l3:Yf sf=Ya w:=Prod.ext (one e4) (Prod.ext (one e9) (one e10))
 obtain ⟨⟨s1,t1⟩,h1,ht⟩:=Option.map_eq_some_iff.mp (e1 w os)
 have ht':t1=_:=ht
 subst ht'
 have hsa:sa p w os k0=s1:=by unfold sa;rw [h1]
 have h2:=e2 w os
 unfold blk at h2
 rw [hsa] at h2
 have r1:topRun treeTable p w 11 (some (.ref 6)) kp (tb p w os k0 kb).abs (restOf (behindTheImports p) (env p) (cd p) z0 [topFrame z0])=some sf:=by
  have:=et w os
  rw [ei w os] at this
  exact this.trans (congrArg some hsf)
 have r:topRun treeTable p w 11 (some (.ref 6)) (k0+(kb+kp)) ⟨boot_heap w.params,Array.mk [],boot_drawn,boot_toks,os⟩ (topStub p)=some sf:=
  go_top h1 (piece_block h2 r1)
 have r:=topRun_mono (N-(k0+(kb+kp))) _ _ _ _ r
 rw [show k0+(kb+kp)+(N-(k0+(kb+kp)))=N by have:=Nat.le_of_ble_eq_true le;omega] at r
 have t:topFrom treeTable p w N ⟨boot_heap w.params,Array.mk [],boot_drawn,boot_toks,os⟩=some sf:=by
  unfold topFrom
  dsimp only
  rw [z1,z2,z3,r]
  show (match staticsOk (importedModules p.main.body) (boot_heap w.params) sf.heap && namesBound p sf.heap && gensDone sf && laidKept (boot_heap w.params) sf.heap with | true=>_ | false=>_)=_
  rw [l1]
 unfold openEnds
 rw [ho]
 show (topFrom treeTable p w N _).map _=_
 rw [t]
 exact congrArg some (Prod.ext l2 l3)
noncomputable def kOf (as:List Addr) (h:Heap):Frag:=as.filterMap λa=>(h.get? a).map λo=>(a,o)
theorem j6J (as:List Addr) (h:Heap):(kOf as h).In h:=by
 intro a o e
 induction as with
 | nil=>cases e
 | cons b l ih=>
  unfold kOf at e
  rw [List.filterMap_cons] at e
  cases hb:h.get? b with
  | none=>rw [hb] at e;exact ih e
  | some ob=>
   rw [hb] at e
   dsimp only [Option.map_some] at e
   rw [List.lookup_cons] at e
   by_cases q:(a==b)=true
   ·rw [q] at e
    cases e
    rw [beq_iff_eq.mp q]
    exact hb
   ·rw [Bool.eq_false_iff.mpr q] at e
    exact ih e
noncomputable def says {α:Type} (look:Frag->α) (v:α) (h:Heap):Prop:=∃K:Frag,K.In h/\look K=v
theorem says_of {α:Type} {look:Frag->α} {v:α} (as:List Addr) (s:Shared) (e:look (kOf as s.heap)=v):says look v s.heap:=⟨_,j6J as s.heap,e⟩
theorem says_keeps {α:Type} {look:Frag->α} {v:α} {h h':Heap} (e:says look v h) (k:∀b o,h.get? b=some o->h'.get? b=some o):says look v h':=by
 obtain ⟨K,i,e⟩:=e
 exact ⟨K,λa o q=>k _ _ (i a o q),e⟩
theorem row {α:Type} {l m:List α} (h:l=m) (i:Nat) {a b:α} (ha:l[i]?=some a) (hb:m[i]?=some b):a=b:=by
 subst h
 rw [ha] at hb
 exact Option.some.inj hb
end Hd
end L3
namespace Lw
open PySem L2
noncomputable def top (i:Nat):Stmt:=PySem.Challenge.pw_doughhours_k09_whole_refused_in_turn.main.body.getD i (.Pass ⟨0,0,0,0⟩)
noncomputable abbrev s_1:Stmt:=top 22
noncomputable abbrev s_2:Stmt:=top 23
noncomputable abbrev s_3:Stmt:=top 24
noncomputable abbrev s_4:Stmt:=top 25
noncomputable abbrev s_5:Stmt:=q1p (top 30) 0
noncomputable abbrev s_6:Stmt:=q1p (top 31) 0
noncomputable abbrev s_7:Stmt:=top 32
noncomputable abbrev s_8:Stmt:=top 33
noncomputable abbrev s_9:Stmt:=top 34
noncomputable abbrev j7u:Stmt:=top 35
noncomputable abbrev j7c:Stmt:=top 36
noncomputable abbrev j7J:Stmt:=q1p (top 49) 0
noncomputable abbrev j7X:Stmt:=q1p (top 49) 1
noncomputable abbrev j7P:Stmt:=top 50
noncomputable abbrev j7q:Stmt:=q1p (top 55) 0
noncomputable abbrev j9k:Stmt:=q1p (top 61) 0
noncomputable abbrev j8j:Stmt:=q1p (top 62) 0
noncomputable abbrev j7K:Stmt:=top 64
noncomputable abbrev j7i:Stmt:=top 66
noncomputable abbrev j7C:Stmt:=top 67
noncomputable abbrev j7b:Stmt:=top 70
noncomputable abbrev j7m:Stmt:=top 71
noncomputable abbrev j7k:Stmt:=top 75
noncomputable abbrev j7t:Stmt:=top 82
noncomputable abbrev j7V:Stmt:=top 83
noncomputable abbrev j7B:Stmt:=top 87
noncomputable abbrev j7M:Stmt:=top 88
noncomputable abbrev j7Q:Stmt:=top 90
noncomputable abbrev j7p:Stmt:=q1p (top 94) 0
noncomputable abbrev j7T:Stmt:=q1p (top 95) 0
noncomputable abbrev j71:Stmt:=top 99
noncomputable abbrev j7x:Stmt:=top 104
noncomputable abbrev j7r:Stmt:=top 105
noncomputable abbrev j7R:Stmt:=top 107
noncomputable abbrev j7A:Stmt:=top 110
noncomputable abbrev j7o:Stmt:=top 111
noncomputable abbrev j7G:Stmt:=top 112
noncomputable abbrev j7Y:Stmt:=top 113
noncomputable abbrev j73:Stmt:=top 114
noncomputable abbrev j7I:Stmt:=q1p (top 116) 0
noncomputable abbrev j7L:Stmt:=q1p (top 116) 1
noncomputable abbrev j72:Stmt:=top 118
noncomputable abbrev j7S:Stmt:=top 119
noncomputable abbrev j7g:Stmt:=top 120
noncomputable abbrev j7H:Stmt:=top 121
noncomputable abbrev j7U:Stmt:=top 122
noncomputable abbrev j7O:Stmt:=top 123
noncomputable abbrev j7y:Stmt:=top 124
noncomputable abbrev j7W:Stmt:=top 125
noncomputable abbrev j7j:Stmt:=top 126
noncomputable abbrev j7z:Stmt:=top 127
noncomputable abbrev j7d:Stmt:=top 128
end Lw
namespace Lw
open PySem PySem.W PyProof.Rows L2 L3
noncomputable def hAs:List Addr:=[2,3,15,17,18,20,21,22,29,30,31,32,35,42,43,44,47,54,55,56,59,66,67,68,71,78,79,80,83,90,91,92,95,102,103,104,107,114,115,116,119,126,127,128,131,138,139,140,143,150,151,152,155,162,163,164,167,174,175,176,179,186,187,188,191,198,199,200,203,210,211,212,215,218,219,220,222,223,225,226,227,229,230,232,233,234,236,237,239,240,248,250,251,253,254,255,256,257,258,259,269,271,272,274,275,276,277,278,279,280,283,286,287,288,290,291,293,294,295,297,298,300,301,302,304,305,307,308,309,311,312,314,315,316,318,319,321,322,330,333,334,335,337,338,340,341,342,343,344,345,346,349,351,352,354,355,363,365,366,368,369,370,371,372,373,374,377,379,380,382,383,384,386,387,389,390,391,393,394,396,397,398,400,401,403,404,412,413,415,416,418,419,420,422,423,425,426,427,429,430,432,433,434,435,436,437,438,448,450,451,453,454,455,456,457,458,459,462,464,465,467,468,469,471,472,474,475,476,478,479,481,482,483,485,486,488,489,490,493,494,495,498,499,500,503,504,505,508,509,510,512,513,515,516,517,518,520,521,523,524,525,527,528,530,531,532,534,535,537,538,539,541,542,544,545,546,549,550,551,553,554,556,557,558,561,562,563,566,567,568,570,571,573,574,575,577,578,580,581,582,584,585,587,588,589,591,592,594,595,596,598,599,601,602,603,605,606,608,609,610,612,613,615,616,617,620,621,622,630,631,633,634,636,637,638,639,640,641,642,652,654,655,657,658,659,661,662,664,665,666,668,669,671,672,673,676,677,678,679,680,681,682,685,688,689,690,692,693,695,696,697,700,701,702,705,706,707,710,711,712,714,715,717,718,719,721,722,724,725,726,729,730,731,734,735,736,738,739,741,742,743,746,747,748,750,751,753,754,755,757,758,760,761,762,765,766,767,769,770,772,773,774,777,778,786,788,789,791,792,793,795,796,798,799,800,802,803,805,806,807,809,810,812,813,814,816,817,819,820,821,822,823,824,825,828,830,831,833,834,835,837,838,840,841,842,844,845,847,848,849,852,853,854,856,857,859,860,861,864,865,866,869,870,871,873,874,876,877,878,880,881,883,884,885,887,888,890,891,892,895,896]
noncomputable abbrev nI (K:Frag) (x:Str):=nsIn K mainGlobals x
noncomputable abbrev mFd (n q:Str) (s:Stmt) (d m:Value) (c:Addr):FuncData:=fnOf n q (q1r s) (q0Z s) (q0g s) d .none .none m none (.ref c) .none
noncomputable abbrev fo (d:FuncData):Obj:=⟨.type "function",none,.func d,#[]⟩
noncomputable def q08 (K:Frag) (f c:Addr) (q:Str) (a:Option (Option Value)):=(K.lookup f,codeIn K (.ref c) q,keepIn K (.ref f),isFn K (.ref f),a)
noncomputable def q07 (f:Addr) (d:FuncData):Option Obj×Bool×Bool×Bool×Option (Option Value):=(some (fo d),true,true,true,some (some (.ref f)))
noncomputable abbrev p_0:Value:=Value.str "doughhours.checks" 454
noncomputable abbrev p_1:Value:=Value.str "doughhours.orders" 494
noncomputable abbrev p_2:Value:=Value.str "doughhours.bakery" 634
noncomputable abbrev p_3:Value:=Value.str "doughhours.ovens" 691
noncomputable abbrev p_4:Value:=Value.str "doughhours.plans" 774
noncomputable abbrev p_5:Value:=Value.str "doughhours.faults" 949
noncomputable abbrev p_6:Value:=Value.str "doughhours.board" 1068
noncomputable abbrev p_7:Value:=Value.str "doughhours.breads" 1116
noncomputable abbrev p_8:Value:=Value.str "doughhours.planner" 1214
noncomputable abbrev p_9:Value:=Value.str "doughhours.night" 1342
noncomputable abbrev q7S:Value:=Value.str "law_doughhours_k09_whole_refused_in_turn" 1407
noncomputable abbrev d_1:FuncData:=mFd "check_name" "check_name" s_1 .none p_0 218
noncomputable abbrev d_2:FuncData:=mFd "check_number" "check_number" s_2 .none p_0 225
noncomputable abbrev d_3:FuncData:=mFd "check_count" "check_count" s_3 .none p_0 232
noncomputable abbrev d_4:FuncData:=mFd "check_batch" "check_batch" s_4 .none p_0 239
noncomputable abbrev d_5:FuncData:=mFd "__init__" "Order.__init__" s_5 .none p_1 253
noncomputable abbrev d_6:FuncData:=mFd "__init__" "Batch.__init__" s_6 .none p_1 274
noncomputable abbrev d_7:FuncData:=mFd "greatest" "greatest" s_7 .none p_1 286
noncomputable abbrev d_8:FuncData:=mFd "check_due" "check_due" s_8 .none p_1 293
noncomputable abbrev d_9:FuncData:=mFd "accept" "accept" s_9 .none p_1 300
noncomputable abbrev j97:FuncData:=mFd "batches_of" "batches_of" j7u .none p_1 307
noncomputable abbrev w0w:FuncData:=mFd "cut" "cut" j7c .none p_1 314
noncomputable abbrev w0G:FuncData:=mFd "__init__" "Bakery.__init__" j7J .none p_2 333
noncomputable abbrev j9X:FuncData:=mFd "bread_of" "Bakery.bread_of" j7X .none p_2 340
noncomputable abbrev w0K:FuncData:=mFd "check_names_apart" "check_names_apart" j7P .none p_2 354
noncomputable abbrev w0c:FuncData:=mFd "__init__" "Oven.__init__" j7q .none p_3 368
noncomputable abbrev w0A:FuncData:=mFd "__init__" "Run.__init__" j9k (.ref 412) p_4 418
noncomputable abbrev w0f:FuncData:=mFd "__init__" "Part.__init__" j8j .none p_4 453
noncomputable abbrev w0J:FuncData:=mFd "fitted" "fitted" j7K .none p_4 474
noncomputable abbrev w0o:FuncData:=mFd "parts_of" "parts_of" j7i .none p_4 488
noncomputable abbrev w0M:FuncData:=mFd "lasting" "lasting" j7C .none p_4 493
noncomputable abbrev w0B:FuncData:=mFd "held" "held" j7b .none p_4 508
noncomputable abbrev j92:FuncData:=mFd "stand" "stand" j7m .none p_4 515
noncomputable abbrev w0p:FuncData:=mFd "fault" "fault" j7k .none p_5 530
noncomputable abbrev w0C:FuncData:=mFd "late" "late" j7t .none p_5 573
noncomputable abbrev w0z:FuncData:=mFd "heats" "heats" j7V .none p_5 580
noncomputable abbrev w0O:FuncData:=mFd "stage_rows" "stage_rows" j7B .none p_6 601
noncomputable abbrev w0L:FuncData:=mFd "door_rows" "door_rows" j7M .none p_6 608
noncomputable abbrev w0i:FuncData:=mFd "board" "board" j7Q .none p_6 620
noncomputable abbrev w0S:FuncData:=mFd "__init__" "Stage.__init__" j7p (.ref 630) p_7 636
noncomputable abbrev w0Q:FuncData:=mFd "__init__" "Bread.__init__" j7T .none p_7 657
noncomputable abbrev j99:FuncData:=mFd "narrow" "narrow" j71 .none p_8 688
noncomputable abbrev w0x:FuncData:=mFd "ways" "ways" j7x .none p_8 717
noncomputable abbrev w00:FuncData:=mFd "all_ways" "all_ways" j7r .none p_8 724
noncomputable abbrev w0Z:FuncData:=mFd "good_plans" "good_plans" j7R .none p_8 734
noncomputable abbrev w0s:FuncData:=mFd "latest" "latest" j7A .none p_8 753
noncomputable abbrev w0P:FuncData:=mFd "last_begin" "last_begin" j7o .none p_8 760
noncomputable abbrev w0E:FuncData:=mFd "slack" "slack" j7G .none p_8 765
noncomputable abbrev w0W:FuncData:=mFd "go_together" "go_together" j7Y .none p_8 772
noncomputable abbrev w0v:FuncData:=mFd "few" "few" j73 .none p_8 777
noncomputable abbrev j94:FuncData:=mFd "__init__" "Night.__init__" j7I .none p_9 791
noncomputable abbrev w0N:FuncData:=mFd "put" "Night.put" j7L .none p_9 798
noncomputable abbrev j96:FuncData:=mFd "_law_at" "_law_at" j72 .none q7S 833
noncomputable abbrev w0b:FuncData:=mFd "_law_pick" "_law_pick" j7S .none q7S 840
noncomputable abbrev j9Z:FuncData:=mFd "_law_is" "_law_is" j7g .none q7S 847
noncomputable abbrev w0I:FuncData:=mFd "_law_names" "_law_names" j7H .none q7S 852
noncomputable abbrev w0l:FuncData:=mFd "_law_stayed" "_law_stayed" j7U .none q7S 859
noncomputable abbrev w0Y:FuncData:=mFd "_law_wishes" "_law_wishes" j7O .none q7S 864
noncomputable abbrev w0q:FuncData:=mFd "_law_due" "_law_due" j7y .none q7S 869
noncomputable abbrev w0y:FuncData:=mFd "_law_call" "_law_call" j7W .none q7S 876
noncomputable abbrev w0t:FuncData:=mFd "_law_refused" "_law_refused" j7j .none q7S 883
noncomputable abbrev w0T:FuncData:=mFd "_law_put" "_law_put" j7z .none q7S 890
noncomputable abbrev q1F:FuncData:=mFd "law" "law" j7d .none q7S 895
noncomputable def q8x (K:Frag) (C:Addr) (n:Str) (fs:List Str):=(nI K n,[plainGet K C Str.empty,hasDictIn K C,plainOver K C,makesIn K C,keepIn K (.ref C)],findIn K (.ref C) "__setattr__",fs.map λx=>findIn K (.ref C) x)
noncomputable def q8H (C:Addr) (fs:List Str):Option (Option Value)×List Bool×Option (Option Value)×List (Option (Option Value)):=(some (some (.ref C)),[true,true,true,true,true],some (some (.builtin "object.__setattr__")),fs.map λ_=>some none)
noncomputable def q4a (K:Frag) (C:Addr) (n:Str):=(nI K n,excIn K C [.type "ValueError",.type "Exception",.type "BaseException",.type "object"] "ValueError.__new__")
noncomputable def q4b (C:Addr):Option (Option Value)×Bool:=(some (some (.ref C)),true)
noncomputable def hLF (K:Frag):=
 [q08 K 219 218 "check_name" (nI K "check_name"),
 q08 K 226 225 "check_number" (nI K "check_number"),
 q08 K 233 232 "check_count" (nI K "check_count"),
 q08 K 240 239 "check_batch" (nI K "check_batch"),
 q08 K 254 253 "Order.__init__" (findIn K (.ref 257) "__init__"),
 q08 K 275 274 "Batch.__init__" (findIn K (.ref 278) "__init__"),
 q08 K 287 286 "greatest" (nI K "greatest"),
 q08 K 294 293 "check_due" (nI K "check_due"),
 q08 K 301 300 "accept" (nI K "accept"),
 q08 K 308 307 "batches_of" (nI K "batches_of"),
 q08 K 315 314 "cut" (nI K "cut"),
 q08 K 334 333 "Bakery.__init__" (findIn K (.ref 344) "__init__"),
 q08 K 341 340 "Bakery.bread_of" (findIn K (.ref 344) "bread_of"),
 q08 K 355 354 "check_names_apart" (nI K "check_names_apart"),
 q08 K 369 368 "Oven.__init__" (findIn K (.ref 372) "__init__"),
 q08 K 419 418 "Run.__init__" (findIn K (.ref 436) "__init__"),
 q08 K 454 453 "Part.__init__" (findIn K (.ref 457) "__init__"),
 q08 K 475 474 "fitted" (nI K "fitted"),
 q08 K 489 488 "parts_of" (nI K "parts_of"),
 q08 K 494 493 "lasting" (nI K "lasting"),
 q08 K 509 508 "held" (nI K "held"),
 q08 K 516 515 "stand" (nI K "stand"),
 q08 K 531 530 "fault" (nI K "fault"),
 q08 K 574 573 "late" (nI K "late"),
 q08 K 581 580 "heats" (nI K "heats"),
 q08 K 602 601 "stage_rows" (nI K "stage_rows")]
noncomputable def hRF:=
 [q07 219 d_1,
 q07 226 d_2,
 q07 233 d_3,
 q07 240 d_4,
 q07 254 d_5,
 q07 275 d_6,
 q07 287 d_7,
 q07 294 d_8,
 q07 301 d_9,
 q07 308 j97,
 q07 315 w0w,
 q07 334 w0G,
 q07 341 j9X,
 q07 355 w0K,
 q07 369 w0c,
 q07 419 w0A,
 q07 454 w0f,
 q07 475 w0J,
 q07 489 w0o,
 q07 494 w0M,
 q07 509 w0B,
 q07 516 j92,
 q07 531 w0p,
 q07 574 w0C,
 q07 581 w0z,
 q07 602 w0O]
noncomputable def hLG (K:Frag):=
 [q08 K 609 608 "door_rows" (nI K "door_rows"),
 q08 K 621 620 "board" (nI K "board"),
 q08 K 637 636 "Stage.__init__" (findIn K (.ref 640) "__init__"),
 q08 K 658 657 "Bread.__init__" (findIn K (.ref 680) "__init__"),
 q08 K 689 688 "narrow" (nI K "narrow"),
 q08 K 718 717 "ways" (nI K "ways"),
 q08 K 725 724 "all_ways" (nI K "all_ways"),
 q08 K 735 734 "good_plans" (nI K "good_plans"),
 q08 K 754 753 "latest" (nI K "latest"),
 q08 K 761 760 "last_begin" (nI K "last_begin"),
 q08 K 766 765 "slack" (nI K "slack"),
 q08 K 773 772 "go_together" (nI K "go_together"),
 q08 K 778 777 "few" (nI K "few"),
 q08 K 792 791 "Night.__init__" (findIn K (.ref 823) "__init__"),
 q08 K 799 798 "Night.put" (findIn K (.ref 823) "put"),
 q08 K 834 833 "_law_at" (nI K "_law_at"),
 q08 K 841 840 "_law_pick" (nI K "_law_pick"),
 q08 K 848 847 "_law_is" (nI K "_law_is"),
 q08 K 853 852 "_law_names" (nI K "_law_names"),
 q08 K 860 859 "_law_stayed" (nI K "_law_stayed"),
 q08 K 865 864 "_law_wishes" (nI K "_law_wishes"),
 q08 K 870 869 "_law_due" (nI K "_law_due"),
 q08 K 877 876 "_law_call" (nI K "_law_call"),
 q08 K 884 883 "_law_refused" (nI K "_law_refused"),
 q08 K 891 890 "_law_put" (nI K "_law_put"),
 q08 K 896 895 "law" (nI K "law")]
noncomputable def hRG:=
 [q07 609 w0L,
 q07 621 w0i,
 q07 637 w0S,
 q07 658 w0Q,
 q07 689 j99,
 q07 718 w0x,
 q07 725 w00,
 q07 735 w0Z,
 q07 754 w0s,
 q07 761 w0P,
 q07 766 w0E,
 q07 773 w0W,
 q07 778 w0v,
 q07 792 j94,
 q07 799 w0N,
 q07 834 j96,
 q07 841 w0b,
 q07 848 j9Z,
 q07 853 w0I,
 q07 860 w0l,
 q07 865 w0Y,
 q07 870 w0q,
 q07 877 w0y,
 q07 884 w0t,
 q07 891 w0T,
 q07 896 q1F]
noncomputable def hLC (K:Frag):=
 [q8x K 257 "Order" ["bread","loaves","due"],
 q8x K 278 "Batch" ["order","first","loaves"],
 q8x K 344 "Bakery" ["night","hands","benches","ovens","breads"],
 q8x K 372 "Oven" ["room","rate","heat"],
 q8x K 436 "Run" ["begin","lengths","oven"],
 q8x K 457 "Part" ["batch","stage","begin","until","loaves","oven"],
 q8x K 640 "Stage" ["name","least","most","want","heat"],
 q8x K 680 "Bread" ["name","stages"],
 q8x K 823 "Night" ["bakery","orders"]]
noncomputable def hRC:=
 [q8H 257 ["bread","loaves","due"],
 q8H 278 ["order","first","loaves"],
 q8H 344 ["night","hands","benches","ovens","breads"],
 q8H 372 ["room","rate","heat"],
 q8H 436 ["begin","lengths","oven"],
 q8H 457 ["batch","stage","begin","until","loaves","oven"],
 q8H 640 ["name","least","most","want","heat"],
 q8H 680 ["name","stages"],
 q8H 823 ["bakery","orders"]]
noncomputable def hLE (K:Frag):=
 [q4a K 31 "DoughError",
 q4a K 44 "BadName",
 q4a K 56 "BadWant",
 q4a K 68 "BadNumber",
 q4a K 80 "BadCount",
 q4a K 92 "TwiceNamed",
 q4a K 104 "NoBread",
 q4a K 116 "BeyondNight",
 q4a K 128 "TooMany",
 q4a K 140 "BadPlan",
 q4a K 152 "NoBatch",
 q4a K 164 "NoOven",
 q4a K 176 "Faulty",
 q4a K 188 "TooCold",
 q4a K 200 "TooWide",
 q4a K 212 "NoPlan"]
noncomputable def hRE:=
 [q4b 31,
 q4b 44,
 q4b 56,
 q4b 68,
 q4b 80,
 q4b 92,
 q4b 104,
 q4b 116,
 q4b 128,
 q4b 140,
 q4b 152,
 q4b 164,
 q4b 176,
 q4b 188,
 q4b 200,
 q4b 212]
noncomputable def hZ:List Str:=["all","bool","enumerate","int","isinstance","len","max","min","range","set","sum","tuple","zip"]
noncomputable def hLV (K:Frag):List (Option (Option Value)):=
 [nsIn K mainGlobals "FASTEST",
 nsIn K mainGlobals "HOTTEST",
 nsIn K mainGlobals "LETTERS",
 nsIn K mainGlobals "LONGEST_NAME",
 nsIn K mainGlobals "MOST_BATCHES",
 nsIn K mainGlobals "MOST_BENCHES",
 nsIn K mainGlobals "MOST_BREADS",
 nsIn K mainGlobals "MOST_HANDS",
 nsIn K mainGlobals "MOST_LOAVES",
 nsIn K mainGlobals "MOST_ORDERS",
 nsIn K mainGlobals "MOST_OVENS",
 nsIn K mainGlobals "MOST_ROOM",
 nsIn K mainGlobals "MOST_STAGES",
 nsIn K mainGlobals "NIGHT",
 nsIn K mainGlobals "WANTS"]
noncomputable def hRV:List (Option (Option Value)):=
 [some (some (.int 300 695)),some (some (.int 300 460)),some (some (.str "abcdefghijklmnopqrstuvwxyz" 456)),some (some (.int 12 458)),some (some (.int 24 500)),some (some (.int 6 638)),some (some (.int 8 642)),some (some (.int 6 636)),some (some (.int 60 496)),some (some (.int 12 498)),some (some (.int 3 640)),some (some (.int 30 693)),some (some (.int 6 1123)),some (some (.int 720 615)),some (some (.ref 622))]
noncomputable def hLB (K:Frag):List Bool:=
 []
noncomputable def hRB:List Bool:=
 []
noncomputable def hLO (K:Frag):List (Option Obj):=
 [K.lookup 412,
 K.lookup 630,
 K.lookup 622]
noncomputable def hRO:List (Option Obj):=
 [some ⟨(Value.type "tuple"),(none),.seq #[.int 0 788] 0,(#[])⟩,some ⟨(Value.type "tuple"),(none),.seq #[.int 0 1137] 0,(#[])⟩,some ⟨.type "tuple",(none),.seq #[(.str "nothing" 1118),(.str "hands" 1119),(.str "bench" 1120),(.str "oven" 1121)] 0,(#[])⟩]
noncomputable def hLX (K:Frag):List (Option Bool):=
 [exmOne K (.ref 31) (.ref 80),
 exmOne K (.ref 31) (.ref 104),
 exmOne K (.ref 31) (.ref 116),
 exmOne K (.ref 31) (.ref 128),
 exmOne K (.ref 44) (.ref 80),
 exmOne K (.ref 44) (.ref 104),
 exmOne K (.ref 44) (.ref 116),
 exmOne K (.ref 44) (.ref 128),
 exmOne K (.ref 56) (.ref 80),
 exmOne K (.ref 56) (.ref 104),
 exmOne K (.ref 56) (.ref 116),
 exmOne K (.ref 56) (.ref 128),
 exmOne K (.ref 68) (.ref 80),
 exmOne K (.ref 68) (.ref 104),
 exmOne K (.ref 68) (.ref 116),
 exmOne K (.ref 68) (.ref 128),
 exmOne K (.ref 80) (.ref 80),
 exmOne K (.ref 80) (.ref 104),
 exmOne K (.ref 80) (.ref 116),
 exmOne K (.ref 80) (.ref 128),
 exmOne K (.ref 92) (.ref 80),
 exmOne K (.ref 92) (.ref 104),
 exmOne K (.ref 92) (.ref 116),
 exmOne K (.ref 92) (.ref 128),
 exmOne K (.ref 104) (.ref 80),
 exmOne K (.ref 104) (.ref 104),
 exmOne K (.ref 104) (.ref 116),
 exmOne K (.ref 104) (.ref 128),
 exmOne K (.ref 116) (.ref 80),
 exmOne K (.ref 116) (.ref 104),
 exmOne K (.ref 116) (.ref 116),
 exmOne K (.ref 116) (.ref 128),
 exmOne K (.ref 128) (.ref 80),
 exmOne K (.ref 128) (.ref 104),
 exmOne K (.ref 128) (.ref 116),
 exmOne K (.ref 128) (.ref 128),
 exmOne K (.ref 140) (.ref 80),
 exmOne K (.ref 140) (.ref 104),
 exmOne K (.ref 140) (.ref 116),
 exmOne K (.ref 140) (.ref 128),
 exmOne K (.ref 152) (.ref 80),
 exmOne K (.ref 152) (.ref 104),
 exmOne K (.ref 152) (.ref 116),
 exmOne K (.ref 152) (.ref 128),
 exmOne K (.ref 164) (.ref 80),
 exmOne K (.ref 164) (.ref 104),
 exmOne K (.ref 164) (.ref 116),
 exmOne K (.ref 164) (.ref 128),
 exmOne K (.ref 176) (.ref 80),
 exmOne K (.ref 176) (.ref 104),
 exmOne K (.ref 176) (.ref 116),
 exmOne K (.ref 176) (.ref 128),
 exmOne K (.ref 188) (.ref 80),
 exmOne K (.ref 188) (.ref 104),
 exmOne K (.ref 188) (.ref 116),
 exmOne K (.ref 188) (.ref 128),
 exmOne K (.ref 200) (.ref 80),
 exmOne K (.ref 200) (.ref 104),
 exmOne K (.ref 200) (.ref 116),
 exmOne K (.ref 200) (.ref 128),
 exmOne K (.ref 212) (.ref 80),
 exmOne K (.ref 212) (.ref 104),
 exmOne K (.ref 212) (.ref 116),
 exmOne K (.ref 212) (.ref 128)]
noncomputable def hRX:List (Option Bool):=
 [some false,some false,some false,some false,some false,some false,some false,some false,some false,some false,some false,some false,some false,some false,some false,some false,some true,some false,some false,some false,some false,some false,some false,some false,some false,some true,some false,some false,some false,some false,some true,some false,some false,some false,some false,some true,some false,some false,some false,some false,some false,some false,some false,some false,some false,some false,some false,some false,some false,some false,some false,some false,some false,some false,some false,some false,some false,some false,some false,some false,some false,some false,some false,some false]
noncomputable def hLI (K:Frag):List Bool:=[]
noncomputable def hRI:List Bool:=[]
noncomputable def q4R (K:Frag):=(hLF K,hLG K,hLC K,hLE K,hZ.map (λx=>nI K x),hLI K,hLV K,hLB K,hLO K,hLX K)
noncomputable def j33:=(hRF,hRG,hRC,hRE,hZ.map (λ_=>(some none:Option (Option Value))),hRI,hRV,hRB,hRO,hRX)
noncomputable def vw:Program:={ PySem.Challenge.pw_doughhours_k09_whole_refused_in_turn with main:={ (PySem.Challenge.pw_doughhours_k09_whole_refused_in_turn).main with body:=[0,2,3,4,5,6,7,8,9,10,11,12,13,14,15,16,17,19,20,21,22,23,24,25,27,28,29,30,31,32,33,34,35,36,38,39,40,41,42,43,45,46,47,48,49,50,52,53,54,55,56,57,58,59,61,62,63,64,65,66,67,68,69,70,71,73,74,75,76,77,78,79,80,81,82,83,84,86,87,88,89,90,92,93,94,95,97,98,99,100,101,102,103,104,105,106,107,108,109,110,111,112,113,114,116,118,119,120,121,122,123,124,125,126,127,128].map top } }
noncomputable abbrev Xv (s:Shared):Bool:=xlAt vw [] s && recOk (RowW.records (OpenRow.toRowW (OpenLaw.row PySem.Challenge.rw_doughhours_k09_whole_refused_in_turn))) s
theorem Za {a b:Bool} (h:a=true) (k:b=true):(a && b)=true:=by rw [h,k];rfl
theorem Zb:looksOpen PySem.Challenge.pw_doughhours_k09_whole_refused_in_turn=true:=by
 unfold looksOpen
 refine Za (Za (Za (Za (Za ?_ ?_) ?_) ?_) ?_) ?_ <;> decide +kernel
theorem Zc:PySem.Challenge.rw_doughhours_k09_whole_refused_in_turn.row.wellSaid=true:=by
 unfold OpenRow.wellSaid OpenRow.partSaid
 rw [show looksOpen PySem.Challenge.rw_doughhours_k09_whole_refused_in_turn.row.prog=true from Zb];kernel_rfl
theorem j4M:PySem.Challenge.rw_doughhours_k09_whole_refused_in_turn.wellSaid=true:=by
 unfold OpenLaw.wellSaid
 rw [Zc];kernel_rfl
theorem j5x:Hd.E1 PySem.Challenge.pw_doughhours_k09_whole_refused_in_turn 12:=λw os=>by kernel_rfl
theorem j5W:Hd.E2 PySem.Challenge.pw_doughhours_k09_whole_refused_in_turn 12 2:=λw os=>by kernel_rfl
theorem w06:Hd.Ch PySem.Challenge.pw_doughhours_k09_whole_refused_in_turn 12 2 0 8 1307 ⟨0,0,0,0⟩ ⟨15,0,16,8⟩:=λw os=>by kernel_rfl
theorem w1M:Hd.Ch PySem.Challenge.pw_doughhours_k09_whole_refused_in_turn 12 2 8 6 1294 ⟨15,0,16,8⟩ ⟨27,0,28,8⟩:=λw os=>by kernel_rfl
theorem w1r:Hd.Ch PySem.Challenge.pw_doughhours_k09_whole_refused_in_turn 12 2 14 17 1295 ⟨27,0,28,8⟩ ⟨57,0,63,22⟩:=λw os=>by kernel_rfl
theorem w05:Hd.Ch PySem.Challenge.pw_doughhours_k09_whole_refused_in_turn 12 2 31 30 1238 ⟨57,0,63,22⟩ ⟨170,0,170,8⟩:=λw os=>by kernel_rfl
theorem w1P:Hd.Ch PySem.Challenge.pw_doughhours_k09_whole_refused_in_turn 12 2 61 33 1407 ⟨170,0,170,8⟩ ⟨346,0,346,11⟩:=λw os=>by kernel_rfl
theorem w1R:Hd.Ch PySem.Challenge.pw_doughhours_k09_whole_refused_in_turn 12 2 94 24 1433 ⟨346,0,346,11⟩ ⟨490,0,490,8⟩:=λw os=>by kernel_rfl
theorem w04:Hd.Ch PySem.Challenge.pw_doughhours_k09_whole_refused_in_turn 12 2 118 11 346 ⟨490,0,490,8⟩ ⟨610,0,635,77⟩:=λw os=>by kernel_rfl
theorem j6V:Hd.E3 PySem.Challenge.pw_doughhours_k09_whole_refused_in_turn vw Xv 12 2 129:=λw os=>by kernel_rfl
theorem j5O:Hd.E4 PySem.Challenge.pw_doughhours_k09_whole_refused_in_turn (λ_ s=>PyProof.Rows.seen ((PyProof.Rows.recsOf vw).map (·.name)) (ownsOf vw) [] { s with gens:=#[] }) (λ_=>PyProof.Rows.expectedOf vw) 12 2 129:=λw os=>by kernel_rfl
theorem j51:Hd.E4 PySem.Challenge.pw_doughhours_k09_whole_refused_in_turn (λ_ s=>(s.heap.bltView,tabsOk vw s,pinSeenD vw (drecsOf vw) s)) (λ_=>(bltViewBooted,true,pinGoodD (drecsOf vw))) 12 2 129:=λw os=>by kernel_rfl
theorem j5T:Hd.E4 PySem.Challenge.pw_doughhours_k09_whole_refused_in_turn (λ_ s=>Hd.lk3 PySem.Challenge.pw_doughhours_k09_whole_refused_in_turn vw [] s) (λ_=>true) 12 2 129:=λw os=>by kernel_rfl
theorem j5s:Hd.E4 PySem.Challenge.pw_doughhours_k09_whole_refused_in_turn (λ_ s=>(plainSeenE vw (looseW vw []) s,plainSeenD vw [] s,wideSeen vw s,clsSeenW vw [] s)) (λ_=>(plainGoodE vw (looseW vw []),plainGoodD vw [],wideGood vw,clsGoodW vw [])) 12 2 129:=λw os=>by kernel_rfl
theorem j4W:Hd.E4 PySem.Challenge.pw_doughhours_k09_whole_refused_in_turn (λ_ s=>(q4R (Hd.kOf hAs s.heap)).1) (λ_=>j33.1) 12 2 129:=λw os=>by kernel_rfl
theorem j6R:Hd.E4 PySem.Challenge.pw_doughhours_k09_whole_refused_in_turn (λ_ s=>(q4R (Hd.kOf hAs s.heap)).2.1) (λ_=>j33.2.1) 12 2 129:=λw os=>by kernel_rfl
theorem j3E:Hd.E4 PySem.Challenge.pw_doughhours_k09_whole_refused_in_turn (λ_ s=>(q4R (Hd.kOf hAs s.heap)).2.2) (λ_=>j33.2.2) 12 2 129:=λw os=>by kernel_rfl
theorem w1Z:Hd.To PySem.Challenge.pw_doughhours_k09_whole_refused_in_turn 12 2 129 4 ⟨610,0,635,77⟩ 129:=Hd.To.fin (by kernel_rfl)
theorem w08:Hd.To PySem.Challenge.pw_doughhours_k09_whole_refused_in_turn 12 2 118 350 ⟨490,0,490,8⟩ 129:=Hd.To.of (j:=118) (m:=11) (n:=346) (N:=4) w04 w1Z
theorem w1k:Hd.To PySem.Challenge.pw_doughhours_k09_whole_refused_in_turn 12 2 94 1783 ⟨346,0,346,11⟩ 129:=Hd.To.of (j:=94) (m:=24) (n:=1433) (N:=350) w1R w08
theorem w1B:Hd.To PySem.Challenge.pw_doughhours_k09_whole_refused_in_turn 12 2 61 3190 ⟨170,0,170,8⟩ 129:=Hd.To.of (j:=61) (m:=33) (n:=1407) (N:=1783) w1P w1k
theorem w1e:Hd.To PySem.Challenge.pw_doughhours_k09_whole_refused_in_turn 12 2 31 4428 ⟨57,0,63,22⟩ 129:=Hd.To.of (j:=31) (m:=30) (n:=1238) (N:=3190) w05 w1B
theorem w1S:Hd.To PySem.Challenge.pw_doughhours_k09_whole_refused_in_turn 12 2 14 5723 ⟨27,0,28,8⟩ 129:=Hd.To.of (j:=14) (m:=17) (n:=1295) (N:=4428) w1r w1e
theorem w1N:Hd.To PySem.Challenge.pw_doughhours_k09_whole_refused_in_turn 12 2 8 7017 ⟨15,0,16,8⟩ 129:=Hd.To.of (j:=8) (m:=6) (n:=1294) (N:=5723) w1M w1S
theorem w1d:Hd.To PySem.Challenge.pw_doughhours_k09_whole_refused_in_turn 12 2 0 8324 ⟨0,0,0,0⟩ 129:=Hd.To.of (j:=0) (m:=8) (n:=1307) (N:=7017) w06 w1N
theorem q7D:LeftO (OpenLaw.row PySem.Challenge.rw_doughhours_k09_whole_refused_in_turn).prog vw [] Xv (λs=>q4R (Hd.kOf hAs s.heap)) (λ_=>j33) 17648:=
 Hd.left_whole (p:=PySem.Challenge.pw_doughhours_k09_whole_refused_in_turn) (kp:=8324) (by kernel_rfl) (by decide) (λs=>by kernel_rfl) (by decide) (λw=>by kernel_rfl) j5x j5W (λw os=>by kernel_rfl) w1d j6V j5O j51 j5T j5s j4W j6R j3E
end Lw
namespace L2
open PySem PySem.Spec PyProof.Rows
noncomputable abbrev Key:=Sum Int Str
noncomputable def j4X:Key->Value->Bool
 | .inl k,v=>Value.isInt k v
 | .inr x,v=>Value.isStrOf x v
noncomputable def w1H (w:World):Key->Int
 | .inl k=>hashInt k
 | .inr x=>hashStr w x
theorem q0J:∀{k:Key} {v:Value},j4X k v=true->(∃i t,k=Sum.inl i/\v=Value.int i t)∨(∃x t,k=Sum.inr x/\v=Value.str x t)
 | .inl i,v,h=>by
  obtain ⟨t,e⟩:=Value.isInt_shape (k:=i) (v:=v) h
  exact .inl ⟨i,t,rfl,e⟩
 | .inr x,v,h=>by
  obtain ⟨t,e⟩:=Value.isStrOf_shape (x:=x) (v:=v) h
  exact .inr ⟨x,t,rfl,e⟩
theorem j5e (a b:Int):decide ((Sum.inl a:Key)=Sum.inl b)=(a==b):=by
 by_cases e:a=b
 ·subst e;simp
 ·have h:¬(Sum.inl a:Key)=Sum.inl b:=λq=>e (Sum.inl.inj q)
  rw [decide_eq_false h]
  exact (beq_eq_false_iff_ne.mpr e).symm
theorem j4N (a b:Str):decide ((Sum.inr a:Key)=Sum.inr b)=decide (a=b):=by
 by_cases e:a=b
 ·subst e;simp
 ·have h:¬(Sum.inr a:Key)=Sum.inr b:=λq=>e (Sum.inr.inj q)
  rw [decide_eq_false h,decide_eq_false e]
theorem j5R (a:Int) (b:Str):decide ((Sum.inl a:Key)=Sum.inr b)=false:=decide_eq_false (λq=>nomatch q)
theorem j4R (a:Str) (b:Int):decide ((Sum.inr a:Key)=Sum.inl b)=false:=decide_eq_false (λq=>nomatch q)
noncomputable def q4W (prog:Program) (w:World):PySem.KeyKind prog w Key where
 is:=j4X
 hash:=w1H w
 inj:=λv a b ha hb=>by
  rcases q0J ha with ⟨i,t,rfl,rfl⟩ | ⟨x,t,rfl,rfl⟩
  ·rcases q0J hb with ⟨j,u,rfl,e⟩ | ⟨y,u,rfl,e⟩
   ·injection e with e1 _;rw [e1]
   ·exact nomatch e
  ·rcases q0J hb with ⟨j,u,rfl,e⟩ | ⟨y,u,rfl,e⟩
   ·exact nomatch e
   ·injection e with e1 _;rw [e1]
 byValue:=λk v h=>by
  rcases q0J h with ⟨i,t,rfl,rfl⟩ | ⟨x,t,rfl,rfl⟩<;>rfl
 pyHash:=λhv h=>by
  rcases q0J hv with ⟨i,t,rfl,rfl⟩ | ⟨x,t,rfl,rfl⟩
  ·exact wpAny_pyHash_int h
  ·exact wpAny_pyHash_str h
 eqBool:=λhu hv h=>by
  rcases q0J hu with ⟨i,t,rfl,rfl⟩ | ⟨x,t,rfl,rfl⟩
  ·rcases q0J hv with ⟨j,u,rfl,rfl⟩ | ⟨y,u,rfl,rfl⟩
   ·rw [j5e] at h;exact wpAny_eqBool_int h
   ·rw [j5R] at h;exact SeqAt.EqAt.int_str i t y u _ _ _ _ h
  ·rcases q0J hv with ⟨j,u,rfl,rfl⟩ | ⟨y,u,rfl,rfl⟩
   ·rw [j4R] at h;exact SeqAt.EqAt.str_int x t j u _ _ _ _ h
   ·rw [j4N] at h;exact wpAny_eqBool_str h
 «strs»:=λk x t v h=>by
  rcases q0J h with ⟨i,u,rfl,e⟩ | ⟨y,u,rfl,e⟩
  ·exact nomatch e
  ·injection e with e1 _
   subst e1
   cases v<;>rfl
inductive V where
 | non | bl (b:Bool) | int (i:Int) | str (x:Str) | byt (b:Array UInt8) | flt (b:UInt64) | ref (a:Addr) | ty (n:String)
 deriving DecidableEq
noncomputable def RelV:V->Value->Prop
 | .non,u=>u=Value.none
 | .bl b,u=>u=Value.bool b
 | .int i,u=>∃t,u=Value.int i t
 | .str x,u=>∃t,u=Value.str x t
 | .byt b,u=>∃t,u=Value.bytes b t
 | .flt b,u=>∃t,u=Value.float b t
 | .ref a,u=>u=Value.ref a
 | .ty n,u=>u=Value.type n
noncomputable abbrev Vals:List V->List Value->Prop:=Paired RelV
theorem Vals.length {xs:List V} {us:List Value} (r:Vals xs us):xs.length=us.length:=Paired.length r
theorem Vals.get:∀{xs:List V} {us:List Value} {i:Nat} {x:V},Vals xs us->xs[i]?=some x->∃u,us[i]?=some u/\RelV x u
 | _,_,_,_,.nil,e=>by simp at e
 | _,_,0,_,.cons r _,e=>by simp at e;subst e;exact ⟨_,rfl,r⟩
 | _,_,i+1,x,.cons _ t,e=>by
  obtain ⟨u,h1,h2⟩:=Vals.get (i:=i) (x:=x) t (by simpa using e)
  exact ⟨u,by simpa using h1,h2⟩
theorem Vals.set {x:V} {u:Value} (r:RelV x u):∀{xs:List V} {us:List Value} (i:Nat),Vals xs us->Vals (xs.set i x) (us.set i u)
 | _,_,_,.nil=>.nil
 | _,_,0,.cons _ t=>.cons r t
 | _,_,i+1,.cons q t=>.cons q (Vals.set r i t)
theorem Vals.append:∀{xs ys:List V} {us ws:List Value},Vals xs us->Vals ys ws->Vals (xs++ys) (us++ws)
 | _,_,_,_,.nil,s=>s
 | _,_,_,_,.cons r t,s=>.cons r (Vals.append t s)
theorem Vals.take:∀{xs:List V} {us:List Value} (n:Nat),Vals xs us->Vals (xs.take n) (us.take n)
 | _,_,0,_=>.nil
 | _,_,_+1,.nil=>.nil
 | _,_,n+1,.cons r t=>.cons r (Vals.take n t)
theorem Vals.drop:∀{xs:List V} {us:List Value} (n:Nat),Vals xs us->Vals (xs.drop n) (us.drop n)
 | _,_,0,r=>r
 | _,_,_+1,.nil=>.nil
 | _,_,n+1,.cons _ t=>Vals.drop n t
noncomputable def RelO:Option V->Option Value->Prop
 | some v,some u=>RelV v u
 | none,none=>True
 | _,_=>False
noncomputable def KV {κ:Type}:List (κ×V)->List (κ×Value)->Prop:=Paired λ(p:κ×V) (q:κ×Value)=>p.1=q.1/\RelV p.2 q.2
noncomputable def kV:Key->V
 | .inl i=>.int i
 | .inr x=>.str x
inductive HO where
 | lst (xs:List V)
 | tup (xs:List V)
 | dK (kvs:List (Key×V)) | dT (kvs:List (List Key×V))
 | set (S:Int->Bool) (n:Nat)
 | ins (C dx:Addr) (fs:List (Str×V))
 | own (x:Addr)
 | xd (fs:List (Str×V))
 | met (f x:Addr)
 | rng (lo hi:Int)
 | frz (o:Obj) (u:HO)
 | tbl (ps:Array Value)
 | ext (φ:Heap->Prop)
noncomputable abbrev Hp:=Addr->Option HO
noncomputable def upd (H:Hp) (a:Addr) (o:HO):Hp:=λb=>if b=a then some o else H b
theorem q0p {H:Hp} {a:Addr} {o:HO}:upd H a o a=some o:=by unfold upd;rw [if_pos rfl]
theorem q0i {H:Hp} {a b:Addr} {o:HO} (h:b≠a):upd H a o b=H b:=by unfold upd;rw [if_neg h]
theorem q1B {H:Hp} {a b:Addr} {o:HO} (h:H a=some o) (h':H b=none):a≠b:=by
 intro e;subst e;rw [h] at h';cases h'
section
variable (P:Program) (w:World)
noncomputable def ObjOk (H:Hp) (h:Heap) (a:Addr):HO->Prop
 | .lst xs=>xs.length<=sizeLine/\∃(its:List Value) (n:Nat),Vals xs its/\h.get? a=some { cls:=.type "list",data:=.seq its.toArray n }
 | .tup xs=>xs.length<=sizeLine/\∃its:List Value,Vals xs its/\IsTup h a its.toArray
 | .dK kvs=>kvs.length<=sizeLine/\(a==sysModules)=false/\∃vs,KV kvs vs/\h.DictOf (q4W P w) a vs
 | .dT kvs=>kvs.length<=sizeLine/\(a==sysModules)=false/\∃xs:List (List Key×Addr×Value),
  Paired (λ(p:List Key×V) (q:List Key×Addr×Value)=>p.1=q.1/\H q.2.1=some (.tup (p.1.map kV))/\RelV p.2 q.2.2) kvs xs /\
  ∃o es ep,h.get? a=some o/\o.ExactDict/\o.data=.dict es ep/\es.toList=xs.map (entryOfKey (tupleKind (q4W P w)))/\(xs.map (·.1)).Nodup
 | .set S n=>h.SetOf (intKind P w) a S n
 | .ins C dx fs=>H dx=some (.own a)/\fs.length<=1000/\dx≠a/\h.get? a=some (PySem.W.instObj C dx) /\
  ∃mA,h.Ns1 dx mA/\(∀f,RelO (fs.lookup f) (mA f))/\PySem.Within mA (fs.map (·.1))
 | .own _=>∃o,h.get? a=some o
 | .xd fs=>∃mA,h.Ns1 a mA/\∀f,RelO (fs.lookup f) (mA f)
 | .rng lo hi=>∃t u v,h.get? a=some { cls:=.type "range",data:=.fields #[.int lo t,.int hi u,.int 1 v] }
 | .frz o u=>h.get? a=some o/\ObjOk H h a u
 | .tbl ps=>h.get? a=some { cls:=.none,data:=.fields ps }
 | .met f x=>h.get? a=some (PySem.W.methodObj (.ref f) (.ref x))
 | .ext φ=>φ h/\(∃o,h.get? a=some o)/\∀h1 h2:Heap,φ h1->(∀o,h1.get? a=some o->h2.get? a=some o)->φ h2
noncomputable def HOk (H:Hp) (h:Heap):Prop:=∀a o,H a=some o->ObjOk P w H h a o
end
section
variable {P:Program} {w:World} {H H':Hp} {h h':Heap} {a:Addr} {o:HO}
theorem ObjOk.lt (x:ObjOk P w H h a o):a < h.objs.size:=by
 cases o with
 | lst xs=>obtain ⟨_,_,_,_,e⟩:=x;exact Heap.lt_size e
 | tup xs=>obtain ⟨_,_,_,p⟩:=x;exact p.lt
 | dK kvs=>obtain ⟨_,_,_,_,o,_,_,e,_⟩:=x;exact Heap.lt_size e
 | dT kvs=>obtain ⟨_,_,_,_,o,_,_,e,_⟩:=x;exact Heap.lt_size e
 | set S n=>obtain ⟨o,_,_,_,e,_⟩:=x;exact Heap.lt_size e
 | ins C dx fs=>obtain ⟨_,_,_,e,_⟩:=x;exact Heap.lt_size e
 | own y=>obtain ⟨_,e⟩:=x;exact Heap.lt_size e
 | xd fs=>obtain ⟨_,⟨_,_,_,e,_⟩,_⟩:=x;exact Heap.lt_size e
 | rng lo hi=>obtain ⟨_,_,_,e⟩:=x;exact Heap.lt_size e
 | frz ob u=>obtain ⟨e,_⟩:=x;exact Heap.lt_size e
 | tbl ps=>exact Heap.lt_size (show h.get? a=some _ from x)
 | met f y=>exact Heap.lt_size (show h.get? a=some _ from x)
 | ext φ=>obtain ⟨_,⟨_,e⟩,_⟩:=x;exact Heap.lt_size e
theorem Paired.mapP {α β:Type} {F G:α->β->Prop}:∀{l₁:List α} {l₂:List β},Paired F l₁ l₂->(∀a b,F a b->G a b)->Paired G l₁ l₂
 | _,_,.nil,_=>.nil
 | _,_,.cons r t,f=>.cons (f _ _ r) (Paired.mapP t f)
theorem ObjOk.stay (x:ObjOk P w H h a o) (k:∀b u,(b=a∨H b=some (.own a))->h.get? b=some u->h'.get? b=some u)
 (ho:∀b,H b=some (.own a)->H' b=some (.own a)) (ht:∀b xs,H b=some (.tup xs)->H' b=some (.tup xs)):ObjOk P w H' h' a o:=by
 induction o with
 | lst xs=>obtain ⟨z,its,n,r,e⟩:=x;exact ⟨z,its,n,r,k _ _ (.inl rfl) e⟩
 | tup xs=>obtain ⟨z,its,r,ob,e,c⟩:=x;exact ⟨z,its,r,ob,k _ _ (.inl rfl) e,c⟩
 | dK kvs=>obtain ⟨z,y,vs,r,ob,es,ep,e,c⟩:=x;exact ⟨z,y,vs,r,ob,es,ep,k _ _ (.inl rfl) e,c⟩
 | dT kvs=>
  obtain ⟨z,y,xs,r,ob,es,ep,e,c⟩:=x
  exact ⟨z,y,xs,Paired.mapP r λp q z=>⟨z.1,ht _ _ z.2.1,z.2.2⟩,ob,es,ep,k _ _ (.inl rfl) e,c⟩
 | set S n=>obtain ⟨ob,es,ep,t,e,c⟩:=x;exact ⟨ob,es,ep,t,k _ _ (.inl rfl) e,c⟩
 | ins C dx fs=>
  obtain ⟨d,z,ne,e,mA,⟨od,es,ep,e2,c⟩,r⟩:=x
  exact ⟨ho _ d,z,ne,k _ _ (.inl rfl) e,mA,⟨od,es,ep,k _ _ (.inr d) e2,c⟩,r⟩
 | own y=>obtain ⟨ob,e⟩:=x;exact ⟨ob,k _ _ (.inl rfl) e⟩
 | xd fs=>obtain ⟨mA,⟨od,es,ep,e,c⟩,r⟩:=x;exact ⟨mA,⟨od,es,ep,k _ _ (.inl rfl) e,c⟩,r⟩
 | rng lo hi=>obtain ⟨t,u,v,e⟩:=x;exact ⟨t,u,v,k _ _ (.inl rfl) e⟩
 | frz ob u ih=>obtain ⟨e,q⟩:=x;exact ⟨k _ _ (.inl rfl) e,ih q⟩
 | tbl ps=>
  have e:h.get? a=some { cls:=.none,data:=.fields ps }:=x
  show h'.get? a=some { cls:=.none,data:=.fields ps }
  exact k a _ (.inl rfl) e
 | met f y=>
  have e:h.get? a=some (PySem.W.methodObj (.ref f) (.ref y)):=x
  show h'.get? a=some (PySem.W.methodObj (.ref f) (.ref y))
  exact k a _ (.inl rfl) e
 | ext φ=>obtain ⟨p,⟨o,e⟩,st⟩:=x;exact ⟨st _ _ p λo q=>k _ _ (.inl rfl) q,⟨o,k _ _ (.inl rfl) e⟩,st⟩
theorem HOk.lt (x:HOk P w H h) (e:H a=some o):a < h.objs.size:=(x a o e).lt
theorem HOk.fresh (x:HOk P w H h) (e:h.objs.size<=a):H a=none:=by
 cases q:H a with
 | none=>rfl
 | some u=>exact absurd (Nat.lt_of_lt_of_le (x.lt q) e) (Nat.lt_irrefl _)
theorem HOk.kept (x:HOk P w H h) (k:∀b u,h.get? b=some u->h'.get? b=some u):HOk P w H h':=λa o e=>
 (x a o e).stay (λb u _ q=>k b u q) (λ_ q=>q) λ_ _ q=>q
theorem HOk.laid (x:HOk P w H h) (k:∀b u,h.get? b=some u->h'.get? b=some u) (hp:h.objs.size<=a) (new:ObjOk P w (upd H a o) h' a o):HOk P w (upd H a o) h':=λb u e=>by
 have hn:=x.fresh hp
 by_cases hb:b=a
 ·subst hb;rw [q0p] at e;cases e;exact new
 ·rw [q0i hb] at e
  exact (x b u e).stay (λc v _ q=>k c v q) (λc q=>by rw [q0i (q1B q hn)];exact q) λc xs q=>by rw [q0i (q1B q hn)];exact q
end
noncomputable def Rd (H:Hp) (a:Addr) (u:HO):Prop:=H a=some u∨∃o,H a=some (.frz o u)
theorem Rd.ok {P:Program} {w:World} {H:Hp} {h:Heap} {a:Addr} {u:HO} (r:Rd H a u) (x:HOk P w H h):ObjOk P w H h a u:=by
 rcases r with r | ⟨o,r⟩
 ·exact x a u r
 ·obtain ⟨_,q⟩:=x a _ r
  exact q
noncomputable def Mut:Option HO->Prop
 | some (.lst _)=>True
 | some (.dK _)=>True
 | some (.dT _)=>True
 | some (.set _ _)=>True
 | some (.ins _ _ _)=>True
 | some (.ext _)=>True
 | _=>False
section
variable {P:Program} {w:World} {H:Hp} {h h':Heap} {x e:Addr} {o':HO}
theorem HOk.write (ok:HOk P w H h) (mu:Mut (H x)) (he:e=x∨H e=some (.own x)) (k:∀b u,b≠e->h.get? b=some u->h'.get? b=some u) (heo:∃u,h'.get? e=some u)
 (new:ObjOk P w (upd H x o') h' x o'):HOk P w (upd H x o') h':=λb u q=>by
 have nown:∀c y,H c=some (.own y)->c≠x:=λc y r z=>by subst z;rw [r] at mu;exact mu
 have ntup:∀c xs,H c=some (.tup xs)->c≠x:=λc xs r z=>by subst z;rw [r] at mu;exact mu
 by_cases hb:b=x
 ·subst hb;rw [q0p] at q;cases q;exact new
 ·rw [q0i hb] at q
  by_cases hbe:b=e
  ·have q':H b=some (.own x):=by
    rcases he with z | z
    ·exact absurd (hbe.trans z) hb
    ·rw [hbe];exact z
   rw [q] at q';cases q'
   obtain ⟨v,hv⟩:=heo
   exact ⟨v,by rw [hbe];exact hv⟩
  ·refine (ok b u q).stay (λc v hc r=>k c v ?_ r) (λc r=>by rw [q0i (nown c b r)];exact r) λc xs r=>by rw [q0i (ntup c xs r)];exact r
   rcases hc with rfl | hc
   ·exact hbe
   ·rintro rfl
    rcases he with z | z
    ·exact nown c b hc z
    ·rw [hc] at z;cases z;exact hb rfl
end
structure Un (fs ex:List Addr) (H H':Hp) (h h':Heap):Prop where
 keep:∀b o,h.get? b=some o->H b=none->b∉fs->b∉ex->h'.get? b=some o
 slot:∀b o,h.get? b=some o->H b=none->b∈fs->b∉ex->∃sl,h'.get? b=some { o with slots:=sl }
 free:∀b o,h.get? b=some o->H b=none->b∉ex->H' b=none
 there:∀b o,h.get? b=some o->b∉ex->∃o',h'.get? b=some o'
 tups:∀b xs,H b=some (.tup xs)->H' b=some (.tup xs)
 frzs:∀b o u,H b=some (.frz o u)->H' b=some (.frz o u)
 tbls:∀b ps,H b=some (.tbl ps)->∃more,H' b=some (.tbl (ps++more))
section
variable {fs fs' ex ex':List Addr} {H H1 H2:Hp} {h h1 h2 h':Heap} {a x e:Addr} {o:HO}
theorem Un.any (u:Un fs ex H H1 h h1) {b:Addr} {ob:Obj} (q:h.get? b=some ob) (n:H b=none) (hx:b∉ex):∃sl,h1.get? b=some { ob with slots:=sl }:=by
 by_cases hb:b∈fs
 ·exact u.slot b ob q n hb hx
 ·exact ⟨ob.slots,u.keep b ob q n hb hx⟩
theorem Un.kept (k:∀b u,h.get? b=some u->h'.get? b=some u):Un fs ex H H h h':=
 ⟨λb ob q _ _ _=>k b ob q,λb ob q _ _ _=>⟨ob.slots,k b ob q⟩,λ_ _ _ n _=>n,λb ob q _=>⟨ob,k b ob q⟩,λ_ _ q=>q,λ_ _ _ q=>q,λ_ ps q=>⟨#[],by rw [q];simp⟩⟩
theorem Un.refl:Un fs ex H H h h:=Un.kept λ_ _ q=>q
theorem Un.laid (k:∀b u,h.get? b=some u->h'.get? b=some u) (hp:h.objs.size<=a) (hn:H a=none):Un fs ex H (upd H a o) h h' where
 keep:=λb u q _ _ _=>k b u q
 slot:=λb u q _ _ _=>⟨u.slots,k b u q⟩
 free:=λb u q n _=>by rw [q0i (Nat.ne_of_lt (Nat.lt_of_lt_of_le (Heap.lt_size q) hp))];exact n
 there:=λb u q _=>⟨u,k b u q⟩
 tups:=λb xs q=>by rw [q0i (q1B q hn)];exact q
 frzs:=λb u xs q=>by rw [q0i (q1B q hn)];exact q
 tbls:=λb ps q=>⟨#[],by rw [q0i (q1B q hn),q];simp⟩
theorem Un.write (mu:Mut (H x)) (he:e=x∨H e=some (.own x)) (k:∀b u,b≠e->h.get? b=some u->h'.get? b=some u) (heo:∃u,h'.get? e=some u):Un fs ex H (upd H x o) h h':=by
 have hx:∀b,H b=none->b≠x:=λb n z=>by subst z;rw [n] at mu;exact mu
 have hb:∀b,H b=none->b≠e:=λb n z=>by
  subst z
  rcases he with r | r
  ·exact hx b n r
  ·rw [n] at r;cases r
 have hm:∀b u,H b=some u->¬Mut (some u)->b≠x:=λb u q nm z=>by subst z;rw [q] at mu;exact nm mu
 refine ⟨λb u q n _ _=>k b u (hb b n) q,λb u q n _ _=>⟨u.slots,k b u (hb b n) q⟩,λb u q n _=>by rw [q0i (hx b n)];exact n,λb u q _=>?_,
  λb xs q=>by rw [q0i (hm b _ q λz=>z)];exact q,λb u xs q=>by rw [q0i (hm b _ q λz=>z)];exact q,λb ps q=>⟨#[],by rw [q0i (hm b _ q λz=>z),q];simp⟩⟩
 by_cases hbe:b=e
 ·subst hbe;exact heo
 ·exact ⟨u,k b u hbe q⟩
end
noncomputable def trk (h:Heap) (H:Hp):List Addr:=(List.range h.objs.size).filter λa=>(H a).isSome
noncomputable def j0j (h:Heap) (H:Hp):Heap:=PySem.W.hideAll h (trk h H)
theorem q83 (h:Heap) (H:Hp):(j0j h H).objs.size=h.objs.size:=PySem.W.hideAll_size _ _
theorem j0J {h:Heap} {H:Hp} {b:Addr} {o:Obj} (e:h.get? b=some o) (n:H b=none):(j0j h H).get? b=some o:=
 PySem.W.hideAll_get _ e λhm=>by
  have q:(H b).isSome=true:=(List.mem_filter.mp hm).2
  rw [n] at q;simp at q
theorem j4s {h:Heap} {H:Hp} {b:Addr} {o:Obj} (e:(j0j h H).get? b=some o):h.get? b=some o/\H b=none:=by
 have e':h.get? b=some o:=PySem.W.of_hideAll (trk h H) e
 refine ⟨e',?_⟩
 cases q:H b with
 | none=>rfl
 | some x=>
  have hm:b∈trk h H:=List.mem_filter.mpr ⟨List.mem_range.mpr (Heap.lt_size e'),by simp [q]⟩
  have z:(j0j h H).get? b=none:=PySem.W.hideAll_none (trk h H) hm
  rw [z] at e;cases e
noncomputable def j3S (g h:Heap) (L:Addr):List (Addr×Obj):=(List.range h.objs.size).filterMap λa=>if a=L∨(g.get? a).isSome=true then none else (h.get? a).map λo=>(a,o)
noncomputable def rest (g h:Heap) (L d:Addr):List (Addr×Obj):=(j3S g h L).filter λp=>decide (p.1≠d)
structure Mod (K:PySem.W.Frag) (mg:Str->Option Value) (base:Heap):Prop where
 kin:K.In base
 glob:base.Ns mainGlobals mg
 blt:∃mb,base.Ns builtinsNs mb/\∀x:Str,x≠"__name__"->mb x=bootBuiltins x
 nolimit:base.NoLimit
structure Cx where
 prog:Program
 w:World
 K:PySem.W.Frag
 mg:Str->Option Value
 base:Heap
 A:Around
 N:List Str
 s₀:Shared
 H₀:Hp
 env:Env
 outer:List Env
 stack:List Env
 ex:List Addr
 fn:Str->Bool
 calm:Bool
 pn:List (Addr×Obj)
 xe:Value->Shared->Prop
noncomputable def frs (l:List Env):List Addr:=l.filterMap (·.frame)
noncomputable abbrev Cx.fs (X:Cx):List Addr:=frs X.outer
noncomputable def Vis (sc:Scope) (x:Str):Prop:=sc.names.lookup x=some .local∨sc.names.lookup x=some .cell∨sc.names.lookup x=some .free
noncomputable def Loc (sc:Scope) (x:Str):Prop:=sc.names.lookup x=some .local∨sc.names.lookup x=some .cell
noncomputable def Look (env:Env) (h:Heap) (m:Str->Option Value) (x:Str) (u:Value):Prop:=
 (env.kindOf x=some .local/\m x=some u)∨((env.kindOf x=some .cell∨env.kindOf x=some .free)/\∃c,env.cells.lookup x=some c/\h.IsCell c (some u))
structure Cx.Ok (X:Cx):Prop where
 mod:Mod X.K X.mg X.base
 kind:X.env.scope.kind=.function
 glob:X.env.globals=mainGlobals
 blt:X.env.builtins=builtinsNs
 above:X.s₀.heap.objs.size<=X.env.locals
 inj:∀x y c,X.env.cells.lookup x=some c->X.env.cells.lookup y=some c->x=y
 has:∀x,(X.env.kindOf x=some .cell∨X.env.kindOf x=some .free)->∃c,X.env.cells.lookup x=some c
 cab:∀x c,X.fn x=true->X.env.cells.lookup x=some c->X.s₀.heap.objs.size<=c
 hd:X.calm=true->X.A.handled=none
 frames:X.A.frames=some X.stack
 stk:X.stack=X.outer∨(X.stack=X.env::X.outer/\X.env.frame=some X.env.locals)
 exf:∀b∈X.ex,b≠X.env.locals/\∀x c,X.env.cells.lookup x=some c->c≠b
 bs:∀b o,X.base.get? b=some o->X.s₀.heap.get? b=some o/\X.H₀ b=none
 bsz:X.base.objs.size<=X.s₀.heap.objs.size
 noex:∀b o,X.base.get? b=some o->b∉X.ex
 exfs:∀b∈X.ex,b∉X.fs
 funs:X.s₀.heap.FunFrames X.base X.outer
 frf:∀b∈X.fs,X.H₀ b=none
structure Inv (X:Cx) (pins:List (Addr×Obj)) (σ:List (Option V)) (H:Hp) (s:Shared):Prop where
 ok:X.Ok
 os:s.os=X.s₀.os
 bare:AllBare s.gens
 base:Un X.fs X.ex X.H₀ H X.s₀.heap s.heap
 loc:∃m,s.heap.Ns X.env.locals m/\∀(i:Nat) (x:Str) (v:V),X.N[i]?=some x->σ[i]?=some (some v)->Vis X.env.scope x->∃u,RelV v u/\Look X.env s.heap m x u
 cell:∀x c,X.env.cells.lookup x=some c->∃v,s.heap.IsCell c v
 free:H X.env.locals=none
 freeC:∀x c,X.env.cells.lookup x=some c->H c=none
 pin:∀p∈X.pn++pins,s.heap.get? p.1=some p.2/\H p.1=none/\p.1≠X.env.locals/\p.1∉X.fs/\∀v,p.2.data≠.cell v
 hok:HOk X.prog X.w H s.heap
 len:σ.length=X.N.length
section
variable {X:Cx} {pins:List (Addr×Obj)} {σ:List (Option V)} {H H':Hp} {s:Shared} {h':Heap}
theorem Cx.Ok.nofr (ok:X.Ok) {b:Addr} {o:Obj} (e:X.base.get? b=some o):b∉X.fs:=λhb=>by
 have:=(ok.funs.mem hb).1
 rw [e] at this;cases this
theorem Inv.bs (I:Inv X pins σ H s):∀b o,X.base.get? b=some o->s.heap.get? b=some o/\H b=none:=λb o e=>
 ⟨I.base.keep b o (I.ok.bs b o e).1 (I.ok.bs b o e).2 (I.ok.nofr e) (I.ok.noex b o e),I.base.free b o (I.ok.bs b o e).1 (I.ok.bs b o e).2 (I.ok.noex b o e)⟩
theorem Inv.bk (I:Inv X pins σ H s):∀b o,X.base.get? b=some o->s.heap.get? b=some o:=λb o e=>(I.bs b o e).1
theorem Inv.mod (I:Inv X pins σ H s):Mod X.K X.mg X.base:=I.ok.mod
theorem Inv.kIn (I:Inv X pins σ H s):X.K.In s.heap:=I.ok.mod.kin.keeps I.bk
theorem Inv.lt (I:Inv X pins σ H s):X.env.locals < s.heap.objs.size:=let ⟨_,hn,_⟩:=I.loc;hn.lt
theorem Inv.sz (I:Inv X pins σ H s):X.s₀.heap.objs.size<=s.heap.objs.size:=Nat.le_trans I.ok.above (Nat.le_of_lt I.lt)
theorem Inv.nofs (I:Inv X pins σ H s) {a:Addr} (h:s.heap.objs.size<=a):a∉X.fs:=λhb=>by
 obtain ⟨_,o,ho,_⟩:=I.ok.funs.mem hb
 exact absurd (Nat.lt_of_lt_of_le (Heap.lt_size ho) (Nat.le_trans I.sz h)) (Nat.lt_irrefl _)
theorem Inv.cne (I:Inv X pins σ H s):∀x c,X.env.cells.lookup x=some c->c≠X.env.locals:=λx c e z=>by
 obtain ⟨v,o,ho,hd⟩:=I.cell x c e
 obtain ⟨m,⟨o',es,ep,ho',hd',_⟩,_⟩:=I.loc
 rw [z,ho'] at ho;cases ho;rw [hd'] at hd;cases hd
theorem Inv.funs (I:Inv X pins σ H s):s.heap.FunFrames X.base X.outer:=by
 have all:∀(l:List Env),(∀b∈frs l,b∈X.fs)->X.s₀.heap.FunFrames X.base l->s.heap.FunFrames X.base l:=by
  intro l
  induction l with
  | nil=>intro _ _;trivial
  | cons env r ih=>
   intro hs hl
   obtain ⟨hk,⟨L,o,hf,hn,ho,hd⟩,hr⟩:=hl
   have hL:L∈X.fs:=hs L (by unfold frs;rw [List.filterMap_cons,hf];exact List.mem_cons_self)
   obtain ⟨sl,e⟩:=I.base.slot L o ho (I.ok.frf L hL) hL λz=>I.ok.exfs L z hL
   exact ⟨hk,⟨L,_,hf,hn,e,hd⟩,ih (λb hb=>hs b (by unfold frs;rw [List.filterMap_cons,hf];exact List.mem_cons_of_mem _ hb)) hr⟩
 exact all X.outer (λ_ hb=>hb) I.ok.funs
theorem Inv.stack (I:Inv X pins σ H s):s.heap.FunFrames X.base X.stack:=by
 rcases I.ok.stk with e | ⟨e,hf⟩
 ·rw [e];exact I.funs
 ·rw [e]
  obtain ⟨m,hn,_⟩:=I.loc
  refine .cons (by rw [I.ok.kind];decide) hf hn ?_ I.funs
  exact Heap.get?_none_of_le (Nat.le_trans I.ok.bsz I.ok.above)
theorem Inv.stkSub (I:Inv X pins σ H s):∀b∈frs X.stack,b∈X.env.locals::X.fs:=λb hb=>by
 rcases I.ok.stk with e | ⟨e,hf⟩
 ·rw [e] at hb;exact List.mem_cons_of_mem _ hb
 ·rw [e] at hb
  unfold frs at hb
  rw [List.filterMap_cons,hf] at hb
  exact hb
theorem Inv.stkFree (I:Inv X pins σ H s):∀b∈frs X.stack,H b=none:=λb hb=>by
 rcases List.mem_cons.mp (I.stkSub b hb) with e | hb
 ·rw [e];exact I.free
 ·obtain ⟨_,o,ho,_⟩:=I.ok.funs.mem hb
  exact I.base.free b o ho (I.ok.frf b hb) λz=>I.ok.exfs b z hb
theorem Inv.step {g':Array GenState} {t':Nat} {d':Drawn} {ch:List Addr} (I:Inv X pins σ H s)
 (hch:∀b∈ch,(b∈X.ex∨X.s₀.heap.objs.size<=b)/\b≠X.env.locals/\(∀x c,X.env.cells.lookup x=some c->c≠b)/\∀p∈X.pn++pins,p.1≠b)
 (keep:∀b o,b≠X.env.locals->b∉X.fs->b∉ch->s.heap.get? b=some o->H b=none->h'.get? b=some o)
 (slot:∀b o,b≠X.env.locals->b∈X.fs->b∉ch->s.heap.get? b=some o->H b=none->∃sl,h'.get? b=some { o with slots:=sl }) (free:∀b o,b∉ch->s.heap.get? b=some o->H b=none->H' b=none)
 (there:∀b o,b∉ch->s.heap.get? b=some o->∃o',h'.get? b=some o')
 (tups:∀b xs,H b=some (.tup xs)->H' b=some (.tup xs)) (frzs:∀b o u,H b=some (.frz o u)->H' b=some (.frz o u)) (tbls:∀b ps,H b=some (.tbl ps)->∃more,H' b=some (.tbl (ps++more)))
 (ns:∀m,s.heap.Ns X.env.locals m->h'.Ns X.env.locals m) (hok:HOk X.prog X.w H' h') (hg:AllBare g') :
 Inv X pins σ H' { s with heap:=h',gens:=g',drawn:=d',toks:=t' }:=by
 have neL:∀b o,X.s₀.heap.get? b=some o->b≠X.env.locals:=λb o e=>Nat.ne_of_lt (Nat.lt_of_lt_of_le (Heap.lt_size e) I.ok.above)
 have neC:∀b o,X.s₀.heap.get? b=some o->b∉X.ex->b∉ch:=λb o e hx hb=>by
  rcases (hch b hb).1 with z | z
  ·exact hx z
  ·exact absurd (Nat.lt_of_lt_of_le (Heap.lt_size e) z) (Nat.lt_irrefl _)
 have cellK:∀x c,X.env.cells.lookup x=some c->∀v,s.heap.IsCell c v->h'.IsCell c v:=λx c e v ⟨o,ho,hd⟩=>by
  have nch:c∉ch:=λz=>(hch c z).2.2.1 x c e rfl
  by_cases hc:c∈X.fs
  ·obtain ⟨sl,q⟩:=slot c o (I.cne x c e) hc nch ho (I.freeC x c e)
   exact ⟨_,q,hd⟩
  ·exact ⟨o,keep c o (I.cne x c e) hc nch ho (I.freeC x c e),hd⟩
 refine ⟨I.ok,I.os,hg,⟨λb o e n hb hx=>?_,λb o e n hb hx=>?_,λb o e n hx=>?_,λb o e hx=>?_,λb xs e=>tups b xs (I.base.tups b xs e),λb o xs e=>frzs b o xs (I.base.frzs b o xs e),λb ps e=>?_⟩,?_,λx c e=>?_,?_,λx c e=>?_,λp hp=>?_,hok,I.len⟩
 ·exact keep b o (neL b o e) hb (neC b o e hx) (I.base.keep b o e n hb hx) (I.base.free b o e n hx)
 ·obtain ⟨sl,e1⟩:=I.base.slot b o e n hb hx
  obtain ⟨sl',e2⟩:=slot b _ (neL b o e) hb (neC b o e hx) e1 (I.base.free b o e n hx)
  exact ⟨sl',e2⟩
 ·obtain ⟨o',e1⟩:=I.base.there b o e hx
  exact free b o' (neC b o e hx) e1 (I.base.free b o e n hx)
 ·obtain ⟨o',e1⟩:=I.base.there b o e hx
  exact there b o' (neC b o e hx) e1
 ·obtain ⟨m1,e1⟩:=I.base.tbls b ps e
  obtain ⟨m2,e2⟩:=tbls b _ e1
  exact ⟨m1++m2,by rw [e2,Array.append_assoc]⟩
 ·obtain ⟨m,hn,hl⟩:=I.loc
  refine ⟨m,ns m hn,λi x v e1 e2 e3=>?_⟩
  obtain ⟨u,r,l⟩:=hl i x v e1 e2 e3
  refine ⟨u,r,?_⟩
  rcases l with l | ⟨k,c,e,z⟩
  ·exact .inl l
  ·exact .inr ⟨k,c,e,cellK x c e _ z⟩
 ·obtain ⟨v,z⟩:=I.cell x c e
  exact ⟨v,cellK x c e v z⟩
 ·obtain ⟨m,⟨o,_,_,ho,_⟩,_⟩:=I.loc
  exact free _ o (λz=>(hch _ z).2.1 rfl) ho I.free
 ·obtain ⟨v,o,ho,hd⟩:=I.cell x c e
  exact free c o (λz=>(hch c z).2.2.1 x c e rfl) ho (I.freeC x c e)
 ·obtain ⟨e,n,ne,nf,d⟩:=I.pin p hp
  have nch:p.1∉ch:=λz=>(hch p.1 z).2.2.2 p hp rfl
  exact ⟨keep p.1 p.2 ne nf nch e n,free p.1 p.2 nch e n,ne,nf,d⟩
theorem Inv.un {t':Nat} (I:Inv X pins σ H s) (u:Un X.fs [] H H' s.heap h') (hok:HOk X.prog X.w H' h'):Inv X pins σ H' { s with heap:=h',toks:=t' }:=by
 obtain ⟨m,⟨o,es,ep,ho,r⟩,_⟩:=id I.loc
 obtain ⟨sl,hL⟩:=u.any ho I.free (by simp)
 exact I.step (g':=s.gens) (d':=s.drawn) (ch:=[]) (λ_ z=>nomatch z) (λb o _ hb _ e n=>u.keep b o e n hb (by simp)) (λb o _ hb _ e n=>u.slot b o e n hb (by simp)) (λb o _ e n=>u.free b o e n (by simp)) (λb o _ e=>u.there b o e (by simp)) u.tups u.frzs u.tbls (λm' hm=>by
  obtain ⟨o',es',ep',ho',r'⟩:=hm
  rw [ho] at ho';cases ho'
  exact ⟨_,es',ep',hL,r'⟩) hok I.bare
theorem Inv.call {g':Array GenState} {t':Nat} {d':Drawn} {ch:List Addr} (I:Inv X pins σ H s) (u:Un (frs X.stack) ch H H' s.heap h') (hok:HOk X.prog X.w H' h') (hg:AllBare g')
 (hch:∀b∈ch,(b∈X.ex∨X.s₀.heap.objs.size<=b)/\b≠X.env.locals/\(∀x c,X.env.cells.lookup x=some c->c≠b)/\∀p∈X.pn++pins,p.1≠b) :
 Inv X pins σ H' { s with heap:=h',gens:=g',drawn:=d',toks:=t' }:=by
 obtain ⟨m,⟨o,es,ep,ho,r⟩,_⟩:=id I.loc
 obtain ⟨sl,hL⟩:=u.any ho I.free λz=>(hch _ z).2.1 rfl
 exact I.step (ch:=ch) hch (λb o hL hb hc e n=>u.keep b o e n (λz=>(List.mem_cons.mp (I.stkSub b z)).elim hL hb) hc) (λb o _ _ hc e n=>u.any e n hc) (λb o hc e n=>u.free b o e n hc) (λb o hc e=>u.there b o e hc) u.tups u.frzs u.tbls (λm' hm=>by
  obtain ⟨o',es',ep',ho',r'⟩:=hm
  rw [ho] at ho';cases ho'
  exact ⟨_,es',ep',hL,r'⟩) hok hg
theorem Inv.turned {t':Nat} {it:Addr} (I:Inv X pins σ H s) (k:∀b o,b≠it->s.heap.get? b=some o->h'.get? b=some o) (hn:H it=none) (hL:it≠X.env.locals)
 (h1:it∈X.ex∨X.s₀.heap.objs.size<=it) (h2:∀x c,X.env.cells.lookup x=some c->c≠it) (h3:∀p∈X.pn++pins,p.1≠it):Inv X pins σ H { s with heap:=h',toks:=t' }:=by
 have nit:∀b u,H b=some u->b≠it:=λb u e z=>by rw [z,hn] at e;cases e
 refine I.step (g':=s.gens) (d':=s.drawn) (ch:=[it]) (λb hb=>?_) (λb o _ _ hc e _=>k b o (λz=>hc (by simp [z])) e) (λb o _ _ hc e _=>⟨o.slots,k b o (λz=>hc (by simp [z])) e⟩) (λ_ _ _ _ n=>n)
  (λb o hc e=>⟨o,k b o (λz=>hc (by simp [z])) e⟩) (λ_ _ e=>e) (λ_ _ _ e=>e) (λb ps e=>⟨#[],by rw [e];simp⟩) (λm hm=>?_) (λb u e=>?_) I.bare
 ·have e:b=it:=by simpa using hb
  subst e
  exact ⟨h1,hL,h2,h3⟩
 ·obtain ⟨o,es,ep,ho,r⟩:=hm
  exact ⟨o,es,ep,k _ o (Ne.symm hL) ho,r⟩
 ·refine (I.hok b u e).stay (λc v hc q=>k c v ?_ q) (λ_ q=>q) λ_ _ q=>q
  rcases hc with z | z
  ·rw [z];exact nit b u e
  ·exact nit c _ z
theorem Inv.tok (I:Inv X pins σ H s) (t:Nat):Inv X pins σ H { s with toks:=t }:=I.un (h':=s.heap) (t':=t) Un.refl I.hok
theorem Inv.kept {t':Nat} (I:Inv X pins σ H s) (k:∀b u,s.heap.get? b=some u->h'.get? b=some u):Inv X pins σ H { s with heap:=h',toks:=t' }:=I.un (Un.kept k) (I.hok.kept k)
theorem Inv.laid {a:Addr} {o:HO} {t':Nat} (I:Inv X pins σ H s) (k:∀b u,s.heap.get? b=some u->h'.get? b=some u) (hp:s.heap.objs.size<=a) (new:ObjOk X.prog X.w (upd H a o) h' a o) :
 Inv X pins σ (upd H a o) { s with heap:=h',toks:=t' }:=I.un (Un.laid k hp (I.hok.fresh hp)) (I.hok.laid k hp new)
theorem Inv.write {x e:Addr} {o:HO} {t':Nat} (I:Inv X pins σ H s) (mu:Mut (H x)) (he:e=x∨H e=some (.own x)) (k:∀b u,b≠e->s.heap.get? b=some u->h'.get? b=some u) (heo:∃u,h'.get? e=some u)
 (new:ObjOk X.prog X.w (upd H x o) h' x o):Inv X pins σ (upd H x o) { s with heap:=h',toks:=t' }:=I.un (Un.write mu he k heo) (I.hok.write mu he k heo new)
theorem Inv.pins_of {pins':List (Addr×Obj)} (I:Inv X pins σ H s) (h:∀p∈pins',s.heap.get? p.1=some p.2/\H p.1=none/\p.1≠X.env.locals/\p.1∉X.fs/\∀v,p.2.data≠.cell v):Inv X pins' σ H s:=
 ⟨I.ok,I.os,I.bare,I.base,I.loc,I.cell,I.free,I.freeC,λp hp=>(List.mem_append.mp hp).elim (λz=>I.pin p (List.mem_append_left _ z)) (h p),I.hok,I.len⟩
theorem q2J {N:List Str} (hN:N.Nodup) {i j:Nat} {x:Str} (a:N[i]?=some x) (b:N[j]?=some x):i=j:=by
 obtain ⟨h1,e1⟩:=List.getElem?_eq_some_iff.mp a
 obtain ⟨h2,e2⟩:=List.getElem?_eq_some_iff.mp b
 exact (List.getElem_inj hN).mp (e1.trans e2.symm)
theorem q7M {M:Model} {A:Around} {E:Value->Shared->Prop} {i:Nat} {x:Str} {v:V} {u:Value} {Q:Unit->Shared->Prop} (I:Inv X pins σ H s) (hN:X.N.Nodup) (hi:X.N[i]?=some x) (hx:Loc X.env.scope x) (r:RelV v u)
 (h:∀s',Inv X pins (σ.set i (some v)) H s'->(∃a,Heap.SameBut a s.heap s'.heap/\(a=X.env.locals∨X.env.cells.lookup x=some a))->Q () s') (hf:X.fn x=true∨X.env.scope.names.lookup x=some .local:=by walk_at "v2"):wpAny M A (storeName X.env x u) Q E s:=by
 obtain ⟨m,hn,hl⟩:=id I.loc
 have hcls:(X.env.scope.kind==.class || (X.env.scope.kind==.module && X.env.locals != X.env.globals))=false:=by rw [I.ok.kind];rfl
 have hiσ:i < σ.length:=by rw [I.len];exact (List.getElem?_eq_some_iff.mp hi).1
 have cne:=I.cne
 have tracked:∀{a:Addr} {h':Heap},(∃o,s.heap.get? a=some o/\H a=none)->Heap.SameBut a s.heap h'->HOk X.prog X.w H h':=λ{a h'} ha hs b ob e=>by
  obtain ⟨_,_,hfree⟩:=ha
  refine (I.hok b ob e).stay (λc w' hc q=>(hs.2 c ?_).trans q) (λ_ q=>q) λ_ _ q=>q
  rintro rfl
  rcases hc with rfl | hc
  ·rw [hfree] at e;cases e
  ·rw [hfree] at hc;cases hc
 rcases hx with hk | hk
 ·refine wpAny_storeName_local hk hn (λh' hn' hs=>?_) hcls
  obtain ⟨oL,_,_,hoL,_⟩:=id hn
  refine h _ ⟨I.ok,I.os,I.bare,⟨λb o e n hb hx=>?_,λb o e n hb hx=>?_,I.base.free,λb o e hx=>?_,I.base.tups,I.base.frzs,I.base.tbls⟩,⟨_,hn',λj y v' e1 e2 e3=>?_⟩,λy c e=>?_,I.free,I.freeC,λp hp=>?_,tracked ⟨oL,hoL,I.free⟩ hs,by simpa using I.len⟩ ⟨_,hs,.inl rfl⟩
  ·exact (hs.2 b (Nat.ne_of_lt (Nat.lt_of_lt_of_le (Heap.lt_size e) I.ok.above))).trans (I.base.keep b o e n hb hx)
  ·obtain ⟨sl,e1⟩:=I.base.slot b o e n hb hx
   exact ⟨sl,(hs.2 b (Nat.ne_of_lt (Nat.lt_of_lt_of_le (Heap.lt_size e) I.ok.above))).trans e1⟩
  ·obtain ⟨o',e1⟩:=I.base.there b o e hx
   exact ⟨o',(hs.2 b (Nat.ne_of_lt (Nat.lt_of_lt_of_le (Heap.lt_size e) I.ok.above))).trans e1⟩
  ·by_cases hj:j=i
   ·subst hj
    rw [hi] at e1;cases e1
    rw [List.getElem?_set_self hiσ] at e2
    cases e2
    exact ⟨u,r,.inl ⟨hk,by simp⟩⟩
   ·rw [List.getElem?_set_ne (Ne.symm hj)] at e2
    obtain ⟨u',r',q⟩:=hl j y v' e1 e2 e3
    refine ⟨u',r',?_⟩
    rcases q with ⟨k,e⟩ | ⟨k,c,e,z⟩
    ·refine .inl ⟨k,?_⟩
     have:y≠x:=λe=>hj (q2J hN e1 (e ▸ hi))
     simp [this,e]
    ·exact .inr ⟨k,c,e,z.sameBut hs (cne y c e)⟩
  ·obtain ⟨w',z⟩:=I.cell y c e
   exact ⟨w',z.sameBut hs (cne y c e)⟩
  ·obtain ⟨e,n,ne,nf,d⟩:=I.pin p hp
   exact ⟨(hs.2 p.1 ne).trans e,n,ne,nf,d⟩
 ·have hfn:X.fn x=true:=by
   rcases hf with z | z
   ·exact z
   ·rw [z] at hk;cases hk
  obtain ⟨c,hc⟩:=I.ok.has x (.inl hk)
  obtain ⟨w',z⟩:=I.cell x c hc
  refine wpAny_storeName_cell I.ok.kind hk hc z (λh' hc' hs=>?_)
  obtain ⟨oc,hoc,hocd⟩:=id z
  refine h { s with heap:=h' } ⟨I.ok,I.os,I.bare,⟨λb o e n hb hx=>?_,λb o e n hb hx=>?_,I.base.free,λb o e hx=>?_,I.base.tups,I.base.frzs,I.base.tbls⟩,⟨m,hn.sameBut hs (Ne.symm (cne x c hc)),λj y v' e1 e2 e3=>?_⟩,λy c' e=>?_,I.free,I.freeC,λp hp=>?_,tracked ⟨oc,hoc,I.freeC x c hc⟩ hs,by simpa using I.len⟩ ⟨c,hs,.inr hc⟩
  ·exact (hs.2 b (Nat.ne_of_lt (Nat.lt_of_lt_of_le (Heap.lt_size e) (I.ok.cab x c hfn hc)))).trans (I.base.keep b o e n hb hx)
  ·obtain ⟨sl,e1⟩:=I.base.slot b o e n hb hx
   exact ⟨sl,(hs.2 b (Nat.ne_of_lt (Nat.lt_of_lt_of_le (Heap.lt_size e) (I.ok.cab x c hfn hc)))).trans e1⟩
  ·obtain ⟨o',e1⟩:=I.base.there b o e hx
   exact ⟨o',(hs.2 b (Nat.ne_of_lt (Nat.lt_of_lt_of_le (Heap.lt_size e) (I.ok.cab x c hfn hc)))).trans e1⟩
  ·by_cases hj:j=i
   ·subst hj
    rw [hi] at e1;cases e1
    rw [List.getElem?_set_self hiσ] at e2
    cases e2
    exact ⟨u,r,.inr ⟨.inl hk,c,hc,hc'⟩⟩
   ·rw [List.getElem?_set_ne (Ne.symm hj)] at e2
    obtain ⟨u',r',q⟩:=hl j y v' e1 e2 e3
    refine ⟨u',r',?_⟩
    rcases q with q | ⟨k,c',e,z'⟩
    ·exact .inl q
    ·refine .inr ⟨k,c',e,z'.sameBut hs ?_⟩
     rintro rfl
     exact hj (q2J hN e1 (I.ok.inj _ _ _ e hc ▸ hi))
  ·by_cases hcc:c'=c
   ·subst hcc;exact ⟨_,hc'⟩
   ·obtain ⟨w2,z2⟩:=I.cell y c' e
    exact ⟨w2,z2.sameBut hs hcc⟩
  ·obtain ⟨e,n,ne,nf,d⟩:=I.pin p hp
   refine ⟨(hs.2 p.1 ?_).trans e,n,ne,nf,d⟩
   intro q
   rw [q,hoc] at e
   have q':oc=p.2:=Option.some.inj e
   exact d w' (by rw [<-q'];exact hocd)
theorem q5K {M:Model} {A:Around} {E:Value->Shared->Prop} {i:Nat} {x:Str} {v:V} {u:Value} {Q:Unit->Shared->Prop} (I:Inv X pins σ H s) (hN:X.N.Nodup) (hi:X.N[i]?=some x) (hx:Loc X.env.scope x) (r:RelV v u)
 (h:∀s',Inv X pins (σ.set i (some v)) H s'->Q () s') (hf:X.fn x=true∨X.env.scope.names.lookup x=some .local:=by walk_at "v2"):wpAny M A (storeName X.env x u) Q E s:=
 q7M I hN hi hx r (λs' I' _=>h s' I') hf
theorem Inv.call' {s':Shared} {ch:List Addr} (I:Inv X pins σ H s) (ho:s'.os=s.os) (u:Un (frs X.stack) ch H H' s.heap s'.heap) (hok:HOk X.prog X.w H' s'.heap) (hg:AllBare s'.gens)
 (hch:∀b∈ch,(b∈X.ex∨X.s₀.heap.objs.size<=b)/\b≠X.env.locals/\(∀x c,X.env.cells.lookup x=some c->c≠b)/\∀p∈X.pn++pins,p.1≠b):Inv X pins σ H' s':=by
 obtain ⟨h',g',d',t',o'⟩:=s'
 have e:o'=s.os:=ho
 subst e
 exact I.call (g':=g') (t':=t') (d':=d') u hok hg hch
end
noncomputable abbrev XK:=Value->Option Addr->Hp->Prop
noncomputable abbrev St:=List (Option V)
noncomputable abbrev VK:=V->Hp->Prop
noncomputable abbrev TE:=St->Hp->VK->Prop
noncomputable abbrev TT:=St->Hp->(Bool->Hp->Prop)->Prop
noncomputable abbrev TA:=St->Hp->(List V->Hp->Prop)->Prop
structure Ends where
 nx:St->Hp->Prop
 rt:VK
 bk:St->Hp->Prop:=λ_ _=>False
 ct:St->Hp->Prop:=λ_ _=>False
noncomputable abbrev TS:=Ends->St->Hp->Prop
noncomputable def EP (X:Cx) (pins:List (Addr×Obj)) (σ:St) (Q:VK) (u:Value) (s':Shared):Prop:=∃v H',Inv X pins σ H' s'/\RelV v u/\Q v H'
noncomputable def TP (X:Cx) (pins:List (Addr×Obj)) (σ:St) (Q:Bool->Hp->Prop) (b:Bool) (s':Shared):Prop:=∃H',Inv X pins σ H' s'/\Q b H'
noncomputable def AP (X:Cx) (pins:List (Addr×Obj)) (σ:St) (Q:List V->Hp->Prop) (us:List Value) (s':Shared):Prop:=∃vs H',Inv X pins σ H' s'/\Vals vs us/\Q vs H'
noncomputable def SP (X:Cx) (pins:List (Addr×Obj)) (D:Ends) (f:Flow) (s':Shared):Prop:=
 match f with
 | .next=>∃σ' H',Inv X pins σ' H' s'/\D.nx σ' H'
 | .brk=>∃σ' H',Inv X pins σ' H' s'/\D.bk σ' H'
 | .cont=>∃σ' H',Inv X pins σ' H' s'/\D.ct σ' H'
 | .ret u=>∃v σ' H',Inv X pins σ' H' s'/\RelV v u/\D.rt v H'
noncomputable def PE (X:Cx) (e:Expr) (t:TE):Prop:=
 ∀(pins:List (Addr×Obj)) (s:Shared) (σ:St) (H:Hp) (Q:VK),Inv X pins σ H s->t σ H Q->wpAny (model X.prog X.w) X.A (eval e X.env) (EP X pins σ Q) X.xe s
noncomputable def PT (X:Cx) (e:Expr) (t:TT):Prop:=
 ∀(pins:List (Addr×Obj)) (s:Shared) (σ:St) (H:Hp) (Q:Bool->Hp->Prop),Inv X pins σ H s->t σ H Q->wpAny (model X.prog X.w) X.A (isTrue e X.env (eval e X.env)) (TP X pins σ Q) X.xe s
noncomputable def PW (X:Cx) (e:Expr) (t:TT):Prop:=
 ∀(whole:Sem Value) (pins:List (Addr×Obj)) (s:Shared) (σ:St) (H:Hp) (Q:Bool->Hp->Prop),Inv X pins σ H s->t σ H Q->wpAny (model X.prog X.w) X.A (isTrue e X.env whole) (TP X pins σ Q) X.xe s
theorem PW.pt {X:Cx} {e:Expr} {t:TT} (h:PW X e t):PT X e t:=h _
noncomputable def PA (X:Cx) (es:List Expr) (t:TA):Prop:=
 ∀(pos:Pos) (pins:List (Addr×Obj)) (s:Shared) (σ:St) (H:Hp) (Q:List V->Hp->Prop),Inv X pins σ H s->t σ H Q->wpAny (model X.prog X.w) X.A (spliced (backTo pos (starEach es X.env))) (AP X pins σ Q) X.xe s
noncomputable def PS (X:Cx) (st:Stmt) (t:TS):Prop:=
 ∀(pins:List (Addr×Obj)) (s:Shared) (σ:St) (H:Hp) (D:Ends),Inv X pins σ H s->t D σ H->wpAny (model X.prog X.w) X.A (exec st X.env) (SP X pins D) X.xe s
noncomputable def PSs (X:Cx) (st:List Stmt) (t:TS):Prop:=
 ∀(pins:List (Addr×Obj)) (s:Shared) (σ:St) (H:Hp) (D:Ends),Inv X pins σ H s->t D σ H->wpAny (model X.prog X.w) X.A (execs st X.env) (SP X pins D) X.xe s
theorem thn {α:Type} {t:Sem α} {Q Q':α->Shared->Prop} {M:Model} {A:Around} {E:Value->Shared->Prop} {s:Shared} (h:wpAny M A t Q E s) (hQ:∀a s,Q a s->Q' a s):wpAny M A t Q' E s:=wpAny_mono h hQ λ_ _ x=>x
section
variable {X:Cx}
noncomputable def w0H (i:Nat):TE:=fun σ H Q=>∃v,σ[i]?=some (some v)/\Q v H
noncomputable def tC (v:V):TE:=λ_ H Q=>Q v H
theorem q1V {i:Nat} {x:Str} {pos:Pos} (hN:X.N[i]?=some x) (hv:Vis X.env.scope x) (hd:(x==("__debug__" : Str))=false:=by decide) (hcd:(x==("__classdict__" : Str))=false:=by decide):PE X (.Name x pos) (w0H i):=by
 intro pins s σ H Q I h
 obtain ⟨v,e,h⟩:=h
 obtain ⟨m,hn,hl⟩:=I.loc
 obtain ⟨u,r,l⟩:=hl i x v hN e hv
 have fin:EP X pins σ Q u s:=⟨v,H,I,r,h⟩
 rcases l with ⟨hk,hm⟩ | ⟨hk,c,hc,hcell⟩
 ·exact wpAny_Name (wpAny_loadName_local I.ok.kind hk hn hm fin) hd
 ·rcases hk with hk | hk
  ·exact wpAny_Name (wpAny_loadName_cell I.ok.kind hk hc hcell fin) hd
  ·exact wpAny_Name (wpAny_loadName_free I.ok.kind hk hc hcell fin hcd) hd
theorem j6Q {i j pos}:PE X (.Constant (.int i) j pos) (tC (.int i)):=λ_ _ _ H _ I h=>wpAny_Constant_int ⟨.int i,H,I.tok _,⟨_,rfl⟩,h⟩
theorem j9r {b j pos}:PE X (.Constant (.bool b) j pos) (tC (.bl b)):=λ_ _ _ H _ I h=>Constant_bool ⟨.bl b,H,I,rfl,h⟩
theorem j4Z {j pos}:PE X (.Constant .none j pos) (tC .non):=λ_ _ _ H _ I h=>Constant_none ⟨.non,H,I,rfl,h⟩
theorem j60 {x j pos}:PE X (.Constant (.str x) j pos) (tC (.str x)):=λ_ _ _ H _ I h=>Calls.Constant_str ⟨.str x,H,I.tok _,⟨_,rfl⟩,h⟩
noncomputable def Gl (X:Cx) (x:Str):Prop:=X.env.kindOf x=some .globalImplicit
theorem q2o {E:Value->Shared->Prop} {pins:List (Addr×Obj)} {s:Shared} {σ:St} {H:Hp} {x:Str} {u:Value} {pos:Pos} {Q:Value->Shared->Prop} (I:Inv X pins σ H s) (hg:Gl X x) (hm:X.mg x=some u) (h:Q u s)
 (hd:(x==("__debug__" : Str))=false:=by decide):wpAny (model X.prog X.w) X.A (eval (.Name x pos) X.env) Q E s:=
 Calls.Name_function_global I.ok.kind hg (Calls.loadGlobal_global (by rw [I.ok.glob];exact I.mod.glob.keeps I.bk) hm h) hd
theorem q2A {E:Value->Shared->Prop} {pins:List (Addr×Obj)} {s:Shared} {σ:St} {H:Hp} {x:Str} {u:Value} {pos:Pos} {Q:Value->Shared->Prop} (I:Inv X pins σ H s) (hg:Gl X x) (hm:X.mg x=none) (hv:bootBuiltins x=some u) (h:Q u s)
 (hn:x≠"__name__":=by decide) (hd:(x==("__debug__" : Str))=false:=by decide):wpAny (model X.prog X.w) X.A (eval (.Name x pos) X.env) Q E s:=by
 obtain ⟨mb,h1,h2⟩:=I.mod.blt
 exact Calls.Name_function_global I.ok.kind hg (Calls.loadGlobal_builtin (by rw [I.ok.glob];exact I.mod.glob.keeps I.bk) hm (by rw [I.ok.blt];exact h1.keeps I.bk) ((h2 x hn).trans hv) h) hd
theorem j3M {x:Str} {v:V} {u:Value} {pos:Pos} (hg:Gl X x) (hm:X.mg x=some u) (r:RelV v u) (hd:(x==("__debug__" : Str))=false:=by decide):PE X (.Name x pos) (tC v):=
 λ_ _ _ H _ I h=>q2o I hg hm ⟨v,H,I,r,h⟩ hd
theorem j22 {x:Str} {v:V} {u:Value} {pos:Pos} (hg:Gl X x) (hm:X.mg x=none) (hv:bootBuiltins x=some u) (r:RelV v u) (hn:x≠"__name__":=by decide) (hd:(x==("__debug__" : Str))=false:=by decide):PE X (.Name x pos) (tC v):=
 λ_ _ _ H _ I h=>q2A I hg hm hv ⟨v,H,I,r,h⟩ hn hd
variable {a b:Expr} {ta tb:TE} {pos:Pos}
variable {tA tB':TT} {rest:List Expr}
noncomputable def w1n (t u:TT):TT:=fun σ H Q=>t σ H λc H1=>if c=true then u σ H1 Q else Q false H1
noncomputable def tOr (t u:TT):TT:=fun σ H Q=>t σ H λc H1=>if c=true then Q true H1 else u σ H1 Q
noncomputable def w1w (t:TT):TT:=fun σ H Q=>t σ H λc H1=>Q (!c) H1
theorem j3C (ha:PT X a tA):PW X (.BoolOp .And [a] pos) tA:=by
 intro wh pins s σ H Q I h
 refine isTrue_and (thn (ha pins s σ H Q I h) λc s1 e=>?_)
 cases c with
 | true=>exact isTrue_and_nil e
 | false=>exact e
theorem j5w (ha:PT X a tA):PW X (.BoolOp .Or [a] pos) tA:=by
 intro wh pins s σ H Q I h
 refine isTrue_or (thn (ha pins s σ H Q I h) λc s1 e=>?_)
 cases c with
 | false=>exact isTrue_or_nil e
 | true=>exact e
theorem j6C (ha:PT X a tA) (hb:PW X (.BoolOp .And (b::rest) pos) tB'):PW X (.BoolOp .And (a::b::rest) pos) (w1n tA tB'):=by
 intro wh pins s σ H Q I h
 refine isTrue_and (thn (ha pins s σ H _ I h) λc s1 ⟨H1,I1,q1⟩=>?_)
 cases c with
 | true=>exact hb wh pins s1 σ H1 Q I1 q1
 | false=>exact ⟨H1,I1,q1⟩
theorem j81 (ha:PT X a tA) (hb:PW X (.BoolOp .Or (b::rest) pos) tB'):PW X (.BoolOp .Or (a::b::rest) pos) (tOr tA tB'):=by
 intro wh pins s σ H Q I h
 refine isTrue_or (thn (ha pins s σ H _ I h) λc s1 ⟨H1,I1,q1⟩=>?_)
 cases c with
 | true=>exact ⟨H1,I1,q1⟩
 | false=>exact hb wh pins s1 σ H1 Q I1 q1
theorem j4S (ha:PT X a tA):PT X (.UnaryOp .Not a pos) (w1w tA):=by
 intro pins s σ H Q I h
 exact isTrue_not (ha pins s σ H (λc H1=>Q (!c) H1) I h)
noncomputable def j9F (ta tb:TE):TE:=fun σ H Q=>ta σ H λx H1=>∃c,x=.bl c/\if c=true then tb σ H1 Q else Q (.bl false) H1
noncomputable def j8M (ta:TE):TE:=fun σ H Q=>ta σ H λx H1=>∃c,x=.bl c/\Q (.bl (!c)) H1
theorem j6c {op} {t:TE} (h:PE X a t):PE X (.BoolOp op [a] pos) t:=λpins s σ H Q I hw=>BoolOp_one (h pins s σ H Q I hw)
theorem j5b (ha:PE X a ta) (hb:PE X (.BoolOp .And (b::rest) pos) tb):PE X (.BoolOp .And (a::b::rest) pos) (j9F ta tb):=by
 intro pins s σ H Q I h
 refine BoolOp_and (thn (ha pins s σ H _ I h) λv s1 ⟨x,H1,I1,r1,q1⟩=>?_)
 obtain ⟨c,rfl,q1⟩:=q1
 cases r1
 refine wpAny_truthy_bool ?_
 cases c with
 | true=>exact hb pins s1 σ H1 Q I1 q1
 | false=>exact ⟨.bl false,H1,I1,rfl,q1⟩
theorem j59 (ha:PE X a ta):PE X (.UnaryOp .Not a pos) (j8M ta):=by
 intro pins s σ H Q I h
 refine UnaryOp_ (thn (ha pins s σ H _ I h) λv s1 ⟨x,H1,I1,r1,q1⟩=>?_)
 obtain ⟨c,rfl,q1⟩:=q1
 cases r1
 exact not_of (wpAny_truthy_bool ⟨.bl (!c),H1,I1,rfl,q1⟩)
end
noncomputable def SqL (K:PySem.W.Frag) (H:Hp) (a:Addr) (xs:List V):Prop:=
 Rd H a (.lst xs) ∨
  ∃(o:Obj) (its:Array Value) (n:Nat),K.lookup a=some o/\o.cls=.type "list"/\o.dict=none/\o.data=.seq its n/\its.size<=sizeLine/\Vals xs its.toList
noncomputable def SqT (K:PySem.W.Frag) (H:Hp) (a:Addr) (xs:List V):Prop:=
 Rd H a (.tup xs) ∨
  ∃(o:Obj) (its:Array Value) (n:Nat),K.lookup a=some o/\o.cls=.type "tuple"/\o.data=.seq its n/\its.size<=sizeLine/\Vals xs its.toList
noncomputable def w1u:Value->Option V
 | .none=>some .non
 | .bool b=>some (.bl b)
 | .int i _=>some (.int i)
 | .str x _=>some (.str x)
 | .bytes b _=>some (.byt b)
 | .float b _=>some (.flt b)
 | .ref a=>some (.ref a)
 | .type n=>some (.ty n)
 | _=>none
theorem RelV.abs {x:V} {u:Value} (r:RelV x u):w1u u=some x:=by
 cases x with
 | non=>cases r;rfl
 | bl _=>cases r;rfl
 | int _=>obtain ⟨t,rfl⟩:=r;rfl
 | str _=>obtain ⟨t,rfl⟩:=r;rfl
 | byt _=>obtain ⟨t,rfl⟩:=r;rfl
 | flt _=>obtain ⟨t,rfl⟩:=r;rfl
 | ref _=>cases r;rfl
 | ty _=>cases r;rfl
theorem RelV.inj {x y:V} {u:Value} (r:RelV x u) (q:RelV y u):x=y:=Option.some.inj (r.abs.symm.trans q.abs)
theorem Vals.inj:∀{xs ys:List V} {us:List Value},Vals xs us->Vals ys us->xs=ys
 | _,_,_,.nil,.nil=>rfl
 | _,_,_,.cons r t,.cons r' t'=>by rw [r.inj r',Vals.inj t t']
section
variable {X:Cx} {pins:List (Addr×Obj)} {σ:St} {H:Hp} {s:Shared} {a:Addr} {xs ys:List V}
theorem SqL.of {K:PySem.W.Frag} (h:H a=some (.lst xs)):SqL K H a xs:=.inl (.inl h)
theorem SqT.of {K:PySem.W.Frag} (h:H a=some (.tup xs)):SqT K H a xs:=.inl (.inl h)
theorem Inv.list (I:Inv X pins σ H s) (h:SqL X.K H a xs):∃its:List Value,Vals xs its/\PlainL s.heap a its.toArray/\xs.length<=sizeLine:=by
 rcases h with h | ⟨o,its,n,hk,hc,hd,hs,hz,r⟩
 ·obtain ⟨z,its,n,r,e⟩:=h.ok I.hok
  exact ⟨its,r,⟨_,n,e,rfl,rfl,rfl⟩,z⟩
 ·refine ⟨its.toList,r,⟨o,n,I.kIn a o hk,hc,hd,by simpa using hs⟩,?_⟩
  have e:=r.length
  simp only [Array.length_toList] at e
  omega
theorem Inv.tuple (I:Inv X pins σ H s) (h:SqT X.K H a xs):∃its:List Value,Vals xs its/\IsTup s.heap a its.toArray/\xs.length<=sizeLine:=by
 rcases h with h | ⟨o,its,n,hk,hc,hs,hz,r⟩
 ·obtain ⟨z,its,r,p⟩:=h.ok I.hok
  exact ⟨its,r,p,z⟩
 ·refine ⟨its.toList,r,⟨o,I.kIn a o hk,hc,n,by simpa using hs⟩,?_⟩
  have e:=r.length
  simp only [Array.length_toList] at e
  omega
theorem Inv.list_inj (I:Inv X pins σ H s) (h:SqL X.K H a xs) (h':SqL X.K H a ys):xs=ys:=by
 obtain ⟨its,r,⟨o,n,e,_,_,d⟩,_⟩:=I.list h
 obtain ⟨its',r',⟨o',n',e',_,_,d'⟩,_⟩:=I.list h'
 rw [e] at e';cases e'
 rw [d] at d'
 injection d' with d1 _
 have:its=its':=by simpa using congrArg Array.toList d1
 subst this
 exact r.inj r'
theorem Inv.tuple_inj (I:Inv X pins σ H s) (h:SqT X.K H a xs) (h':SqT X.K H a ys):xs=ys:=by
 obtain ⟨its,r,⟨o,e,_,n,d⟩,_⟩:=I.tuple h
 obtain ⟨its',r',⟨o',e',_,n',d'⟩,_⟩:=I.tuple h'
 rw [e] at e';cases e'
 rw [d] at d'
 injection d' with d1 _
 have:its=its':=by simpa using congrArg Array.toList d1
 subst this
 exact r.inj r'
end
noncomputable abbrev Cx.wish (X:Cx) (E:Value->Shared->Prop):Cx:={ X with xe:=E }
theorem Cx.Ok.wish {X:Cx} (ok:X.Ok) (E:Value->Shared->Prop):(X.wish E).Ok:=
 ⟨ok.mod,ok.kind,ok.glob,ok.blt,ok.above,ok.inj,ok.has,ok.cab,ok.hd,ok.frames,ok.stk,ok.exf,ok.bs,ok.bsz,ok.noex,ok.exfs,ok.funs,ok.frf⟩
theorem Cx.Ok.unwish {X:Cx} {E:Value->Shared->Prop} (ok:(X.wish E).Ok):X.Ok:=
 ⟨ok.mod,ok.kind,ok.glob,ok.blt,ok.above,ok.inj,ok.has,ok.cab,ok.hd,ok.frames,ok.stk,ok.exf,ok.bs,ok.bsz,ok.noex,ok.exfs,ok.funs,ok.frf⟩
section
variable {X:Cx} {pins:List (Addr×Obj)} {σ:St} {H:Hp} {s:Shared} {E:Value->Shared->Prop}
theorem Inv.wish (I:Inv X pins σ H s) (E:Value->Shared->Prop):Inv (X.wish E) pins σ H s:=⟨I.ok.wish E,I.os,I.bare,I.base,I.loc,I.cell,I.free,I.freeC,I.pin,I.hok,I.len⟩
theorem Inv.unwish (I:Inv (X.wish E) pins σ H s):Inv X pins σ H s:=⟨I.ok.unwish,I.os,I.bare,I.base,I.loc,I.cell,I.free,I.freeC,I.pin,I.hok,I.len⟩
end
section
variable {X:Cx} {st:Stmt} {rest:List Stmt} {t u:TS} {e:Expr} {te:TE} {pos:Pos}
noncomputable def j8n:TS:=λD σ H=>D.nx σ H
noncomputable def w1m (t u:TS):TS:=λD σ H=>t { D with nx:=u D } σ H
theorem j2Z:PSs X [] j8n:=λ_ _ σ H _ I h=>wpAny_execs_nil ⟨σ,H,I,h⟩
theorem q5U (h1:PS X st t) (h2:PSs X rest u):PSs X (st::rest) (w1m t u):=by
 intro pins s σ H D I h
 refine wpAny_execs_cons (thn (h1 pins s σ H { D with nx:=u D } I h) λf s1 q=>?_)
 cases f with
 | next=>
  obtain ⟨σ',H',I',q⟩:=q
  exact h2 pins s1 σ' H' D I' q
 | ret v=>exact q
 | brk=>exact q
 | cont=>exact q
theorem j3p (h1:PS X st t):PSs X [st] t:=by
 intro pins s σ H D I h
 refine wpAny_execs_cons (thn (h1 pins s σ H D I h) λf s1 q=>?_)
 cases f with
 | next=>exact wpAny_execs_nil q
 | ret v=>exact q
 | brk=>exact q
 | cont=>exact q
theorem Inv.quiet {pins:List (Addr×Obj)} {σ:St} {H:Hp} {s:Shared} (I:Inv X pins σ H s):interactive X.env=false:=by simp [interactive,I.ok.kind]
noncomputable def j9B (te:TE):TS:=λD σ H=>te σ H λ_ H1=>D.nx σ H1
theorem q8Z (he:PE X e te) (hs:swapsWith e none pos.line X.env=pure false:=by rfl):PS X (.Expr e pos) (j9B te):=by
 intro pins s σ H D I h
 exact wpAny_Expr_any (thn (he pins s σ H _ I h) λv s1 ⟨x,H1,I1,r1,q1⟩=>⟨σ,H1,I1,q1⟩) I.quiet hs
noncomputable def w1g (te:TE):TS:=λD σ H=>te σ H D.rt
theorem q53 (he:PE X e te):PS X (.Return (some e) pos) (w1g te):=by
 intro pins s σ H D I h
 exact wpAny_Return_some (thn (he pins s σ H _ I h) λv s1 ⟨x,H1,I1,r1,q1⟩=>⟨x,σ,H1,I1,r1,q1⟩)
noncomputable def w02 (c:TT) (t u:TS):TS:=λD σ H=>c σ H λb H1=>if b=true then t D σ H1 else u D σ H1
theorem j9w {c:Expr} {a b:List Stmt} {tc:TT} (hc:PT X c tc) (ha:PSs X a t) (hb:PSs X b u):PS X (.If c a b pos) (w02 tc t u):=by
 intro pins s σ H D I h
 refine wpAny_If (thn (hc pins s σ H _ I h) λd s1 ⟨H1,I1,q1⟩=>?_)
 cases d with
 | true=>exact ha pins s1 σ H1 D I1 q1
 | false=>exact hb pins s1 σ H1 D I1 q1
end
noncomputable abbrev TG:=V->St->Hp->(St->Hp->Prop)->Prop
noncomputable abbrev TGs:=List V->St->Hp->(St->Hp->Prop)->Prop
noncomputable def PG (X:Cx) (target:Expr) (t:TG):Prop:=
 ∀(pins:List (Addr×Obj)) (s:Shared) (σ:St) (H:Hp) (v:V) (u:Value) (Q:St->Hp->Prop),Inv X pins σ H s->RelV v u->t v σ H Q ->
  wpAny (model X.prog X.w) X.A (assign target X.env u) (λ_ s'=>∃σ' H',Inv X pins σ' H' s'/\Q σ' H') X.xe s
noncomputable def PGs (X:Cx) (ts:List Expr) (t:TGs):Prop:=
 ∀(pins:List (Addr×Obj)) (s:Shared) (σ:St) (H:Hp) (vs:List V) (us:List Value) (Q:St->Hp->Prop),Inv X pins σ H s->Vals vs us->t vs σ H Q ->
  wpAny (model X.prog X.w) X.A (assignInOrder ((assignEach ts X.env).map (·.2)) us) (λ_ s'=>∃σ' H',Inv X pins σ' H' s'/\Q σ' H') X.xe s
noncomputable abbrev j8b:=V->V->V->Hp->(Hp->Prop)->Prop
noncomputable def w0R (X:Cx) (t:j8b):Prop:=
 ∀(pins:List (Addr×Obj)) (s:Shared) (σ:St) (H:Hp) (o i v:V) (ov iv u:Value) (Q:Hp->Prop),Inv X pins σ H s->RelV o ov->RelV i iv->RelV v u->t o i v H Q ->
  wpAny (model X.prog X.w) X.A (setItem ov iv u) (λ_ s'=>∃H',Inv X pins σ H' s'/\Q H') X.xe s
section
variable {X:Cx} {pos:Pos}
noncomputable def j3x (i:Nat):TG:=λv σ H Q=>Q (σ.set i (some v)) H
theorem q3L {i:Nat} {x:Str} (hN:X.N.Nodup) (hi:X.N[i]?=some x) (hx:Loc X.env.scope x) (hf:X.fn x=true∨X.env.scope.names.lookup x=some .local:=by walk_at "v2"):PG X (.Name x pos) (j3x i):=by
 intro pins s σ H v u Q I r h
 exact wpAny_assign_Name (q5K I hN hi hx r (λs' I'=>⟨_,H,I',h⟩) hf)
noncomputable def w1z:TGs:=λvs σ H Q=>vs=[]/\Q σ H
noncomputable def j9U (t:TG) (u:TGs):TGs:=λvs σ H Q=>∃v r,vs=v::r/\t v σ H fun σ' H'=>u r σ' H' Q
theorem j3Z:PGs X [] w1z:=by
 intro pins s σ H vs us Q I r h
 obtain ⟨e,h⟩:=h
 subst e
 cases r
 exact assignInOrder_nil ⟨σ,H,I,h⟩
theorem q9L {e:Expr} {es:List Expr} {t:TG} {u:TGs} (h1:PG X e t) (h2:PGs X es u)
 (hs:(assignEach (e::es) X.env).map (·.2)=assign e X.env::(assignEach es X.env).map (·.2):=by rfl):PGs X (e::es) (j9U t u):=by
 intro pins s σ H vs us Q I r h
 obtain ⟨v,vr,e1,h⟩:=h
 subst e1
 cases r with
 | cons r rr=>
  rw [hs]
  refine assignInOrder_cons (thn (h1 pins s σ H _ _ _ I r h) λ_ s1 ⟨σ1,H1,I1,q1⟩=>?_)
  exact h2 pins s1 σ1 H1 _ _ Q I1 rr q1
noncomputable def w1f (K:PySem.W.Frag) (n:Nat) (t:TGs):TG:=λv σ H Q=>∃a xs,v=.ref a/\SqT K H a xs/\xs.length=n/\t xs σ H Q
theorem j5h {es:List Expr} {k:Nat} {t:TGs} {n:Nat} (hc:X.calm=true) (h:PGs X es t)
 (hn:(assignEach es X.env).length=n:=by rfl) (hst:(assignEach es X.env).findIdx? (·.1)=none:=by rfl):PG X (.Tuple es k pos) (w1f X.K n t):=by
 intro pins s σ H v u Q I r hw
 obtain ⟨a,xs,e1,hq,hl,hw⟩:=hw
 subst e1
 cases r
 obtain ⟨its,rv,ht,hz⟩:=I.tuple hq
 refine assign_Tuple_tuple (I.ok.hd hc) ht (by simp [hn,<-hl,rv.length]) hst λh' hx=>?_
 have I1:Inv X pins σ H { s with heap:=h' }:=I.kept (t':=s.toks) λb o e=>hx b o (Nat.ne_of_lt (Heap.lt_size e)) e
 exact h pins _ σ H xs _ Q I1 (by simpa using rv) hw
noncomputable def w1a (to ti:TE) (t:j8b):TG:=λv σ H Q=>to σ H λo H1=>ti σ H1 λi H2=>t o i v H2 λH3=>Q σ H3
theorem j6n {o i:Expr} {to ti:TE} {t:j8b} (ho:PE X o to) (hi:PE X i ti) (hs:w0R X t)
 (ha:∀v,assign (.Subscript o i pos) X.env v=(do
  let ov <-holding [v] (eval o X.env)
  let iv <-holding [v,ov] (eval i X.env)
  standAt pos
  holding [v,ov,iv] (setItem ov iv v)
  release [v,ov,iv] []):=by intro _;rfl):PG X (.Subscript o i pos) (w1a to ti t):=by
 intro pins s σ H v u Q I r h
 rw [ha]
 refine wpAny_bind (wpAny_holding (thn (ho pins s σ H _ I h) λov s1 ⟨x,H1,I1,r1,q1⟩=>?_))
 refine wpAny_bind (wpAny_holding (thn (hi pins s1 σ H1 _ I1 q1) λiv s2 ⟨y,H2,I2,r2,q2⟩=>?_))
 refine wpAny_bind (wpAny_standAt (wpAny_bind (wpAny_holding (thn (hs pins s2 σ H2 x y v ov iv u _ I2 r1 r2 r q2) λ_ s3 ⟨H3,I3,q3⟩=>?_))))
 exact wpAny_release ⟨σ,H3,I3,q3⟩
noncomputable def j8S (te:TE) (g:TG):TS:=λD σ H=>te σ H λx H1=>g x σ H1 D.nx
theorem j66 {tg e:Expr} {te:TE} {g:TG} (he:PE X e te) (hg:PG X tg g) (hs:swapsWithSole [tg] e pos.line X.env=pure false:=by rfl) (hw:swappedStores [tg] e X.env=pure none:=by rfl)
 (h1:(assignEach [tg] X.env).map (·.2)=[assign tg X.env]:=by rfl):PS X (.Assign [tg] e pos) (j8S te g):=by
 intro pins s σ H D I h
 refine wpAny_Assign_stores (thn (he pins s σ H _ I h) λv s1 ⟨x,H1,I1,r1,q1⟩=>?_) hs hw
 rw [h1]
 exact thn (hg pins s1 σ H1 x v _ I1 r1 q1) λ_ s2 q=>q
theorem q55 {i:Nat} {x:Str} {e:Expr} {te:TE} {pos':Pos} (hN:X.N.Nodup) (hi:X.N[i]?=some x) (hx:Loc X.env.scope x) (he:PE X e te) (hs:swapsWith e (some (.Name x pos')) pos.line X.env=pure false:=by rfl) (hf:X.fn x=true∨X.env.scope.names.lookup x=some .local:=by walk_at "v2") :
 PS X (.Assign [.Name x pos'] e pos) (j8S te (j3x i)):=by
 intro pins s σ H D I h
 refine wpAny_Assign_Name (thn (he pins s σ H _ I h) λv s1 ⟨y,H1,I1,r1,q1⟩=>?_) hs
 exact q5K I1 hN hi hx r1 (λs2 I2=>⟨_,H1,I2,q1⟩) hf
end
section
variable {X:Cx} {pos:Pos}
end
structure It where
 go:Nat->Hp->Prop
 yld:Nat->Hp->V->Hp->Prop
 stop:Nat->Hp->Prop
noncomputable def q4o (X:Cx) (pins:List (Addr×Obj)) (H:Hp) (b:Addr):Prop:=
 H b=none/\b≠X.env.locals/\b∉X.fs/\(b∈X.ex∨X.s₀.heap.objs.size<=b)/\(∀x c,X.env.cells.lookup x=some c->c≠b)/\∀p∈X.pn++pins,p.1≠b
theorem Inv.fpOk {X:Cx} {pins:List (Addr×Obj)} {σ:St} {H H':Hp} {s:Shared} {b:Addr} (I:Inv X pins σ H s) (hb:s.heap.objs.size<=b) (hn:H' b=none):q4o X pins H' b:=by
 refine ⟨hn,Nat.ne_of_gt (Nat.lt_of_lt_of_le I.lt hb),I.nofs hb,.inr (Nat.le_trans I.sz hb),λx c e z=>?_,λp hp z=>?_⟩
 ·obtain ⟨v,q⟩:=I.cell x c e
  exact absurd (Nat.lt_of_lt_of_le q.lt (by rw [z];exact hb)) (Nat.lt_irrefl _)
 ·exact absurd (Nat.lt_of_lt_of_le (Heap.lt_size (I.pin p hp).1) (by rw [z];exact hb)) (Nat.lt_irrefl _)
structure j8p (Cp:Cx->Prop) (P:Program) (w:World) (K:PySem.W.Frag) (tg:Expr) (J:It) (fp:List Addr) (it:Addr) (tn:Nat->Heap->Prop):Prop where
 mem:it∈fp
 obj:∀i h,tn i h->∀b∈fp,∃o,h.get? b=some o/\∀v,o.data≠.cell v
 keep:∀i h h',tn i h->(∀b∈fp,∀o,h.get? b=some o->h'.get? b=some o)->tn i h'
 item:∀(X:Cx),X.prog=P->X.w=w->X.K=K->Cp X->∀(i:Nat) (pins:List (Addr×Obj)) (s:Shared) (σ:St) (H:Hp) (E:Value->Shared->Prop),Inv X pins σ H s->(∀b∈fp,q4o X pins H b)->tn i s.heap->J.go i H ->
  wpAny (model P w) X.A (pyNext (.ref it)) (λr s1=>∃u,r=some u /\
   wpAny (model P w) X.A (letOwnedTupleGo tg (.ref it) u) (λ_ s2=>∃x H',Inv X pins σ H' s2/\RelV x u/\J.yld i H x H'/\tn (i+1) s2.heap/\∀b∈fp,H' b=none) E s1) E s
 done:∀(X:Cx),X.prog=P->X.w=w->X.K=K->Cp X->∀(i:Nat) (pins:List (Addr×Obj)) (s:Shared) (σ:St) (H:Hp) (E:Value->Shared->Prop),Inv X pins σ H s->(∀b∈fp,q4o X pins H b)->tn i s.heap->J.stop i H ->
  wpAny (model P w) X.A (pyNext (.ref it)) (λr s1=>r=none/\Inv X pins σ H s1) E s
 self:∀(A:Around) (i:Nat) (s:Shared) (Q:Value->Shared->Prop) (E:Value->Shared->Prop),tn i s.heap->Q (.ref it) s->wpAny (model P w) A (pyIter (.ref it)) Q E s
noncomputable abbrev Turn (P:Program) (w:World) (K:PySem.W.Frag) (tg:Expr) (J:It) (fp:List Addr) (it:Addr) (tn:Nat->Heap->Prop):Prop:=j8p (λX=>X.calm=true) P w K tg J fp it tn
noncomputable abbrev TI:=St->Hp->(It->Hp->Prop)->Prop
noncomputable def PIE (X:Cx) (pins:List (Addr×Obj)) (σ:St) (tg:Expr) (R:It->Hp->Prop) (itv:Value) (s2:Shared):Prop:=
 ∃(it:Addr) (fp:List Addr) (tn:Nat->Heap->Prop) (J:It) (H':Hp),itv=.ref it/\Inv X pins σ H' s2/\Turn X.prog X.w X.K tg J fp it tn/\tn 0 s2.heap/\(∀b∈fp,q4o X pins H' b)/\R J H'
noncomputable def PI (X:Cx) (tg iter:Expr) (wi:TI):Prop:=
 ∀(pins:List (Addr×Obj)) (s:Shared) (σ:St) (H:Hp) (R:It->Hp->Prop),Inv X pins σ H s->wi σ H R ->
  wpAny (model X.prog X.w) X.A (eval iter X.env) (λv s1=>wpAny (model X.prog X.w) X.A (pyIter v) (PIE X pins σ tg R) X.xe s1) X.xe s
theorem q7q {M:Model} {A:Around} {E:Value->Shared->Prop} {s:Shared} {tg:Expr} {it:Addr} {u:Value} {o:Obj} {n:String} {vs:Array Value} {Q:Unit->Shared->Prop} (ho:s.heap.get? it=some o) (hc:o.cls=.type n) (hd:o.data=.fields vs)
 (hn:["enumerate","zip","dict_itemiterator","dict_reverseitemiterator","odict_iterator","itertools.zip_longest","itertools.pairwise"].contains n=false) (hQ:Q () s):wpAny M A (letOwnedTupleGo tg (.ref it) u) Q E s:=by
 unfold letOwnedTupleGo
 cases tg<;>first
  | exact wpAny_pure hQ
  | (cases u<;>first
   | exact wpAny_pure hQ
   | (refine wpAny_bind (wpAny_load ho ?_)
      rw [hc,hd]
      show wpAny M A (if (["enumerate","zip","dict_itemiterator","dict_reverseitemiterator","odict_iterator","itertools.zip_longest","itertools.pairwise"].contains n && vs[0]?==some (rawInt _))=true then _ else _) Q E s
      rw [if_neg (by intro h;rw [hn,Bool.false_and] at h;cases h)]
      exact wpAny_pure hQ))
noncomputable def Itl (K:PySem.W.Frag) (a:Addr):It:=
 ⟨λi H=>∃xs x,SqL K H a xs/\xs[i]?=some x,λi H x H'=>H'=H/\∀xs,SqL K H a xs->xs[i]?=some x,λi H=>∃xs,SqL K H a xs/\xs.length<=i⟩
noncomputable def Itt (K:PySem.W.Frag) (a:Addr):It:=
 ⟨λi H=>∃xs x,SqT K H a xs/\xs[i]?=some x,λi H x H'=>H'=H/\∀xs,SqT K H a xs->xs[i]?=some x,λi H=>∃xs,SqT K H a xs/\xs.length<=i⟩
noncomputable def Itr (lo:Int) (n:Nat):It:=⟨λi _=>i < n,λi H x H'=>H'=H/\x=.int (lo+i),λi _=>n<=i⟩
theorem q77 {P:Program} {w:World} {K:PySem.W.Frag} {tg:Expr} (a it:Addr):Turn P w K tg (Itl K a) [it] it (λi h=>h.IsListIter it a i) where
 mem:=by simp
 obj:=λi h st b hb=>by
  have e:b=it:=by simpa using hb
  subst e
  obtain ⟨o,e,c,d⟩:=st
  exact ⟨o,e,λv z=>by rw [d] at z;cases z⟩
 keep:=λi h h' st k=>st.at λo e=>k it (by simp) o e
 item:=by
  intro X hP hw hK hc i pins s σ H E I hf st hg
  subst hP hw hK
  obtain ⟨xs,x,hq,hx⟩:=hg
  obtain ⟨its,rv,p,hz⟩:=I.list hq
  obtain ⟨u,hu,ru⟩:=rv.get hx
  obtain ⟨f0,f1,f2,f3,f4,f5⟩:=hf it (by simp)
  refine wpAny_pyNext_list_item st p.isList (x:=u) (by simpa using hu) λh' st' sb=>?_
  have I1:Inv X pins σ H { s with heap:=h' }:=I.turned (t':=s.toks) (λb o hb e=>(sb.2 b hb).trans e) f0 f1 f3 f4 f5
  obtain ⟨o,e,c,d⟩:=id st'
  exact ⟨u,rfl,q7q (s:={ s with heap:=h' }) e c d (by decide) ⟨x,H,I1,ru,⟨rfl,λys hy=>by rw [I.list_inj hy hq];exact hx⟩,st',λb hb=>(hf b hb).1⟩⟩
 done:=by
  intro X hP hw hK hc i pins s σ H E I hf st hg
  subst hP hw hK
  obtain ⟨xs,hq,hx⟩:=hg
  obtain ⟨its,rv,p,hz⟩:=I.list hq
  obtain ⟨f0,f1,f2,f3,f4,f5⟩:=hf it (by simp)
  have hl:=rv.length
  exact wpAny_pyNext_list_end (I.ok.hd hc) st p.isList (by simp;omega) λh' eb=>⟨rfl,I.turned (t':=s.toks) (λb o hb e=>eb b o hb e) f0 f1 f3 f4 f5⟩
 self:=λ_ _ _ _ _ st h=>wpAny_pyIter_listiter st h
theorem q6z {P:Program} {w:World} {K:PySem.W.Frag} {tg:Expr} (a it:Addr):Turn P w K tg (Itt K a) [it] it (λi h=>h.IsTupleIter it a i) where
 mem:=by simp
 obj:=λi h st b hb=>by
  have e:b=it:=by simpa using hb
  subst e
  obtain ⟨o,e,c,d⟩:=st
  exact ⟨o,e,λv z=>by rw [d] at z;cases z⟩
 keep:=λi h h' st k=>st.at λo e=>k it (by simp) o e
 item:=by
  intro X hP hw hK hc i pins s σ H E I hf st hg
  subst hP hw hK
  obtain ⟨xs,x,hq,hx⟩:=hg
  obtain ⟨its,rv,p,hz⟩:=I.tuple hq
  obtain ⟨u,hu,ru⟩:=rv.get hx
  obtain ⟨f0,f1,f2,f3,f4,f5⟩:=hf it (by simp)
  refine wpAny_pyNext_tuple_item st (show s.heap.IsTuple a its.toArray from p) (x:=u) (by simpa using hu) λh' st' sb=>?_
  have I1:Inv X pins σ H { s with heap:=h' }:=I.turned (t':=s.toks) (λb o hb e=>(sb.2 b hb).trans e) f0 f1 f3 f4 f5
  obtain ⟨o,e,c,d⟩:=id st'
  exact ⟨u,rfl,q7q (s:={ s with heap:=h' }) e c d (by decide) ⟨x,H,I1,ru,⟨rfl,λys hy=>by rw [I.tuple_inj hy hq];exact hx⟩,st',λb hb=>(hf b hb).1⟩⟩
 done:=by
  intro X hP hw hK hc i pins s σ H E I hf st hg
  subst hP hw hK
  obtain ⟨xs,hq,hx⟩:=hg
  obtain ⟨its,rv,p,hz⟩:=I.tuple hq
  obtain ⟨f0,f1,f2,f3,f4,f5⟩:=hf it (by simp)
  have hl:=rv.length
  exact wpAny_pyNext_tuple_end (I.ok.hd hc) st (show s.heap.IsTuple a its.toArray from p) (by simp;omega) λh' eb=>⟨rfl,I.turned (t':=s.toks) (λb o hb e=>eb b o hb e) f0 f1 f3 f4 f5⟩
 self:=λ_ _ _ _ _ st h=>wpAny_pyIter_tupleiter st h
theorem q6L {P:Program} {w:World} {K:PySem.W.Frag} {tg:Expr} (it:Addr) (lo:Int) (n:Nat):Turn P w K tg (Itr lo n) [it] it (λi h=>IsRangeIter h it (lo+(i:Nat)*1) ((n:Int)-(i:Nat)) 1) where
 mem:=by simp
 obj:=λi h st b hb=>by
  have e:b=it:=by simpa using hb
  subst e
  exact ⟨_,st,λv z=>by
   have z':Data.fields _=Data.cell v:=z
   cases z'⟩
 keep:=λi h h' st k=>k it (by simp) _ st
 item:=by
  intro X hP hw hK hc i pins s σ H E I hf st hg
  subst hP hw hK
  obtain ⟨f0,f1,f2,f3,f4,f5⟩:=hf it (by simp)
  have W:=Walks.range (prog:=X.prog) (w:=X.w) (I.ok.hd hc) it lo 1 n
  refine W.item i s _ _ hg st λv h' tk hv st' kk=>?_
  obtain ⟨t,rfl⟩:=hv
  have I1:Inv X pins σ H { s with heap:=h',toks:=tk }:=I.turned (λb o hb e=>kk b o (by simpa using hb) e) f0 f1 f3 f4 f5
  refine ⟨_,rfl,q7q (s:={ s with heap:=h',toks:=tk }) (n:="range_iterator") st' rfl rfl (by decide) ⟨.int (lo+i),H,I1,⟨t,?_⟩,⟨rfl,rfl⟩,st',λb hb=>(hf b hb).1⟩⟩
  rw [Int.mul_one]
 done:=by
  intro X hP hw hK hc i pins s σ H E I hf st hg
  subst hP hw hK
  obtain ⟨f0,f1,f2,f3,f4,f5⟩:=hf it (by simp)
  exact wpAny_pyNext_range_end (I.ok.hd hc) st (by have:n<=i:=hg;omega) λh' eb=>⟨rfl,I.turned (t':=s.toks) (λb o hb e=>eb b o hb e) f0 f1 f3 f4 f5⟩
 self:=λ_ _ _ _ _ st h=>wpAny_pyIter_rangeiter st h
section
variable {X:Cx} {tg:Expr}
noncomputable def j9v (K:PySem.W.Frag) (tl:TE):TI:=fun σ H R=>tl σ H λx H1=>∃a,x=.ref a/\(∃xs,SqL K H1 a xs)/\R (Itl K a) H1
noncomputable def w1j (K:PySem.W.Frag) (tl:TE):TI:=fun σ H R=>tl σ H λx H1=>∃a,x=.ref a/\(∃xs,SqT K H1 a xs)/\R (Itt K a) H1
theorem j3K {l:Expr} {tl:TE} (hl:PE X l tl):PI X tg l (j9v X.K tl):=by
 intro pins s σ H R I h
 refine thn (hl pins s σ H _ I h) λv s1 ⟨x,H1,I1,r1,q1⟩=>?_
 obtain ⟨a,e,⟨xs,hq⟩,q⟩:=q1
 subst e
 cases r1
 obtain ⟨its,rv,p,hz⟩:=I1.list hq
 refine wpAny_pyIter_list p.isList ?_
 refine ⟨s1.heap.objs.size,[s1.heap.objs.size],_,_,H1,rfl,I1.kept (t':=s1.toks) λb o e=>Heap.get?_push_of_some _ e,q77 a _,⟨_,Heap.get?_push_size _ rfl,rfl,rfl⟩,λb hb=>?_,q⟩
 have e:b=s1.heap.objs.size:=by simpa using hb
 subst e
 exact I1.fpOk (Nat.le_refl _) (I1.hok.fresh (Nat.le_refl _))
theorem j4L {l:Expr} {tl:TE} (hl:PE X l tl):PI X tg l (w1j X.K tl):=by
 intro pins s σ H R I h
 refine thn (hl pins s σ H _ I h) λv s1 ⟨x,H1,I1,r1,q1⟩=>?_
 obtain ⟨a,e,⟨xs,hq⟩,q⟩:=q1
 subst e
 cases r1
 obtain ⟨its,rv,p,hz⟩:=I1.tuple hq
 refine wpAny_pyIter_tuple (show s1.heap.IsTuple a its.toArray from p) ?_
 refine ⟨s1.heap.objs.size,[s1.heap.objs.size],_,_,H1,rfl,I1.kept (t':=s1.toks) λb o e=>Heap.get?_push_of_some _ e,q6z a _,⟨_,Heap.get?_push_size _ rfl,rfl,rfl⟩,λb hb=>?_,q⟩
 have e:b=s1.heap.objs.size:=by simpa using hb
 subst e
 exact I1.fpOk (Nat.le_refl _) (I1.hok.fresh (Nat.le_refl _))
theorem q9x {pins:List (Addr×Obj)} {σ:St} {H:Hp} {s:Shared} {R:It->Hp->Prop} {E:Value->Shared->Prop} {lo hi:Int} {t u v:Tok} {tk:Nat} (I:Inv X pins σ H s) (h1:-(2 ^ 62)<=lo) (h2:lo < 2 ^ 62) (h3:-(2 ^ 62)<=hi) (h4:hi < 2 ^ 62)
 (q:R (Itr lo (hi-lo).toNat) H):wpAny (model X.prog X.w) X.A (pyIter (.ref s.heap.objs.size)) (PIE X pins σ tg R) E { s with heap:=s.heap.push { cls:=.type "range",data:=.fields #[.int lo t,.int hi u,.int 1 v] },toks:=tk }:=by
 refine wpAny_pyIter_range (IsRange.new ..) (small_one h1 h2 h3 h4) ?_
 have I1:Inv X pins σ H { s with heap:=s.heap.push { cls:=.type "range",data:=.fields #[.int lo t,.int hi u,.int 1 v] },toks:=tk }:=I.kept λb o e=>Heap.get?_push_of_some _ e
 refine ⟨(s.heap.push { cls:=.type "range",data:=.fields #[.int lo t,.int hi u,.int 1 v] }).objs.size,[(s.heap.push { cls:=.type "range",data:=.fields #[.int lo t,.int hi u,.int 1 v] }).objs.size],_,_,H,rfl,
  I1.kept (t':=tk) λb o e=>Heap.get?_push_of_some _ e,q6L _ lo (hi-lo).toNat,?_,λb hb=>?_,q⟩
 ·have e1:lo+((0:Nat):Int)*1=lo:=by simp
  have e2:(((hi-lo).toNat:Nat):Int)-((0:Nat):Int)=Builtin.Range.rangeSize lo hi 1:=by rw [rangeSize_one];split<;>omega
  show IsRangeIter _ _ (lo+((0:Nat):Int)*1) ((((hi-lo).toNat:Nat):Int)-((0:Nat):Int)) 1
  rw [e1,e2]
  exact Heap.get?_push_size _ rfl
 ·have e:b=(s.heap.push { cls:=.type "range",data:=.fields #[.int lo t,.int hi u,.int 1 v] }).objs.size:=by simpa using hb
  subst e
  exact I1.fpOk (Nat.le_refl _) (I1.hok.fresh (Nat.le_refl _))
noncomputable def j8T (ta:TA):TI:=fun σ H R=>ta σ H λvs H1=>∃j:Int,vs=[.int j]/\-(2 ^ 62)<=j/\j < 2 ^ 62/\R (Itr 0 j.toNat) H1
theorem q8J {a:Expr} {ta:TA} {p pos:Pos} (hg:Gl X "range") (hm:X.mg "range" = none) (ha:PA X [a] ta) (hs:starEach [a] X.env=[(false,eval a X.env)]:=by rfl):PI X tg (.Call (.Name "range" p) [a] [] pos) (j8T ta):=by
 intro pins s σ H R I h
 refine Call_ (q2A I hg hm boot_range (PyProof.Rows.callWith_type1 (thn (ha pos pins s σ H _ I h) λus s1 ⟨vs,H1,I1,r1,q1⟩=>?_) hs rfl))
 obtain ⟨j,e,q1,q2,q⟩:=q1
 subst e
 cases r1 with
 | cons r rr=>
  cases rr
  obtain ⟨t,rfl⟩:=r
  exact call_range_1 (q9x I1 (by omega) (by omega) q1 q2 (by simpa using q))
noncomputable def w1l (wi:TI) (g:TG) (tb:TS):TS:=λD σ H=>wi σ H λJ H1=>∃W:Nat->Nat->St->Hp->Prop,(∃m,W 0 m σ H1)/\∀i m σ H,W i m σ H ->
 (J.stop i H/\D.nx σ H)∨(J.go i H/\∃N:St->Hp->Prop,(∀σ' H',N σ' H'->∃m',m' < m/\W (i+1) m' σ' H')/\∀x H',J.yld i H x H'->g x σ H' fun σ2 H2=>tb { D with nx:=N,ct:=N,bk:=D.nx } σ2 H2)
noncomputable def q57 (fp:List Addr) (h:Heap):List (Addr×Obj):=fp.filterMap λb=>(h.get? b).map λo=>(b,o)
theorem q1o {fp:List Addr} {h:Heap} {b:Addr} {o:Obj} (hb:b∈fp) (e:h.get? b=some o):(b,o)∈q57 fp h:=List.mem_filterMap.mpr ⟨b,hb,by rw [e];rfl⟩
theorem q9d {fp:List Addr} {h:Heap} {p:Addr×Obj} (hp:p∈q57 fp h):p.1∈fp/\h.get? p.1=some p.2:=by
 obtain ⟨b,hb,e⟩:=List.mem_filterMap.mp hp
 cases q:h.get? b with
 | none=>rw [q] at e;cases e
 | some o=>
  rw [q] at e
  have e':(b,o)=p:=Option.some.inj e
  subst e'
  exact ⟨hb,q⟩
theorem Inv.pinned {pins:List (Addr×Obj)} {σ:St} {H:Hp} {s:Shared} {fp:List Addr} (I:Inv X pins σ H s) (hf:∀b∈fp,q4o X pins H b) (ho:∀b∈fp,∃o,s.heap.get? b=some o/\∀v,o.data≠.cell v):Inv X (pins++q57 fp s.heap) σ H s:=
 I.pins_of λp hp=>(List.mem_append.mp hp).elim (λz=>I.pin p (List.mem_append_right _ z)) λz=>by
  obtain ⟨hb,e⟩:=q9d z
  obtain ⟨f0,f1,f2,_⟩:=hf p.1 hb
  obtain ⟨o,e',d⟩:=ho p.1 hb
  rw [e] at e';cases e'
  exact ⟨e,f0,f1,f2,d⟩
theorem Inv.unpinned {pins pl:List (Addr×Obj)} {σ:St} {H:Hp} {s:Shared} (I:Inv X (pins++pl) σ H s):Inv X pins σ H s:=I.pins_of λp hp=>I.pin p (List.mem_append_right _ (List.mem_append_left _ hp))
theorem j6t {iter:Expr} {body:List Stmt} {wi:TI} {g:TG} {tb:TS} {pos:Pos} (hp:PassesOwn (model X.prog X.w) X.A X.env X.xe) (hc:X.calm=true) (hi:PI X tg iter wi) (hg:PG X tg g) (hb:PSs X body tb)
 (hs:∀x,foldedSetIterable iter X.env x=pure x:=by intro _;rfl):PS X (.For tg iter body [] pos) (w1l wi g tb):=by
 intro pins s σ H D I h
 refine wpAny_For (thn (hi pins s σ H _ I h) λv s1 h1=>thn h1 λitv s2 h2=>?_) hs
 obtain ⟨it,fp,tn,J,H2,e,I2,T,st2,f2,W,⟨m0,w0⟩,turn⟩:=h2
 subst e
 have stat:∀{H':Hp},(∀b∈fp,H' b=none)->∀b∈fp,q4o X pins H' b:=λhn b hb=>⟨hn b hb,(f2 b hb).2⟩
 refine codeAny_forLoop_any (λn s'=>∃i σ' H',Inv X pins σ' H' s'/\tn i s'.heap/\(∀b∈fp,H' b=none)/\W i n σ' H') ?_ m0 ⟨0,σ,H2,I2,st2,λb hb=>(f2 b hb).1,w0⟩
 rintro n s3 ⟨i,σ3,H3,I3,st3,fr3,w3⟩
 rcases turn i n σ3 H3 w3 with ⟨stop,qn⟩ | ⟨go,N,hN,step⟩
 ·refine wpAny_passesOwn hp (thn (T.done X rfl rfl rfl hc i pins s3 σ3 H3 X.xe I3 (stat fr3) st3 stop) λr s4 ⟨hr,I4⟩=>?_)
  subst hr
  exact wpAny_execs_nil ⟨σ3,H3,I4,qn⟩
 ·refine wpAny_passesOwn hp (thn (T.item X rfl rfl rfl hc i pins s3 σ3 H3 X.xe I3 (stat fr3) st3 go) λr s4 ⟨u,hr,h4⟩=>?_)
  subst hr
  refine wpAny_passesOwn hp (thn h4 λ_ s5 ⟨x,H5,I5,r5,y5,st5,fr5⟩=>?_)
  have I5':=I5.pinned (stat fr5) (T.obj _ _ st5)
  refine wpAny_passesOwn hp (thn (hg _ s5 σ3 H5 x u _ I5' r5 (step x H5 y5)) λ_ s6 ⟨σ6,H6,I6,q6⟩=>?_)
  refine wpAny_passesOwn hp (thn (hb _ s6 σ6 H6 _ I6 q6) λf s7 q7=>?_)
  have again:∀{σ7:St} {H7:Hp},Inv X (pins++q57 fp s5.heap) σ7 H7 s7->N σ7 H7->∃m,m < n/\∃i σ' H',Inv X pins σ' H' s7/\tn i s7.heap/\(∀b∈fp,H' b=none)/\W i m σ' H':=λ{σ7 H7} I7 n7=>by
   obtain ⟨m',hm,w7⟩:=hN σ7 H7 n7
   refine ⟨m',hm,i+1,σ7,H7,I7.unpinned,T.keep _ _ _ st5 λb hb o e=>(I7.pin (b,o) (List.mem_append_right _ (List.mem_append_right _ (q1o hb e)))).1,λb hb=>?_,w7⟩
   obtain ⟨o,e,d⟩:=T.obj _ _ st5 b hb
   exact (I7.pin (b,o) (List.mem_append_right _ (List.mem_append_right _ (q1o hb e)))).2.1
  cases f with
  | next=>obtain ⟨σ7,H7,I7,n7⟩:=q7;exact again I7 n7
  | cont=>obtain ⟨σ7,H7,I7,n7⟩:=q7;exact again I7 n7
  | brk=>obtain ⟨σ7,H7,I7,q7⟩:=q7;exact ⟨σ7,H7,I7.unpinned,q7⟩
  | ret v=>obtain ⟨x7,σ7,H7,I7,r7,q7⟩:=q7;exact ⟨x7,σ7,H7,I7.unpinned,r7,q7⟩
end
noncomputable abbrev R2:=V->V->Hp->VK->Prop
noncomputable def OpR (X:Cx) (f:Value->Value->Sem Value) (r:R2):Prop:=
 ∀(pins:List (Addr×Obj)) (s:Shared) (σ:St) (H:Hp) (x y:V) (v u:Value) (Q:VK),Inv X pins σ H s->RelV x v->RelV y u->r x y H Q ->
  wpAny (model X.prog X.w) X.A (f v u) (EP X pins σ Q) X.xe s
noncomputable def UnR (X:Cx) (f:Value->Sem Value) (r:V->Hp->VK->Prop):Prop:=
 ∀(pins:List (Addr×Obj)) (s:Shared) (σ:St) (H:Hp) (x:V) (v:Value) (Q:VK),Inv X pins σ H s->RelV x v->r x H Q ->
  wpAny (model X.prog X.w) X.A (f v) (EP X pins σ Q) X.xe s
noncomputable def q2f (X:Cx) (f:Value) (r:List V->Hp->VK->Prop):Prop:=
 ∀(pins:List (Addr×Obj)) (s:Shared) (σ:St) (H:Hp) (xs:List V) (us:List Value) (Q:VK),Inv X pins σ H s->Vals xs us->r xs H Q ->
  wpAny (model X.prog X.w) X.A (call f us) (EP X pins σ Q) X.xe s
noncomputable def w1t (X:Cx) (r:V->Hp->(Bool->Hp->Prop)->Prop):Prop:=
 ∀(pins:List (Addr×Obj)) (s:Shared) (σ:St) (H:Hp) (x:V) (v:Value) (Q:Bool->Hp->Prop),Inv X pins σ H s->RelV x v->r x H Q ->
  wpAny (model X.prog X.w) X.A (truthy v) (TP X pins σ Q) X.xe s
noncomputable def tOp (r:R2) (ta tb:TE):TE:=fun σ H Q=>ta σ H λx H1=>tb σ H1 λy H2=>r x y H2 Q
noncomputable def tUn (r:V->Hp->VK->Prop) (ta:TE):TE:=fun σ H Q=>ta σ H λx H1=>r x H1 Q
noncomputable def rI (C:Int->Int->Prop) (g:Int->Int->V):R2:=λx y H Q=>∃i j,x=.int i/\y=.int j/\C i j/\Q (g i j) H
noncomputable def rI0 (g:Int->Int->V):R2:=λx y H Q=>∃i j,x=.int i/\y=.int j/\Q (g i j) H
noncomputable def rU (g:Int->V):V->Hp->VK->Prop:=λx H Q=>∃i,x=.int i/\Q (g i) H
section
variable {X:Cx} {a b c:Expr} {ta tb tc:TE} {pos:Pos}
theorem j9S (ha:PE X a ta) (hb:PE X b tb) {pins:List (Addr×Obj)} {s:Shared} {σ:St} {H:Hp} {R:V->V->Hp->Prop} (I:Inv X pins σ H s)
 (h:ta σ H λx H1=>tb σ H1 λy H2=>R x y H2) {Q:Value->Shared->Prop} {f:Value->Value->Sem Value}
 (hf:∀v u s2 x y H2,Inv X pins σ H2 s2->RelV x v->RelV y u->R x y H2->wpAny (model X.prog X.w) X.A (f v u) Q X.xe s2) :
 wpAny (model X.prog X.w) X.A (eval a X.env) (λv s₁=>wpAny (model X.prog X.w) X.A (eval b X.env) (λu s₂=>wpAny (model X.prog X.w) X.A (f v u) Q X.xe s₂) X.xe s₁) X.xe s:=by
 refine thn (ha pins s σ H _ I h) λv s1 ⟨x,H1,I1,r1,q1⟩=>?_
 refine thn (hb pins s1 σ H1 _ I1 q1) λu s2 ⟨y,H2,I2,r2,q2⟩=>?_
 exact hf v u s2 x y H2 I2 r1 r2 q2
theorem j24 {op:Operator} {r:R2} (ho:OpR X (binaryOp op) r) (ha:PE X a ta) (hb:PE X b tb):PE X (.BinOp a op b pos) (tOp r ta tb):=by
 intro pins s σ H Q I h
 exact wpAny_BinOp (j9S ha hb I h λv u s2 x y H2 I2 rx ry q=>ho pins s2 σ H2 x y v u Q I2 rx ry q)
theorem j8P {op:UnaryOp} {r:V->Hp->VK->Prop} (ho:UnR X (unaryOp op) r) (ha:PE X a ta):PE X (.UnaryOp op a pos) (tUn r ta):=by
 intro pins s σ H Q I h
 exact UnaryOp_ (thn (ha pins s σ H _ I h) λv s1 ⟨x,H1,I1,r1,q1⟩=>ho pins s1 σ H1 x v Q I1 r1 q1)
theorem opI {f:Value->Value->Sem Value} {C:Int->Int->Prop} {g:Int->Int->Int}
 (rule:∀(i j:Int) (t u:Tok) (s:Shared) (Q:Value->Shared->Prop) (E:Value->Shared->Prop),C i j->Q (.int (g i j) s.toks) { s with toks:=s.toks+1 }->wpAny (model X.prog X.w) X.A (f (.int i t) (.int j u)) Q E s) :
 OpR X f (rI C λi j=>.int (g i j)):=by
 intro pins s σ H x y v u Q I rx ry h
 obtain ⟨i,j,rfl,rfl,hc,q⟩:=h
 obtain ⟨t,rfl⟩:=rx
 obtain ⟨t',rfl⟩:=ry
 exact rule i j t t' s _ _ hc ⟨.int (g i j),H,I.tok _,⟨_,rfl⟩,q⟩
theorem w0a {f:Value->Value->Sem Value} {g:Int->Int->Int}
 (rule:∀(i j:Int) (t u:Tok) (s:Shared) (Q:Value->Shared->Prop) (E:Value->Shared->Prop),Q (.int (g i j) s.toks) { s with toks:=s.toks+1 }->wpAny (model X.prog X.w) X.A (f (.int i t) (.int j u)) Q E s) :
 OpR X f (rI0 λi j=>.int (g i j)):=by
 intro pins s σ H x y v u Q I rx ry h
 obtain ⟨i,j,rfl,rfl,q⟩:=h
 obtain ⟨t,rfl⟩:=rx
 obtain ⟨t',rfl⟩:=ry
 exact rule i j t t' s _ _ ⟨.int (g i j),H,I.tok _,⟨_,rfl⟩,q⟩
theorem j9Q {f:Value->Value->Sem Value} {g:Int->Int->Bool}
 (rule:∀(i j:Int) (t u:Tok) (s:Shared) (Q:Value->Shared->Prop) (E:Value->Shared->Prop),Q (.bool (g i j)) s->wpAny (model X.prog X.w) X.A (f (.int i t) (.int j u)) Q E s) :
 OpR X f (rI0 λi j=>.bl (g i j)):=by
 intro pins s σ H x y v u Q I rx ry h
 obtain ⟨i,j,rfl,rfl,q⟩:=h
 obtain ⟨t,rfl⟩:=rx
 obtain ⟨t',rfl⟩:=ry
 exact rule i j t t' s _ _ ⟨.bl (g i j),H,I,rfl,q⟩
noncomputable def w1h (i j:Int):Prop:=0 < j/\j < 1073741824
noncomputable def w1K (i j:Int):Prop:=0<=j/\j<=1000000/\i.natAbs < 2 ^ 64
noncomputable def CMul (i j:Int):Prop:=(-(2 ^ 64) < i/\i < 2 ^ 64)∨(-(2 ^ 64) < j/\j < 2 ^ 64)
theorem CMul.ok {i j:Int} (h:CMul i j):IntMulOk i j:=by
 rcases h with ⟨h1,h2⟩ | ⟨h1,h2⟩
 ·exact .of_left (intBits_le_64 h1 h2)
 ·exact .of_right (intBits_le_64 h1 h2)
theorem j5P:OpR X (binaryOp .Add) (rI0 λi j=>.int (i+j)):=w0a λ_ _ _ _ _ _ _ q=>add_int q
theorem j67:OpR X (binaryOp .Sub) (rI0 λi j=>.int (i-j)):=w0a λ_ _ _ _ _ _ _ q=>sub_int q
theorem j5F:OpR X (binaryOp .Mult) (rI CMul λi j=>.int (i*j)):=opI λ_ _ _ _ _ _ _ hc q=>mul_int q hc.ok
theorem j4l:OpR X (binaryOp .FloorDiv) (rI w1h λi j=>.int (i / j)):=opI λi j _ _ _ _ _ hc q=>by
 have h1:(0:Int) < j:=hc.1
 have h2:j < 1073741824:=hc.2
 exact floordiv_int (by omega) (by rw [Int.fdiv_eq_ediv_of_nonneg i (by omega)];exact q) (.inl (PyProof.noPylong_small (by omega)))
theorem j62:OpR X (binaryOp .Mod) (rI (λ_ j=>0 < j) λi j=>.int (i % j)):=opI λi j _ _ _ _ _ hc q=>by
 have h1:(0:Int) < j:=hc
 exact mod_int' (by omega) (by rw [Int.fmod_eq_emod_of_nonneg i (by omega)];exact q)
theorem j7a:OpR X (binaryOp .Pow) (rI w1K λi j=>.int (i ^ j.toNat)):=opI λ_ _ _ _ _ _ _ hc q=>pow_int_small hc.1 hc.2.1 hc.2.2 q
theorem unI {f:Value->Sem Value} {g:Int->Int}
 (rule:∀(i:Int) (t:Tok) (s:Shared) (Q:Value->Shared->Prop) (E:Value->Shared->Prop),Q (.int (g i) s.toks) { s with toks:=s.toks+1 }->wpAny (model X.prog X.w) X.A (f (.int i t)) Q E s) :
 UnR X f (rU λi=>.int (g i)):=by
 intro pins s σ H x v Q I rx h
 obtain ⟨i,rfl,q⟩:=h
 obtain ⟨t,rfl⟩:=rx
 exact rule i t s _ _ ⟨.int (g i),H,I.tok _,⟨_,rfl⟩,q⟩
theorem j6X:UnR X (unaryOp .USub) (rU λi=>.int (-i)):=unI λ_ _ _ _ _ q=>neg_int q
end
noncomputable def scal:V->V->Bool
 | .non,.non=>true | .non,.int _=>true | .int _,.non=>true | .non,.bl _=>true | .bl _,.non=>true | .non,.str _=>true | .str _,.non=>true
 | .int _,.int _=>true | .bl _,.bl _=>true | .str _,.str _=>true | .byt _,.byt _=>true
 | .int _,.str _=>true | .str _,.int _=>true | .bl _,.str _=>true | .str _,.bl _=>true
 | _,_=>false
noncomputable def rEq:R2:=λx y H Q=>scal x y=true/\Q (.bl (decide (x=y))) H
noncomputable def rNe:R2:=λx y H Q=>scal x y=true/\Q (.bl (!decide (x=y))) H
theorem q8r {i j:Int}:decide (V.int i=V.int j)=(i==j):=by
 rw [Bool.eq_iff_iff]
 simp
theorem j1Y {i j:Bool}:decide (V.bl i=V.bl j)=(i==j):=by
 rw [Bool.eq_iff_iff]
 simp
theorem q7P {i j:Str}:decide (V.str i=V.str j)=(i==j):=by
 rw [Bool.eq_iff_iff]
 simp
theorem q8L {i j:Array UInt8}:decide (V.byt i=V.byt j)=(i.toList==j.toList):=by
 rw [Bool.eq_iff_iff]
 cases i
 cases j
 simp
section
variable {X:Cx} {a b c:Expr} {ta tb tc:TE} {pos:Pos}
theorem q0C {pins:List (Addr×Obj)} {σ:St} {H:Hp} {s:Shared} {Q:VK} {k k':Bool} (I:Inv X pins σ H s) (q:Q (.bl k) H) (e:k=k'):EP X pins σ Q (.bool k') s:=by
 subst e
 exact ⟨.bl k,H,I,rfl,q⟩
theorem j8e:OpR X (compareOp .Eq) rEq:=by
 intro pins s σ H x y v u Q I rx ry h
 obtain ⟨hs,q⟩:=h
 cases x with
 | non=>
  cases rx
  cases y with
  | non=>cases ry;exact PySem.EqNone.eq_none_none (q0C I q (by simp))
  | bl j=>cases ry;exact PySem.EqNone.eq_none_bool (q0C I q (by simp))
  | int j=>obtain ⟨t',rfl⟩:=ry;exact PySem.EqNone.eq_none_int (q0C I q (by simp))
  | str j=>obtain ⟨t',rfl⟩:=ry;exact PySem.EqNone.eq_none_str (q0C I q (by simp))
  | _=>exact absurd (show false=true from hs) Bool.false_ne_true
 | bl i=>
  cases rx
  cases y with
  | non=>cases ry;exact PySem.EqNone.eq_bool_none (q0C I q (by simp))
  | bl j=>cases ry;exact eq_bool (q0C I q j1Y)
  | str j=>obtain ⟨t',rfl⟩:=ry;exact PySem.EqMixed.eq_bool_str (q0C I q (by simp))
  | _=>exact absurd (show false=true from hs) Bool.false_ne_true
 | int i=>
  obtain ⟨t,rfl⟩:=rx
  cases y with
  | non=>cases ry;exact PySem.EqNone.eq_int_none (q0C I q (by simp))
  | int j=>obtain ⟨t',rfl⟩:=ry;exact eq_int (q0C I q q8r)
  | str j=>obtain ⟨t',rfl⟩:=ry;exact PySem.EqMixed.eq_int_str (q0C I q (by simp))
  | _=>exact absurd (show false=true from hs) Bool.false_ne_true
 | str i=>
  obtain ⟨t,rfl⟩:=rx
  cases y with
  | non=>cases ry;exact PySem.EqNone.eq_str_none (q0C I q (by simp))
  | bl j=>cases ry;exact PySem.EqMixed.eq_str_bool (q0C I q (by simp))
  | int j=>obtain ⟨t',rfl⟩:=ry;exact PySem.EqMixed.eq_str_int (q0C I q (by simp))
  | str j=>obtain ⟨t',rfl⟩:=ry;exact eq_str (q0C I q q7P)
  | _=>exact absurd (show false=true from hs) Bool.false_ne_true
 | byt i=>
  obtain ⟨t,rfl⟩:=rx
  cases y with
  | byt j=>obtain ⟨t',rfl⟩:=ry;exact PySem.W.eq_bytes (q0C I q q8L)
  | _=>exact absurd (show false=true from hs) Bool.false_ne_true
 | _=>cases y<;>exact absurd (show false=true from hs) Bool.false_ne_true
theorem j9y:OpR X (compareOp .NotEq) rNe:=by
 intro pins s σ H x y v u Q I rx ry h
 obtain ⟨hs,q⟩:=h
 cases x with
 | non=>
  cases rx
  cases y with
  | non=>cases ry;exact PySem.EqNone.ne_none_none (q0C I q (by simp))
  | bl j=>cases ry;exact PySem.EqNone.ne_none_bool (q0C I q (by simp))
  | int j=>obtain ⟨t',rfl⟩:=ry;exact PySem.EqNone.ne_none_int (q0C I q (by simp))
  | str j=>obtain ⟨t',rfl⟩:=ry;exact PySem.EqNone.ne_none_str (q0C I q (by simp))
  | _=>exact absurd (show false=true from hs) Bool.false_ne_true
 | bl i=>
  cases rx
  cases y with
  | non=>cases ry;exact PySem.EqNone.ne_bool_none (q0C I q (by simp))
  | bl j=>cases ry;exact ne_bool (q0C I q (congrArg not j1Y))
  | str j=>obtain ⟨t',rfl⟩:=ry;exact PySem.EqMixed.ne_bool_str (q0C I q (by simp))
  | _=>exact absurd (show false=true from hs) Bool.false_ne_true
 | int i=>
  obtain ⟨t,rfl⟩:=rx
  cases y with
  | non=>cases ry;exact PySem.EqNone.ne_int_none (q0C I q (by simp))
  | int j=>obtain ⟨t',rfl⟩:=ry;exact ne_int (q0C I q (congrArg not q8r))
  | str j=>obtain ⟨t',rfl⟩:=ry;exact PySem.EqMixed.ne_int_str (q0C I q (by simp))
  | _=>exact absurd (show false=true from hs) Bool.false_ne_true
 | str i=>
  obtain ⟨t,rfl⟩:=rx
  cases y with
  | non=>cases ry;exact PySem.EqNone.ne_str_none (q0C I q (by simp))
  | bl j=>cases ry;exact PySem.EqMixed.ne_str_bool (q0C I q (by simp))
  | int j=>obtain ⟨t',rfl⟩:=ry;exact PySem.EqMixed.ne_str_int (q0C I q (by simp))
  | str j=>obtain ⟨t',rfl⟩:=ry;exact ne_str (q0C I q (congrArg not q7P))
  | _=>exact absurd (show false=true from hs) Bool.false_ne_true
 | byt i=>
  obtain ⟨t,rfl⟩:=rx
  cases y with
  | byt j=>obtain ⟨t',rfl⟩:=ry;exact PySem.W.ne_bytes (q0C I q (congrArg not q8L))
  | _=>exact absurd (show false=true from hs) Bool.false_ne_true
 | _=>cases y<;>exact absurd (show false=true from hs) Bool.false_ne_true
theorem j8W:OpR X (compareOp .Lt) (rI0 λi j=>.bl (decide (i < j))):=j9Q λ_ _ _ _ _ _ _ q=>lt_int q
theorem j9J:OpR X (compareOp .LtE) (rI0 λi j=>.bl (decide (i<=j))):=j9Q λ_ _ _ _ _ _ _ q=>le_int q
theorem j9a:OpR X (compareOp .Gt) (rI0 λi j=>.bl (decide (j < i))):=j9Q λ_ _ _ _ _ _ _ q=>gt_int q
theorem q7x:OpR X (compareOp .In) (λx y H Q=>∃i j,x=.str i/\y=.str j/\Q (.bl (!(Builtin.Str.occurrences j i 0 j.length 1).isEmpty)) H):=by
 intro pins s σ H x y v u Q I rx ry h
 obtain ⟨i,j,rfl,rfl,q⟩:=h
 obtain ⟨t,rfl⟩:=rx
 obtain ⟨t',rfl⟩:=ry
 exact in_str (q0C I q rfl)
theorem j5p:OpR X (compareOp .Is) (λx y H Q=>y=.non/\Q (.bl (decide (x=.non))) H):=by
 intro pins s σ H x y v u Q I rx ry h
 obtain ⟨rfl,q⟩:=h
 cases ry
 refine is_none_gen (q0C I q ?_)
 cases x<;>first
  | (cases rx;rfl)
  | (obtain ⟨t,rfl⟩:=rx;rfl)
theorem q4i:OpR X (compareOp .NotIn) (λx y H Q=>∃i j,x=.str i/\y=.str j/\Q (.bl (!(!(Builtin.Str.occurrences j i 0 j.length 1).isEmpty))) H):=by
 intro pins s σ H x y v u Q I rx ry h
 obtain ⟨i,j,rfl,rfl,q⟩:=h
 obtain ⟨t,rfl⟩:=rx
 obtain ⟨t',rfl⟩:=ry
 exact notIn_str (q0C I q rfl)
theorem OpR.or {f:Value->Value->Sem Value} {r r':R2} (h:OpR X f r) (h':OpR X f r'):OpR X f (λx y H Q=>r x y H Q∨r' x y H Q):=by
 intro pins s σ H x y v u Q I rx ry q
 rcases q with q | q
 ·exact h pins s σ H x y v u Q I rx ry q
 ·exact h' pins s σ H x y v u Q I rx ry q
theorem nomark (b:Expr) {op:CmpOp} (h:op≠.In:=by decide) (h2:op≠.NotIn:=by decide):behindInMarks op b=false:=by
 have e1:(op==CmpOp.In)=false:=by cases op<;>first | rfl | exact absurd rfl h
 have e2:(op==CmpOp.NotIn)=false:=by cases op<;>first | rfl | exact absurd rfl h2
 cases b<;>simp [behindInMarks,e1,e2]
theorem j29 {op:CmpOp} {r:R2} (ho:OpR X (compareOp op) r) (ha:PE X a ta) (hb:PE X b tb) (hm:behindInMarks op b=false):PE X (.Compare a [op] [b] pos) (tOp r ta tb):=by
 intro pins s σ H Q I h
 exact wpAny_Compare1 (j9S ha hb I h λv u s2 x y H2 I2 rx ry q=>ho pins s2 σ H2 x y v u Q I2 rx ry q) hm
noncomputable def j4Q (t:TE):TT:=fun σ H Q=>t σ H λx H'=>∃k,x=.bl k/\Q k H'
theorem j4e {op:CmpOp} {r:R2} (ho:OpR X (compareOp op) r) (ha:PE X a ta) (hb:PE X b tb) (hm:behindInMarks op b=false):PT X (.Compare a [op] [b] pos) (j4Q (tOp r ta tb)):=by
 intro pins s σ H Q I h
 refine wpAny_isTrue_Compare1 (thn (ha pins s σ H _ I h) λv s1 ⟨x,H1,I1,r1,q1⟩=>thn (hb pins s1 σ H1 _ I1 q1) λu s2 ⟨y,H2,I2,r2,q2⟩=>
  thn (ho pins s2 σ H2 x y v u _ I2 r1 r2 q2) λc s3 ⟨z,H3,I3,r3,k,e,q3⟩=>?_) hm
 subst e
 cases r3
 exact wpAny_truthy_bool ⟨H3,I3,q3⟩
noncomputable def j1i (r r':R2) (ta tb tc:TE):TE:=fun σ H Q=>ta σ H λx H1=>tb σ H1 λy H2=>r x y H2 λz H3=>∃k,z=.bl k /\
 (if k=true then tc σ H3 λw' H4=>r' y w' H4 Q else Q (.bl false) H3)
theorem j0N {op op':CmpOp} {r r':R2} (ho:OpR X (compareOp op) r) (ho':OpR X (compareOp op') r') (ha:PE X a ta) (hb:PE X b tb) (hc:PE X c tc)
 (hm:lastMarks [op,op'] [b,c]=false:=by with_unfolding_all rfl):PT X (.Compare a [op,op'] [b,c] pos) (j4Q (j1i r r' ta tb tc)):=by
 intro pins s σ H Q I h
 refine isTrue_chain (thn (ha pins s σ H _ I h) λv s1 ⟨x,H1,I1,r1,q1⟩=>test_link (thn (hb pins s1 σ H1 _ I1 q1) λu s2 ⟨y,H2,I2,r2,q2⟩=>
  thn (ho pins s2 σ H2 x y v u _ I2 r1 r2 q2) λd s3 ⟨z,H3,I3,r3,k,e,q3⟩=>?_)) hm
 subst e
 cases r3
 refine wpAny_truthy_bool ?_
 cases k with
 | false=>
  obtain ⟨k',e',q'⟩:=q3
  cases e'
  exact ite_ff ⟨H3,I3,q'⟩
 | true=>
  refine ite_tt (test_last (thn (hc pins s3 σ H3 _ I3 q3) λw' s4 ⟨z',H4,I4,r4,q4⟩=>thn (ho' pins s4 σ H4 y z' u w' _ I4 r2 r4 q4) λd' s5 ⟨z2,H5,I5,r5,k2,e2,q5⟩=>?_))
  subst e2
  cases r5
  exact wpAny_truthy_bool ⟨H5,I5,q5⟩
noncomputable def j9m (K:PySem.W.Frag) (x:V) (H:Hp) (k:Bool):Prop:=
 match x with
 | .non=>k=false
 | .bl b=>k=b
 | .int i=>k=(i != 0)
 | .str y=>y.length<=sizeLine/\k=((y.length:Int) != 0)
 | .byt y=>y.size<=sizeLine/\k=((y.size:Int) != 0)
 | .ref p=>(∃xs,SqL K H p xs/\k=!xs.isEmpty)∨(∃xs,SqT K H p xs/\k=!xs.isEmpty)∨∃kvs,H p=some (.dK kvs)/\k=!kvs.isEmpty
 | _=>False
theorem q6J {κ:Type} {kvs:List (κ×V)} {vs:List (κ×Value)} (r:KV kvs vs):(!vs.isEmpty)=!kvs.isEmpty:=by
 cases r<;>rfl
theorem q3u {xs:List V} {its:List Value} (r:Vals xs its):(!its.toArray.isEmpty)=!xs.isEmpty:=by
 cases r<;>simp
theorem line63:(sizeLine:Nat) < 2 ^ 63:=by rw [sizeLine_eq];decide
theorem j53:w1t X (λx H Q=>∃k,j9m X.K x H k/\Q k H):=by
 intro pins s σ H x v Q I rx h
 obtain ⟨k,e,q⟩:=h
 have hl:=line63
 have hs:sizeLine=16777216:=sizeLine_eq
 cases x with
 | non=>
  cases rx
  have e':k=false:=e
  subst e'
  exact truthy_none ⟨H,I,q⟩
 | bl b=>
  cases rx
  have e':k=b:=e
  subst e'
  exact wpAny_truthy_bool ⟨H,I,q⟩
 | int i=>
  obtain ⟨t,rfl⟩:=rx
  have e':k=(i != 0):=e
  subst e'
  exact PySem.P.truthy_int ⟨H,I,q⟩
 | str y=>
  obtain ⟨t,rfl⟩:=rx
  obtain ⟨hy,e'⟩:y.length<=sizeLine/\k=((y.length:Int) != 0):=e
  subst e'
  exact PySem.P.truthy_str (by omega) ⟨H,I.tok _,q⟩
 | byt y=>
  obtain ⟨t,rfl⟩:=rx
  obtain ⟨hy,e'⟩:y.size<=sizeLine/\k=((y.size:Int) != 0):=e
  subst e'
  exact PySem.W.truthy_bytes (by omega) ⟨H,I.tok _,q⟩
 | ref p=>
  cases rx
  have e':(∃xs,SqL X.K H p xs/\k=!xs.isEmpty)∨(∃xs,SqT X.K H p xs/\k=!xs.isEmpty)∨∃kvs,H p=some (.dK kvs)/\k=!kvs.isEmpty:=e
  rcases e' with ⟨xs,hx,e'⟩ | ⟨xs,hx,e'⟩ | ⟨kvs,hx,e'⟩
  ·subst e'
   obtain ⟨its,r,pl,hz⟩:=I.list hx
   have hlen:=r.length
   exact wpAny_truthy_list pl.isList (by simp only [List.size_toArray];omega) ⟨H,I.tok _,by rw [q3u r];exact q⟩
  ·subst e'
   obtain ⟨its,r,pl,hz⟩:=I.tuple hx
   have hlen:=r.length
   exact truthy_tuple pl (by simp only [List.size_toArray];omega) ⟨H,I.tok _,by rw [q3u r];exact q⟩
  ·subst e'
   obtain ⟨hz,hS,vs,r,m⟩:kvs.length<=sizeLine/\(p==sysModules)=false/\∃vs,KV kvs vs/\s.heap.DictOf (q4W X.prog X.w) p vs:=I.hok p _ hx
   have hlen:kvs.length=vs.length:=Paired.length r
   exact wpAny_truthy_dict hS m (by omega) ⟨H,I.tok _,by rw [q6J r];exact q⟩
 | _=>exact (show False from e).elim
theorem j0l (ha:PE X a ta) (he:∀whole,isTrue a X.env whole=(do let v <-whole;standAt a.pos;holding [v] (truthy v))) :
 PT X a (fun σ H Q=>ta σ H λx H'=>∃k,j9m X.K x H' k/\Q k H'):=by
 intro pins s σ H Q I h
 exact isTrue_plain (thn (ha pins s σ H _ I h) λv s1 ⟨x,H1,I1,r1,q1⟩=>j53 pins s1 σ H1 x v Q I1 r1 q1) (he _)
theorem q6W:OpR X (binaryOp .Add) (λx y H Q=>∃i j,x=.str i/\y=.str j/\i.length+j.length<=sizeLine/\Q (.str (i++j)) H):=by
 intro pins s σ H x y v u Q I rx ry h
 obtain ⟨i,j,rfl,rfl,hz,q⟩:=h
 obtain ⟨t,rfl⟩:=rx
 obtain ⟨t',rfl⟩:=ry
 exact add_str (λt' tk=>⟨.str (i++j),H,I.tok _,⟨_,rfl⟩,q⟩) hz
theorem vals1 {x:V} {us:List Value} (r:Vals [x] us):∃u,us=[u]/\RelV x u:=by
 cases r with
 | cons r1 r2=>cases r2;exact ⟨_,rfl,r1⟩
theorem vals2 {x y:V} {us:List Value} (r:Vals [x,y] us):∃u w',us=[u,w']/\RelV x u/\RelV y w':=by
 cases r with
 | cons r1 r2=>
  cases r2 with
  | cons r3 r4=>cases r4;exact ⟨_,_,rfl,r1,r3⟩
theorem q8E (hc:X.calm=true):q2f X (.builtin "max") (λxs H Q=>∃i j,xs=[.int i,.int j]/\Q (.int (if j > i then j else i)) H):=by
 intro pins s σ H xs us Q I r h
 obtain ⟨i,j,rfl,q⟩:=h
 obtain ⟨u,w',rfl,⟨t,rfl⟩,⟨t',rfl⟩⟩:=vals2 r
 refine max_two_ints (I.ok.hd hc) λh' tk k=>⟨_,H,I.kept k,?_,q⟩
 by_cases hj:j > i
 ·rw [if_pos hj,if_pos hj];exact ⟨_,rfl⟩
 ·rw [if_neg hj,if_neg hj];exact ⟨_,rfl⟩
theorem q7J (hc:X.calm=true):q2f X (.builtin "min") (λxs H Q=>∃i j,xs=[.int i,.int j]/\Q (.int (if j < i then j else i)) H):=by
 intro pins s σ H xs us Q I r h
 obtain ⟨i,j,rfl,q⟩:=h
 obtain ⟨u,w',rfl,⟨t,rfl⟩,⟨t',rfl⟩⟩:=vals2 r
 refine min_two_ints (I.ok.hd hc) λh' tk k=>⟨_,H,I.kept k,?_,q⟩
 by_cases hj:j < i
 ·rw [if_pos hj,if_pos hj];exact ⟨_,rfl⟩
 ·rw [if_neg hj,if_neg hj];exact ⟨_,rfl⟩
theorem q8M:q2f X (.type "int") (λxs H Q=>(∃i,xs=[.int i]/\Q (.int i) H)∨∃k,xs=[.bl k]/\Q (.int (if k then 1 else 0)) H):=by
 intro pins s σ H xs us Q I r h
 rcases h with ⟨i,rfl,q⟩ | ⟨k,rfl,q⟩
 ·obtain ⟨u,rfl,t,rfl⟩:=vals1 r
  exact call_int_int ⟨.int i,H,I,⟨_,rfl⟩,q⟩
 ·obtain ⟨u,rfl,r1⟩:=vals1 r
  cases r1
  exact call_int_bool ⟨.int (if k then 1 else 0),H,I.tok _,⟨_,rfl⟩,q⟩
noncomputable def w1p (K:PySem.W.Frag) (x:V) (H:Hp) (n:Nat):Prop:=
 match x with
 | .str y=>y.length<=sizeLine/\n=y.length
 | .byt y=>y.size<=sizeLine/\n=y.size
 | .ref p=>(∃xs,SqL K H p xs/\n=xs.length)∨∃xs,SqT K H p xs/\n=xs.length
 | _=>False
theorem j0F:q2f X (.builtin "len") (λxs H Q=>∃x n,xs=[x]/\w1p X.K x H n/\Q (.int n) H):=by
 intro pins s σ H xs us Q I r h
 obtain ⟨x,n,rfl,e,q⟩:=h
 obtain ⟨u,rfl,rx⟩:=vals1 r
 have hl:=line63
 have hs:sizeLine=16777216:=sizeLine_eq
 cases x with
 | str y=>
  obtain ⟨t,rfl⟩:=rx
  obtain ⟨hy,e'⟩:y.length<=sizeLine/\n=y.length:=e
  subst e'
  exact len_str (by omega) ⟨.int _,H,I.tok _,⟨_,rfl⟩,q⟩
 | byt y=>
  obtain ⟨t,rfl⟩:=rx
  obtain ⟨hy,e'⟩:y.size<=sizeLine/\n=y.size:=e
  subst e'
  exact PySem.W.len_bytes (by omega) ⟨.int _,H,I.tok _,⟨_,rfl⟩,q⟩
 | ref p=>
  cases rx
  have e':(∃xs,SqL X.K H p xs/\n=xs.length)∨∃xs,SqT X.K H p xs/\n=xs.length:=e
  rcases e' with ⟨xs,hx,e'⟩ | ⟨xs,hx,e'⟩
  ·subst e'
   obtain ⟨its,r',pl,hz⟩:=I.list hx
   have hlen:=r'.length
   exact Calls.call_len_list pl.isList (by simp only [List.size_toArray];omega) ⟨.int xs.length,H,I.tok _,⟨_,by simp only [List.size_toArray];rw [hlen]⟩,q⟩
  ·subst e'
   obtain ⟨its,r',pl,hz⟩:=I.tuple hx
   have hlen:=r'.length
   exact len_tuple pl (by simp only [List.size_toArray];omega) ⟨.int xs.length,H,I.tok _,⟨_,by simp only [List.size_toArray];rw [hlen]⟩,q⟩
 | _=>exact (show False from e).elim
end
structure ObjM (h:Heap) (x dx C:Addr) (mA:Str->Option Value):Prop where
 obj:h.get? x=some (PySem.W.instObj C dx)
 ns:h.Ns1 dx mA
 ne:dx≠x
theorem q8d {h:Heap} {dx:Addr} {mA:Str->Option Value} (n:h.Ns1 dx mA):∃od,h.get? dx=some od/\∀name,PySem.W.lookIn name od=some (mA name):=by
 obtain ⟨o,es,ep,ho,hd,hk,_,hm⟩:=n
 refine ⟨o,ho,λname=>?_⟩
 have e:=hm name
 unfold nsFind findBy at e
 rw [<-Array.find?_toList] at e
 unfold PySem.W.lookIn
 rw [hd]
 dsimp only
 split
 ·rename_i y q
  rw [q] at e
  exact congrArg some e
 ·rename_i q
  rw [q] at e
  have a:es.toList.any (·.refKey)=false:=by
   rw [List.any_eq_false]
   intro y hy
   obtain ⟨z,t,hkey⟩:=hk y (Array.mem_toList_iff.mp hy)
   simp [DictEntry.refKey,hkey]
  have a':¬es.toList.any (·.refKey)=true:=by rw [a];exact Bool.false_ne_true
  rw [if_neg a']
  exact congrArg some e
theorem ObjM.look {h:Heap} {x dx C:Addr} {mA:Str->Option Value} (I:ObjM h x dx C mA):∃od,PySem.W.InstAt h x (PySem.W.instObj C dx) C (some od)/\∀name,PySem.W.lookIn name od=some (mA name):=
 let ⟨od,ho,hl⟩:=q8d I.ns
 ⟨od,⟨I.obj,rfl,rfl,ho⟩,hl⟩
section
variable {prog:Program} {w:World} {A:Around} {E:Value->Shared->Prop} {s:Shared} {K:PySem.W.Frag} {x dx C f:Addr} {mA:Str->Option Value} {name:Str} {v:Value}
theorem j4j {expr:Bool} {Q:Value->Shared->Prop} (X:K.In s.heap) (I:ObjM s.heap x dx C mA) (hg:PySem.W.plainGet K C name=true) (hh:PySem.W.hasDictIn K C=true)
 (ha:PySem.W.findIn K (.ref C) name=some none) (hv:mA name=some v) (hv':PySem.W.handedIn v=true) (h:Q v { s with toks:=s.toks+1 }) :
 wpAny (model prog w) A (getAttr (.ref x) name expr) Q E s:=by
 obtain ⟨od,J,hl⟩:=I.look
 exact PySem.W.get_value X J (PySem.W.plainGet_of hg).1 (PySem.W.findObj_own hh ha rfl (by rw [hl,hv])) hv' h
theorem q9A {pl:Sem Bool} {Q:Value×List Value->Shared->Prop} (X:K.In s.heap) (I:ObjM s.heap x dx C mA) (hg:PySem.W.plainGet K C name=true)
 (hf:PySem.W.findIn K (.ref C) name=some (some (.ref f))) (ht:PySem.W.isFn K (.ref f)=true) (hv:mA name=none) (h:Q (.ref f,[.ref x]) s) :
 wpAny (model prog w) A (getMethod (.ref x) name pl) Q E s:=by
 obtain ⟨od,J,hl⟩:=I.look
 exact PySem.W.method_fn X J (PySem.W.plainGet_of hg).1 (PySem.W.plainGet_of hg).2 hf (beq_iff_eq.mp ht) (by show (PySem.W.lookIn name od).map (·.isSome)=some false;rw [hl,hv];rfl) h
theorem j4g {ns:List Str} {Q:Unit->Shared->Prop} (X:K.In s.heap) (I:ObjM s.heap x dx C mA)
 (hs:PySem.W.findIn K (.ref C) "__setattr__" = some (some (.builtin "object.__setattr__"))) (hp:PySem.W.plainOver K C=true) (ht:PySem.W.takerIn K C name=some none) (hh:PySem.W.hasDictIn K C=true)
 (hw:PySem.Within mA ns) (hsz:ns.length<=sizeLine)
 (h:∀h',ObjM h' x dx C (λy=>if y=name then some v else mA y)->Heap.SameBut dx s.heap h'->Q () { s with heap:=h',toks:=s.toks+2 }) :
 wpAny (model prog w) A (setAttr (.ref x) name v) Q E s:=by
 obtain ⟨od,J,hl⟩:=I.look
 refine PySem.W.set_plain X J hs (PySem.W.osa_open (s:={ s with toks:=s.toks+1 }) (r:=none) X J hp ht λb=>?_)
 obtain ⟨cd,hc,hd'⟩:=PySem.W.any_some hh
 have hx:s.heap.get? x=some ⟨.ref C,some dx,.plain,#[]⟩:=I.obj
 refine wpAny_bind (wpAny_pure (wpAny_bind (wpAny_bind (wpAny_loadPart hx (wpAny_bind (PySem.W.Looks.here (s:={ s with toks:=s.toks+1 }) (PySem.W.looks_clsIn X hc) ?_))))))
 rw [hd']
 refine wpAny_pure (a:=some dx) (wpAny_bind (wpAny_pure (wpAny_bind ?_)))
 refine wpAny_nsSet1 (s:={ s with toks:=s.toks+1 }) I.ns λh' hn2 hs2=>?_
 obtain ⟨oD,esD,epD,hoD,hdD,hcD⟩:=hn2.count (PySem.Within.cons name v hw)
 refine wpAny_bind (wpAny_lookBehind hoD (by rw [hdD];exact pastItsLine_dict (Nat.le_trans hcD (by rw [List.length_cons];omega))) ?_)
 exact wpAny_pure (h _ ⟨(hs2.2 _ (Ne.symm I.ne)).trans I.obj,hn2,I.ne⟩ hs2)
theorem q5u {R:Result->Shared->Prop} {vs:List Value} {kw:List (Str×Value)} (X:K.In s.heap) (hm:PySem.W.makesIn K C=true)
 (hi:PySem.W.findIn K (.ref C) "__init__" = some (some (.ref f))) (hf:PySem.W.typeIn K (.ref f)=some (.type "function"))
 (h:codeAny (model prog w) (A.under (.builtin "type.__call__" ⟨.ref C::vs,kw⟩)) (.call (.ref f) ⟨.ref (s.heap.objs.size+1)::vs,kw⟩) (PySem.W.InitBack (s.heap.objs.size+1) R)
  { s with heap:=(s.heap.push PySem.W.emptyDict).push (PySem.W.instObj C s.heap.objs.size) }) :
 codeAny (model prog w) A (.call (.ref C) ⟨vs,kw⟩) R s:=by
 obtain ⟨hh,g,d,t,os⟩:=s
 exact PySem.W.make_core (PySem.W.makes_of X hm) (PySem.W.looks_findIn X hi) (λself=>PySem.W.bind_fn X self hf) (.inl rfl) h
end
noncomputable def q2F (f:Str) (v:V):List (Str×V)->List (Str×V)
 | []=>[(f,v)]
 | (g,x)::r=>if g=f then (g,v)::r else (g,x)::q2F f v r
theorem q3f (f g:Str) (v:V):∀fs:List (Str×V),(q2F f v fs).lookup g=if g=f then some v else fs.lookup g
 | []=>by
  show List.lookup g [(f,v)]=_
  by_cases h:g=f
  ·have hb:(g==f)=true:=beq_iff_eq.mpr h
   simp only [List.lookup,hb,if_pos h]
  ·have hb:(g==f)=false:=beq_eq_false_iff_ne.mpr h
   simp only [List.lookup,hb,if_neg h]
 | (k,x)::r=>by
  have ih:=q3f f g v r
  rw [show q2F f v ((k,x)::r)=(if k=f then (k,v)::r else (k,x)::q2F f v r) from rfl]
  by_cases hk:k=f
  ·rw [if_pos hk]
   by_cases h:g=k
   ·have hb:(g==k)=true:=beq_iff_eq.mpr h
    simp only [List.lookup,hb,if_pos (h.trans hk)]
   ·have hb:(g==k)=false:=beq_eq_false_iff_ne.mpr h
    simp only [List.lookup,hb,if_neg (λe:g=f=>h (e.trans hk.symm))]
  ·rw [if_neg hk]
   by_cases h:g=k
   ·have hb:(g==k)=true:=beq_iff_eq.mpr h
    simp only [List.lookup,hb,if_neg (λe:g=f=>hk (h.symm.trans e))]
   ·have hb:(g==k)=false:=beq_eq_false_iff_ne.mpr h
    simp only [List.lookup,hb]
    exact ih
theorem q29 (f:Str) (v:V):∀fs:List (Str×V),f∈(q2F f v fs).map (·.1)/\∀g,g∈fs.map (·.1)->g∈(q2F f v fs).map (·.1)
 | []=>⟨by simp [q2F],λg h=>by simp at h⟩
 | (k,x)::r=>by
  obtain ⟨i1,i2⟩:=q29 f v r
  rw [show q2F f v ((k,x)::r)=(if k=f then (k,v)::r else (k,x)::q2F f v r) from rfl]
  by_cases hk:k=f
  ·rw [if_pos hk]
   subst hk
   exact ⟨by simp,λg h=>by simpa using h⟩
  ·rw [if_neg hk]
   refine ⟨?_,λg h=>?_⟩
   ·rw [List.map_cons]
    exact List.mem_cons_of_mem _ i1
   ·rw [List.map_cons] at h ⊢
    rcases List.mem_cons.mp h with e | e
    ·exact List.mem_cons.mpr (.inl e)
    ·exact List.mem_cons_of_mem _ (i2 g e)
theorem q2Q (f:Str) (v:V):∀fs:List (Str×V),(q2F f v fs).length<=fs.length+1
 | []=>by simp [q2F]
 | (k,x)::r=>by
  have ih:=q2Q f v r
  rw [show q2F f v ((k,x)::r)=(if k=f then (k,v)::r else (k,x)::q2F f v r) from rfl]
  by_cases hk:k=f
  ·rw [if_pos hk,List.length_cons,List.length_cons];omega
  ·rw [if_neg hk,List.length_cons,List.length_cons];omega
theorem RelO.some_of {v:V} {o:Option Value} (r:RelO (some v) o):∃u,o=some u/\RelV v u:=by
 cases o with
 | none=>exact (show False from r).elim
 | some u=>exact ⟨u,rfl,r⟩
theorem RelO.none_of {o:Option Value} (r:RelO none o):o=none:=by
 cases o with
 | none=>rfl
 | some u=>exact (show False from r).elim
theorem q7U {v:V} {u:Value} (r:RelV v u):PySem.W.handedIn u=true:=by
 cases v with
 | non=>cases (show u=Value.none from r);rfl
 | bl b=>cases (show u=Value.bool b from r);rfl
 | int i=>obtain ⟨t,e⟩:=(show ∃t,u=Value.int i t from r);cases e;rfl
 | str x=>obtain ⟨t,e⟩:=(show ∃t,u=Value.str x t from r);cases e;rfl
 | byt b=>obtain ⟨t,e⟩:=(show ∃t,u=Value.bytes b t from r);cases e;rfl
 | flt b=>obtain ⟨t,e⟩:=(show ∃t,u=Value.float b t from r);cases e;rfl
 | ref a=>cases (show u=Value.ref a from r);rfl
 | ty n=>cases (show u=Value.type n from r);rfl
section
variable {P:Program} {w:World} {H H':Hp} {h h':Heap} {a C dx:Addr} {fs fs':List (Str×V)}
theorem q3Q (hok:HOk P w H h) (e:H a=some (.ins C dx fs)):∃mA,ObjM h a dx C mA/\(∀f,RelO (fs.lookup f) (mA f))/\PySem.Within mA (fs.map (·.1))/\fs.length<=1000/\H dx=some (.own a):=by
 obtain ⟨d,z,ne,ob,mA,n,r,q⟩:=(show ObjOk P w H h a (.ins C dx fs) from hok a _ e)
 exact ⟨mA,⟨ob,n,ne⟩,r,q,z,d⟩
end
structure Cls (K:PySem.W.Frag) (C:Addr):Prop where
 pg:PySem.W.plainGet K C Str.empty=true
 hd:PySem.W.hasDictIn K C=true
 po:PySem.W.plainOver K C=true
 sa:PySem.W.findIn K (.ref C) "__setattr__" = some (some (.builtin "object.__setattr__"))
theorem Cls.get {K:PySem.W.Frag} {C:Addr} (c:Cls K C) (f:Str):PySem.W.plainGet K C f=true:=c.pg
noncomputable def NoAttr (K:PySem.W.Frag) (C:Addr) (f:Str):Prop:=PySem.W.findIn K (.ref C) f=some none
theorem NoAttr.taker {K:PySem.W.Frag} {C:Addr} {f:Str} (n:NoAttr K C f):PySem.W.takerIn K C f=some none:=by
 unfold PySem.W.takerIn
 rw [show PySem.W.findIn K (.ref C) f=some none from n]
 rfl
structure Meth (K:PySem.W.Frag) (C:Addr) (m:Str) (f:Addr):Prop where
 at_:PySem.W.findIn K (.ref C) m=some (some (.ref f))
 fn:PySem.W.isFn K (.ref f)=true
 kp:PySem.W.keepIn K (.ref f)=true
section
variable {X:Cx} {pins:List (Addr×Obj)} {σ:St} {H:Hp} {s:Shared} {a C dx:Addr} {fs:List (Str×V)} {f:Str} {v:V} {A:Around} {E:Value->Shared->Prop}
theorem q6X {b:Bool} {Q:Value->Shared->Prop} (I:Inv X pins σ H s) (e:H a=some (.ins C dx fs)) (c:Cls X.K C) (n:NoAttr X.K C f) (l:fs.lookup f=some v)
 (h:∀u s',Inv X pins σ H s'->RelV v u->Q u s'):wpAny (model X.prog X.w) A (getAttr (.ref a) f b) Q E s:=by
 obtain ⟨mA,O,r,_,_,_⟩:=q3Q I.hok e
 obtain ⟨u,hu,ru⟩:=RelO.some_of (v:=v) (o:=mA f) (by rw [<-l];exact r f)
 exact j4j I.kIn O (c.get f) c.hd n hu (q7U ru) (h u _ (I.tok _) ru)
theorem q3q {m:Str} {g:Addr} {pl:Sem Bool} {Q:Value×List Value->Shared->Prop} (I:Inv X pins σ H s) (e:H a=some (.ins C dx fs)) (c:Cls X.K C) (k:Meth X.K C m g) (l:fs.lookup m=none)
 (h:Q (.ref g,[.ref a]) s):wpAny (model X.prog X.w) A (getMethod (.ref a) m pl) Q E s:=by
 obtain ⟨mA,O,r,_,_,_⟩:=q3Q I.hok e
 have hn:mA m=none:=RelO.none_of (by rw [<-l];exact r m)
 exact q9A I.kIn O (c.get m) k.at_ k.fn hn h
theorem q6P {y:V} {u:Value} {Q:Unit->Shared->Prop} (I:Inv X pins σ H s) (e:H a=some (.ins C dx fs)) (c:Cls X.K C) (n:NoAttr X.K C f) (hl:fs.length < 1000) (ry:RelV y u)
 (h:∀s',Inv X pins σ (upd H a (.ins C dx (q2F f y fs))) s'->Q () s'):wpAny (model X.prog X.w) A (setAttr (.ref a) f u) Q E s:=by
 obtain ⟨mA,O,r,wi,_,ho⟩:=q3Q I.hok e
 have hz:(fs.map (·.1)).length<=sizeLine:=by rw [List.length_map,sizeLine_eq];omega
 refine j4g I.kIn O c.sa c.po n.taker c.hd wi hz λh' O' sb=>h _ ?_
 have hd:∃o,h'.get? dx=some o:=let ⟨o,_,_,e',_⟩:=O'.ns;⟨o,e'⟩
 refine I.write (x:=a) (e:=dx) (by rw [e];exact True.intro) (.inr ho) (λb q hb z=>(sb.2 b hb).trans z) hd ?_
 refine ⟨by rw [q0i O.ne];exact ho,?_,O.ne,O'.obj,_,O'.ns,λg=>?_,λg hg=>?_⟩
 ·have:=q2Q f y fs;omega
 ·show RelO ((q2F f y fs).lookup g) (if g=f then some u else mA g)
  rw [q3f]
  by_cases q:g=f
  ·rw [if_pos q,if_pos q];exact ry
  ·rw [if_neg q,if_neg q];exact r g
 ·by_cases q:g=f
  ·rw [q];exact (q29 f y fs).1
  ·refine (q29 f y fs).2 g (wi g λz=>hg ?_)
   show (if g=f then some u else mA g)=none
   rw [if_neg q];exact z
theorem Inv.made (I:Inv X pins σ H s):Inv X pins σ (upd (upd H s.heap.objs.size (.own (s.heap.objs.size+1))) (s.heap.objs.size+1) (.ins C s.heap.objs.size []))
 { s with heap:=(s.heap.push PySem.W.emptyDict).push (PySem.W.instObj C s.heap.objs.size) }:=by
 have e1:(s.heap.push PySem.W.emptyDict).get? s.heap.objs.size=some PySem.W.emptyDict:=Heap.get?_push_size s.heap rfl
 have e2:((s.heap.push PySem.W.emptyDict).push (PySem.W.instObj C s.heap.objs.size)).get? (s.heap.objs.size+1)=some (PySem.W.instObj C s.heap.objs.size):=by
  have:=Heap.get?_push_size (s.heap.push PySem.W.emptyDict) (o:=PySem.W.instObj C s.heap.objs.size) rfl
  rwa [Heap.size_push] at this
 have e3:(s.heap.push PySem.W.emptyDict).Ns s.heap.objs.size (λ_=>none):=⟨PySem.W.emptyDict,#[],_,e1,rfl,(λe he=>absurd he (by simp)),λ_=>rfl⟩
 have I1:=I.laid (a:=s.heap.objs.size) (o:=.own (s.heap.objs.size+1)) (h':=s.heap.push PySem.W.emptyDict) (t':=s.toks) (λb u q=>Heap.get?_push_of_some _ q) (Nat.le_refl _) ⟨_,e1⟩
 refine I1.laid (a:=s.heap.objs.size+1) (o:=.ins C s.heap.objs.size []) (t':=s.toks) (λb u q=>Heap.get?_push_of_some _ q) (Nat.le_of_eq (Heap.size_push _ _)) ?_
 have ne:s.heap.objs.size≠s.heap.objs.size+1:=Nat.ne_of_lt (Nat.lt_succ_self _)
 refine ⟨by rw [q0i ne,q0p],Nat.zero_le _,ne,e2,λ_=>none,(Heap.Ns1.of_empty e3).at λo q=>Heap.get?_push_of_some _ q,λ_=>True.intro,λy hy=>absurd rfl hy⟩
theorem j32 {prog:Program} {w:World} {env:Env} {e:Expr} {f:Str} {pos:Pos} {s:Shared} {Q:Value->Shared->Prop} (hb:attributeBase e f env (eval e env)=eval e env)
 (h:wpAny (model prog w) A (eval e env) (λo s₁=>wpAny (model prog w) A (getAttr o f true) Q E s₁) E s):wpAny (model prog w) A (eval (.Attribute e f pos) env) Q E s:=
 Attribute_any_ h (by rw [arm_eval_Attribute,hb])
end
noncomputable def w0D (K:PySem.W.Frag) (ta:TE) (f:Str):TE:=fun σ H Q=>ta σ H λx H1=>∃a C dx fs v,x=.ref a/\H1 a=some (.ins C dx fs)/\Cls K C/\NoAttr K C f/\fs.lookup f=some v/\Q v H1
noncomputable def w1o (K:PySem.W.Frag) (ta tv:TE) (f:Str):TS:=λD σ H=>tv σ H λy H1=>ta σ H1 λx H2=>∃a C dx fs,x=.ref a/\H2 a=some (.ins C dx fs)/\Cls K C/\NoAttr K C f/\fs.length < 1000 /\
 D.nx σ (upd H2 a (.ins C dx (q2F f y fs)))
section
variable {X:Cx} {o e value:Expr} {f:Str} {pos pos' tpos:Pos} {ta tv:TE}
theorem j1c (he:PE X e ta) (hb:attributeBase e f X.env (eval e X.env)=eval e X.env):PE X (.Attribute e f pos) (w0D X.K ta f):=by
 intro pins s σ H Q I h
 refine j32 hb (thn (he pins s σ H _ I h) λu s1 ⟨x,H1,I1,rx,a,C,dx,fs,v,ex,ea,c,n,l,q⟩=>?_)
 subst ex
 obtain rfl:u=Value.ref a:=rx
 exact q6X I1 ea c n l λu' s2 I2 ru=>⟨v,H1,I2,ru,q⟩
theorem j2u (ha:PE X o ta) (hv:PE X value tv) (hs:swapsWith value (some (.Attribute o f pos')) pos.line X.env=pure false):PS X (.Assign [.Attribute o f pos'] value pos) (w1o X.K ta tv f):=by
 intro pins s σ H D I h
 refine plainObj_wpAny_Assign_Attribute (thn (hv pins s σ H _ I h) λu s1 ⟨y,H1,I1,ry,q⟩=>thn (ha pins s1 σ H1 _ I1 q) λov s2 ⟨x,H2,I2,rx,a,C,dx,fs,ex,ea,c,n,l,q2⟩=>?_) hs
 subst ex
 obtain rfl:ov=Value.ref a:=rx
 exact q6P I2 ea c n l ry λs3 I3=>⟨σ,_,I3,q2⟩
end
section
variable {X:Cx} {pins:List (Addr×Obj)} {σ:St} {H:Hp} {s:Shared} {A:Around} {E:Value->Shared->Prop} {Q:Value->Shared->Prop} {c:Value} {b:Bool}
inductive q7c (K:PySem.W.Frag) (H:Hp):V->Value->Prop where
 | non:q7c K H .non (.type "NoneType")
 | bl (x:Bool):q7c K H (.bl x) (.type "bool")
 | int (i:Int):q7c K H (.int i) (.type "int")
 | str (x:Str):q7c K H (.str x) (.type "str")
 | flt (x:UInt64):q7c K H (.flt x) (.type "float")
 | lst {a:Addr} {xs:List V} (e:H a=some (.lst xs)):q7c K H (.ref a) (.type "list")
 | frz {a:Addr} {o:Obj} {xs:List V} (e:H a=some (.frz o (.lst xs))):q7c K H (.ref a) (.type "list")
 | tup {a:Addr} {xs:List V} (e:H a=some (.tup xs)):q7c K H (.ref a) (.type "tuple")
 | dK {a:Addr} {kvs:List (Key×V)} (e:H a=some (.dK kvs)):q7c K H (.ref a) (.type "dict")
 | dT {a:Addr} {kvs:List (List Key×V)} (e:H a=some (.dT kvs)):q7c K H (.ref a) (.type "dict")
 | ins {a C dx:Addr} {fs:List (Str×V)} (e:H a=some (.ins C dx fs)) (cl:Cls K C) (ha:PySem.W.findIn K (.ref C) "__class__" = some (some (.builtin "object.__class__")))
  (hn:PySem.W.specialIn K (.builtin "object.__class__") "__get__" = some (some (.builtin "getset_descriptor.__get__"))) (htk:PySem.W.takesIn K (.builtin "object.__class__")=some true)
  (hm:PySem.W.mroIn K C (.type "object")=some true):q7c K H (.ref a) (.ref C)
theorem q10 {x:V} {u t:Value} (I:Inv X pins σ H s) (rx:RelV x u) (ty:q7c X.K H x t) (e:PySem.W.kitOne X.K t c=some b) (h:∀tk,Q (.bool b) { s with toks:=tk }) :
 wpAny (model X.prog X.w) A (call (.builtin "isinstance") [u,c]) Q E s:=by
 cases ty with
 | non=>cases (show u=Value.none from rx);exact PySem.W.kia_one PySem.W.kitx_none I.kIn True.intro e (λz=>nomatch z) h
 | bl y=>cases (show u=Value.bool y from rx);exact PySem.W.kia_one PySem.W.kitx_bool I.kIn True.intro e (λz=>nomatch z) h
 | int i=>obtain ⟨t,q⟩:=(show ∃t,u=Value.int i t from rx);cases q;exact PySem.W.kia_one PySem.W.kitx_int I.kIn True.intro e (λz=>nomatch z) h
 | str y=>obtain ⟨t,q⟩:=(show ∃t,u=Value.str y t from rx);cases q;exact PySem.W.kia_one PySem.W.kitx_str I.kIn True.intro e (λz=>nomatch z) h
 | flt y=>obtain ⟨t,q⟩:=(show ∃t,u=Value.float y t from rx);cases q;exact PySem.W.kia_one PySem.W.kitx_float I.kIn True.intro e (λz=>nomatch z) h
 | @lst a xs ea=>
  cases (show u=Value.ref a from rx)
  obtain ⟨_,_,n,_,h1⟩:=(show ObjOk X.prog X.w H s.heap a (.lst xs) from I.hok a _ ea)
  exact PySem.W.kia_one PySem.W.kitx_list I.kIn ⟨_,h1,rfl⟩ e (λz=>nomatch z) h
 | @frz a ob xs ea=>
  cases (show u=Value.ref a from rx)
  obtain ⟨_,_,_,n,_,h1⟩:=(show ObjOk X.prog X.w H s.heap a (.frz ob (.lst xs)) from I.hok a _ ea)
  exact PySem.W.kia_one PySem.W.kitx_list I.kIn ⟨_,h1,rfl⟩ e (λz=>nomatch z) h
 | @tup a xs ea=>
  cases (show u=Value.ref a from rx)
  obtain ⟨_,_,_,p⟩:=(show ObjOk X.prog X.w H s.heap a (.tup xs) from I.hok a _ ea)
  obtain ⟨o,h1,h2,_⟩:=p
  exact PySem.W.kia_one PySem.W.kitx_tuple I.kIn ⟨o,h1,h2⟩ e (λz=>nomatch z) h
 | @dK a kvs ea=>
  cases (show u=Value.ref a from rx)
  obtain ⟨_,_,vs,_,p⟩:=(show ObjOk X.prog X.w H s.heap a (.dK kvs) from I.hok a _ ea)
  obtain ⟨o,es,ep,h1,h2,_⟩:=p
  exact PySem.W.kia_one PySem.W.kitx_dict I.kIn ⟨o,h1,h2.1⟩ e (λz=>nomatch z) h
 | @dT a kvs ea=>
  cases (show u=Value.ref a from rx)
  obtain ⟨_,_,xs,_,o,es,ep,h1,h2,_⟩:=(show ObjOk X.prog X.w H s.heap a (.dT kvs) from I.hok a _ ea)
  exact PySem.W.kia_one PySem.W.kitx_dict I.kIn ⟨o,h1,h2.1⟩ e (λz=>nomatch z) h
 | @ins a C dx fs ea cl ha hn htk hm=>
  cases (show u=Value.ref a from rx)
  obtain ⟨mA,O,_⟩:=q3Q I.hok ea
  obtain ⟨od,J,_⟩:=O.look
  exact PySem.W.kia_one (PySem.W.kitx_own (cl.get _) cl.hd ha hn htk hm) I.kIn J e (λz=>nomatch z) h
end
structure Room (k:Nat) (A:Around):Prop where
 hd:A.handled=none
 dp:A.depth+3*k+5 < recursionLimit
 un:A.units+16*k+200 < cLine
 gd:A.guards=some []
theorem Room.mono {j k:Nat} {A:Around} (r:Room k A) (h:j<=k):Room j A:=⟨r.hd,by have:=r.dp;omega,by have:=r.un;omega,r.gd⟩
theorem Room.deeper {k:Nat} {A:Around} (r:Room (k+1) A) (env:Env):Room k (A.deeper env):=
 ⟨r.hd,by have:=r.dp;show A.depth+1+3*k+5 < _;omega,by have:=r.un;show A.units+3+16*k+200 < _;omega,r.gd⟩
theorem q69 {A:Around} {C:Addr} {us:List Value} {kw:List (Str×Value)}:(A.under (.builtin "type.__call__" ⟨.ref C::us,kw⟩)).depth=A.depth+1:=by
 first | rfl | simp [Around.under,Code.weight,Code.isCreation,Code.isGuard,Code.isCaller,Code.frames,Code.isFrame,guardIds]
theorem q6Z {A:Around} {C:Addr} {us:List Value} {kw:List (Str×Value)}:(A.under (.builtin "type.__call__" ⟨.ref C::us,kw⟩)).units=A.units+1:=by
 first | rfl | simp [Around.under,Code.cUnits,Code.frames,Code.isFrame]
theorem q4T {A:Around} {C:Addr} {us:List Value} {kw:List (Str×Value)}:(A.under (.builtin "type.__call__" ⟨.ref C::us,kw⟩)).guards=A.guards:=by
 first | rfl | simp [Around.under,Code.guards,Code.isGuard,guardIds,pushGuards]
theorem Room.make {k:Nat} {A:Around} (r:Room (k+1) A) (C:Addr) (us:List Value) (kw:List (Str×Value)):Room k (A.under (.builtin "type.__call__" ⟨.ref C::us,kw⟩)):=
 ⟨r.hd,by have:=r.dp;rw [q69];omega,by have:=r.un;rw [q6Z];omega,by rw [q4T];exact r.gd⟩
theorem Room.depth {k:Nat} {A:Around} (r:Room k A):A.depth < recursionLimit:=by have:=r.dp;omega
theorem Room.units0 {k:Nat} {A:Around} (r:Room k A):A.units < cLine:=by have:=r.un;omega
noncomputable def w1G:TA:=λ_ H Q=>Q [] H
noncomputable def j80 (ta:TE) (tr:TA):TA:=fun σ H Q=>ta σ H λx H1=>tr σ H1 λxs H2=>Q (x::xs) H2
section
variable {X:Cx} {e:Expr} {es:List Expr} {te:TE} {t:TA} {pos:Pos}
theorem q1U:PA X [] w1G:=λ_ _ _ _ H Q I h=>Calls.spliced_nil ⟨[],H,I,.nil,h⟩
theorem q0S (ha:PE X e te) (hr:PA X es t) (hs:starEach (e::es) X.env=(false,eval e X.env)::starEach es X.env:=by rfl):PA X (e::es) (j80 te t):=by
 intro pos pins s σ H Q I h
 rw [hs]
 show wpAny _ _ (spliced ((false,eval e X.env)::backTo pos (starEach es X.env))) _ _ s
 refine Calls.spliced_cons (thn (ha pins s σ H _ I h) λu s1 ⟨x,H1,I1,r1,q1⟩=>?_)
 exact thn (hr pos pins s1 σ H1 _ I1 q1) λus s2 ⟨xs,H2,I2,r2,q2⟩=>⟨x::xs,H2,I2,.cons r1 r2,q2⟩
noncomputable def w1y (t:TA):TE:=fun σ H Q=>t σ H λxs H1=>xs.length<=sizeLine/\∀p,H1 p=none->Q (.ref p) (upd H1 p (.tup xs))
noncomputable def w03 (t:TA):TE:=fun σ H Q=>t σ H λxs H1=>xs.length<=sizeLine/\∀p,H1 p=none->Q (.ref p) (upd H1 p (.lst xs))
theorem j6O {x1} (h:PA X es t):PE X (.Tuple es x1 pos) (w1y t):=by
 intro pins s σ H Q I hq
 refine wpAny_Tuple_spliced (thn (h pos pins s σ H _ I hq) λus s1 ⟨xs,H1,I1,r,z,q⟩=>⟨by rw [<-r.length];exact z,?_⟩)
 have hf:H1 s1.heap.objs.size=none:=I1.hok.fresh (Nat.le_refl _)
 refine ⟨.ref s1.heap.objs.size,upd H1 s1.heap.objs.size (.tup xs),I1.laid (t':=s1.toks) (λb u e=>Heap.get?_push_of_some _ e) (Nat.le_refl _) ?_,rfl,q _ hf⟩
 exact ⟨z,us,r,⟨_,Heap.get?_push_size _ rfl,rfl,_,rfl⟩⟩
theorem j5B (h:PA X es t):PE X (.List es pos) (w03 t):=by
 intro pins s σ H Q I hq
 refine wpAny_List_spliced (thn (h pos pins s σ H _ I hq) λus s1 ⟨xs,H1,I1,r,z,q⟩=>⟨by rw [<-r.length];exact z,?_⟩)
 have hf:H1 s1.heap.objs.size=none:=I1.hok.fresh (Nat.le_refl _)
 refine ⟨.ref s1.heap.objs.size,upd H1 s1.heap.objs.size (.lst xs),I1.laid (t':=s1.toks) (λb u e=>Heap.get?_push_of_some _ e) (Nat.le_refl _) ?_,rfl,q _ hf⟩
 exact ⟨z,us,0,r,Heap.get?_push_size _ rfl⟩
end
noncomputable abbrev Sp:=List V->Hp->VK->XK->Prop
noncomputable abbrev CXT:=List Env->Hp->Shared->XK->Value->Shared->Prop
structure Env0 (P:Program) (w:World) (K:PySem.W.Frag) (mg:Str->Option Value) (base:Heap) (A:Around) (outer:List Env) (s:Shared) (H:Hp):Prop where
 frames:A.frames=some outer
 mod:Mod K mg base
 bs:∀b o,base.get? b=some o->s.heap.get? b=some o/\H b=none
 bsz:base.objs.size<=s.heap.objs.size
 funs:s.heap.FunFrames base outer
 frf:∀b∈frs outer,H b=none
 hok:HOk P w H s.heap
 bare:AllBare s.gens
noncomputable def CE (outer:List Env) (P:Program) (w:World) (H:Hp) (s:Shared) (Q:VK) (u:Value) (s':Shared):Prop:=
 ∃v H',s'.os=s.os/\AllBare s'.gens/\Un (frs outer) [] H H' s.heap s'.heap/\HOk P w H' s'.heap/\RelV v u/\Q v H'
noncomputable def CR (CX:CXT) (outer:List Env) (P:Program) (w:World) (H:Hp) (s:Shared) (Q:VK) (E:XK) (r:Result) (s':Shared):Prop:=
 match r with
 | .ok (.ret u)=>CE outer P w H s Q u s'
 | .ok _=>False
 | .error e=>CX outer H s E e s'
structure q0M (P:Program) (w:World) (K:PySem.W.Frag) (mg:Str->Option Value) (base:Heap) (CX:CXT) (k:Nat) (f:Addr) (fd:FuncData) (ps:List Str) (sp:Sp):Prop where
 len:∀vs H Q E,sp vs H Q E->vs.length=ps.length
 run:∀(A:Around) (outer:List Env) (s:Shared) (H:Hp) (args:Args) (us:List Value) (vs:List V) (Q:VK) (E:XK),Room k A->Env0 P w K mg base A outer s H->BindsTo s fd args (ps.zip us)->Vals vs us->sp vs H Q E ->
  codeAny (model P w) A (.call (.ref f) args) (CR CX outer P w H s Q E) s
theorem Env0.make {P:Program} {w:World} {K:PySem.W.Frag} {mg:Str->Option Value} {base:Heap} {A:Around} {outer:List Env} {s:Shared} {H:Hp} (e:Env0 P w K mg base A outer s H) (C:Addr) (us:List Value) (kw:List (Str×Value)) :
 Env0 P w K mg base (A.under (.builtin "type.__call__" ⟨.ref C::us,kw⟩)) outer s H:=⟨by first | exact e.frames | (simpa [Around.under,Code.envs,Code.isFrame,pushEnvs] using e.frames),e.mod,e.bs,e.bsz,e.funs,e.frf,e.hok,e.bare⟩
section
variable {X:Cx} {pins:List (Addr×Obj)} {σ:St} {H:Hp} {s s':Shared}
theorem Inv.env0 (I:Inv X pins σ H s):Env0 X.prog X.w X.K X.mg X.base X.A X.stack s H:=
 ⟨I.ok.frames,I.ok.mod,I.bs,Nat.le_trans I.ok.bsz I.sz,I.stack,I.stkFree,I.hok,I.bare⟩
theorem Inv.after {Q:VK} {u:Value} (I:Inv X pins σ H s) (h:CE X.stack X.prog X.w H s Q u s'):EP X pins σ Q u s':=by
 obtain ⟨v,H',os,bare,un,hok,r,q⟩:=h
 obtain ⟨hh,g,d,t,os'⟩:=s'
 obtain rfl:os'=s.os:=os
 exact ⟨v,H',I.call (h':=hh) (g':=g) (d':=d) (t':=t) (ch:=[]) un hok bare (λb z=>absurd z (by simp)),r,q⟩
end
noncomputable def Binds (K:PySem.W.Frag) (fd:FuncData) (ps:List Str) (ds:List Value):Prop:=
 ∀(s:Shared) (us:List Value),K.In s.heap->(us++ds).length=ps.length->BindsTo s fd ⟨us,[]⟩ (ps.zip (us++ds))
theorem Binds.all {K:PySem.W.Frag} {fd:FuncData} {ps:List Str} (h:∀us:List Value,us.length=ps.length->bindArgs fd ⟨us,[]⟩=pure (ps.zip us)):Binds K fd ps []:=λs us _ hl=>by
 rw [List.append_nil] at hl ⊢
 exact .of_eq (h us hl)
section
variable {X:Cx} {CX:CXT} {k:Nat} {f C:Addr} {fd:FuncData} {ps:List Str} {sp:Sp} {dvs:List V} {ds:List Value} {E:XK} {x m:Str} {p pos apos:Pos} {e o:Expr} {es:List Expr} {ta:TE} {t:TA}
structure Mk (K:PySem.W.Frag) (C f:Addr):Prop where
 makes:PySem.W.makesIn K C=true
 init:PySem.W.findIn K (.ref C) "__init__" = some (some (.ref f))
 fn:PySem.W.isFn K (.ref f)=true
 kp:PySem.W.keepIn K (.ref C)=true
end
section
variable {X:Cx} {CX:CXT} {k:Nat} {f C:Addr} {fd:FuncData} {ps ks:List Str} {sp:Sp} {E:XK} {x m:Str} {p pos apos kpos:Pos} {e o:Expr} {es:List Expr} {kws:List Keyword} {te ta:TE} {t tk:TA} {nm:Option Str}
variable {g:List Value->List Value->List Value} {gV:List V->List V->List V}
end
structure q0l (N P:List Str) (sc:Scope):Prop where
 kind:sc.kind=.function
 co:sc.isCoroutine=false
 gen:sc.isGenerator=false
 nd:N.Nodup
 pre:N.take P.length=P
 par:∀x∈P,sc.names.lookup x=some .local∨sc.names.lookup x=some .cell
 nofree:∀y∈sc.names,y.2≠.free
theorem q4k {kindOf:Str->Option NameKind} {x:Str}:∀{binds:List (Str×Value)} {m:Str->Option Value},(∀v,(x,v)∉binds)->bindL kindOf binds m x=m x
 | [],_,_=>rfl
 | (n,v)::r,m,h=>by
  unfold bindL
  rw [q4k λw hw=>h w (List.mem_cons_of_mem _ hw)]
  split
  ·have:x≠n:=by rintro rfl;exact h v List.mem_cons_self
   simp [this]
  ·rfl
theorem q4E {kindOf:Str->Option NameKind} {x:Str}:∀{binds:List (Str×Value)} {m:Str->Option Value},(∀v,(x,v)∉binds)->bindC kindOf binds m x=m x
 | [],_,_=>rfl
 | (n,v)::r,m,h=>by
  unfold bindC
  rw [q4E λw hw=>h w (List.mem_cons_of_mem _ hw)]
  split
  ·rfl
  ·have:x≠n:=by rintro rfl;exact h v List.mem_cons_self
   simp [this]
theorem q4M {kindOf:Str->Option NameKind} {x:Str} {v:Value}:∀{P:List Str} {vs:List Value} {i:Nat} {m:Str->Option Value},P.Nodup->P[i]?=some x->vs[i]?=some v->kindOf x=some .local ->
 bindL kindOf (P.zip vs) m x=some v
 | [],_,_,_,_,h,_,_=>by simp at h
 | _::_,[],_,_,_,_,h,_=>by simp at h
 | p::P,w::vs,0,m,nd,h1,h2,hk=>by
  simp at h1 h2;subst h1;subst h2
  show bindL kindOf ((p,w)::P.zip vs) m p=_
  unfold bindL
  rw [q4k λv hv=>(List.nodup_cons.mp nd).1 (List.of_mem_zip hv).1,if_pos hk]
  simp
 | p::P,w::vs,i+1,m,nd,h1,h2,hk=>by
  show bindL kindOf ((p,w)::P.zip vs) m x=_
  unfold bindL
  exact q4M (i:=i) (List.nodup_cons.mp nd).2 (by simpa using h1) (by simpa using h2) hk
theorem q4u {kindOf:Str->Option NameKind} {x:Str} {v:Value}:∀{P:List Str} {vs:List Value} {i:Nat} {m:Str->Option Value},P.Nodup->P[i]?=some x->vs[i]?=some v->kindOf x≠some .local ->
 bindC kindOf (P.zip vs) m x=some v
 | [],_,_,_,_,h,_,_=>by simp at h
 | _::_,[],_,_,_,_,h,_=>by simp at h
 | p::P,w::vs,0,m,nd,h1,h2,hk=>by
  simp at h1 h2;subst h1;subst h2
  show bindC kindOf ((p,w)::P.zip vs) m p=_
  unfold bindC
  rw [q4E λv hv=>(List.nodup_cons.mp nd).1 (List.of_mem_zip hv).1,if_neg hk]
  simp
 | p::P,w::vs,i+1,m,nd,h1,h2,hk=>by
  show bindC kindOf ((p,w)::P.zip vs) m x=_
  unfold bindC
  exact q4u (i:=i) (List.nodup_cons.mp nd).2 (by simpa using h1) (by simpa using h2) hk
noncomputable def start (N:List Str) (vs:List V):St:=vs.map some++List.replicate (N.length-vs.length) none
noncomputable def j0d (CX:CXT) (P:Program) (w:World) (K:PySem.W.Frag) (mg:Str->Option Value) (base:Heap) (N:List Str) (qual:Str) (scope:Scope) (f:Addr) (cd:Value) (A:Around) (outer:List Env) (s:Shared) (H:Hp) (E:XK):Cx where
 prog:=P
 w:=w
 K:=K
 mg:=mg
 base:=base
 A:=A.deeper (envOfC qual scope s.heap.objs.size f cd)
 N:=N
 s₀:=s
 H₀:=H
 env:=envOfC qual scope s.heap.objs.size f cd
 outer:=outer
 stack:=envOfC qual scope s.heap.objs.size f cd::outer
 ex:=[]
 calm:=true
 fn:=λ_=>true
 pn:=[]
 xe:=λe s'=>wpAny (model P w) (A.deeper (envOfC qual scope s.heap.objs.size f cd)) (leaving (envOfC qual scope s.heap.objs.size f cd) e) (λ_ s''=>CX outer H s E e s'') (λe' s''=>CX outer H s E e' s'') s'
theorem q50 {sc:Scope} {n:Nat} {x:Str} (h:sc.names.lookup x=some .cell):∃c,(cellsFrom n sc.names []).lookup x=some c:=by
 have q:=PySem.W.cellsFrom_some sc.names n [] (.inl h)
 exact Option.isSome_iff_exists.mp q
theorem q4s (ca:Bool) {CX:CXT} {P:Program} {w:World} {K:PySem.W.Frag} {mg:Str->Option Value} {base:Heap} {N ps:List Str} {qual:Str} {scope:Scope} {f:Addr} {cd:Value} {A:Around} {outer:List Env} {s s1:Shared} {H:Hp} {E:XK} {us:List Value} {vs:List V}
 (S:q0l N ps scope) (hd:ca=true->A.handled=none) (e0:Env0 P w K mg base A outer s H) (hl:vs.length=ps.length) (r:Vals vs us)
 (x:InCallC s s.heap.objs.size (bindL (envOfC qual scope s.heap.objs.size f cd).kindOf (ps.zip us) λ_=>none) (cellsFrom (s.heap.objs.size+1) scope.names []) (bindC (envOfC qual scope s.heap.objs.size f cd).kindOf (ps.zip us) λ_=>none) s1) :
 Inv ({ j0d CX P w K mg base N qual scope f cd A outer s H E with calm:=ca }:Cx) [] (start N vs) H s1:=by
 have hpl:ps.length<=N.length:=by have:=congrArg List.length S.pre;rw [List.length_take] at this;omega
 obtain ⟨h1,tk,rfl,hk⟩:=x.done
 have noA:∀b:Addr,b∉({ j0d CX P w K mg base N qual scope f cd A outer s H E with calm:=ca }:Cx).ex:=λb z=>absurd (show b∈([]:List Addr) from z) (by simp)
 refine ⟨⟨e0.mod,S.kind,rfl,rfl,Nat.le_refl _,λy z c h1 h2=>?_,λy hy=>?_,λy c _ h=>?_,hd,Around.frames_deeper e0.frames,.inr ⟨rfl,rfl⟩,λb z=>absurd z (noA b),e0.bs,e0.bsz,λb _ _=>noA b,λb z=>absurd z (noA b),e0.funs,e0.frf⟩,
  rfl,e0.bare,Un.kept hk,⟨_,x.toInCall.ns,λi y v h1 h2 h3=>?_⟩,λy c h=>⟨_,x.cell y c h⟩,e0.hok.fresh (Nat.le_refl _),λy c h=>?_,λp hp=>absurd (show p∈([]:List (Addr×Obj)) from hp) (by simp),e0.hok.kept hk,?_⟩
 ·exact name_of_addr x.apart (PySem.mem_of_lookup h1) (PySem.mem_of_lookup h2)
 ·have hy:scope.names.lookup y=some .cell∨scope.names.lookup y=some .free:=hy
  rcases hy with hy | hy
  ·exact q50 hy
  ·exact absurd rfl (S.nofree _ (PySem.mem_of_lookup hy))
 ·exact Nat.le_of_lt (x.above y c (PySem.mem_of_lookup h))
 ·have hi:i < vs.length:=by
   unfold start at h2
   by_cases hi:i < vs.length
   ·exact hi
   ·rw [List.getElem?_append_right (by simpa using hi)] at h2
    rw [List.getElem?_replicate] at h2
    split at h2<;>cases h2
  have ha:vs[i]?=some v:=by
   unfold start at h2
   rw [List.getElem?_append_left (by simpa using hi),List.getElem?_map] at h2
   cases e:vs[i]? with
   | none=>rw [e] at h2;cases h2
   | some a=>rw [e] at h2;cases h2;rfl
  obtain ⟨u,hu,rv⟩:=r.get ha
  have hp:ps[i]?=some y:=by
   rw [<-S.pre,List.getElem?_take_of_lt (by omega)];exact h1
  have ndP:ps.Nodup:=by rw [<-S.pre];exact S.nd.sublist (List.take_sublist _ _)
  refine ⟨u,rv,?_⟩
  rcases S.par y (List.mem_of_getElem? hp) with k | k
  ·exact .inl ⟨k,q4M ndP hp hu k⟩
  ·obtain ⟨c,e⟩:=q50 (n:=s.heap.objs.size+1) k
   refine .inr ⟨.inl k,c,e,?_⟩
   have q:=x.cell y c e
   rw [q4u ndP hp hu (by show scope.names.lookup y≠_;rw [k];decide)] at q
   exact q
 ·exact e0.hok.fresh (Nat.le_of_lt (x.above y c (PySem.mem_of_lookup h)))
 ·unfold start
  show _=N.length
  rw [List.length_append,List.length_map,List.length_replicate]
  omega
theorem j4n {CX:CXT} {P:Program} {w:World} {K:PySem.W.Frag} {mg:Str->Option Value} {base:Heap} {k:Nat} {f:Addr} {name qual:Str} {params:Arguments} {body:List Stmt} {scope:Scope} {dV kV doc pm cdv ct oc:Value} {an od:Option Addr}
 {osl:Array (Option Value)} {N ps:List Str} {sp:Sp} (lk:K.lookup f=some ⟨oc,od,.func (PySem.W.fnOf name qual params body scope dV kV doc pm an cdv ct),osl⟩) (hcd:PySem.W.codeIn K cdv qual=true) (S:q0l N ps scope)
 (len:∀vs H Q E,sp vs H Q E->vs.length=ps.length)
 (hbody:∀(A:Around) (outer:List Env) (s:Shared) (H:Hp) (vs:List V) (Q:VK) (E:XK),Room k (A.deeper (envOfC qual scope s.heap.objs.size f cdv))->sp vs H Q E ->
  ∃t,PSs (j0d CX P w K mg base N qual scope f cdv A outer s H E) body t/\t { nx:=λ_ H'=>Q .non H',rt:=Q } (start N vs) H) :
 q0M P w K mg base CX (k+1) f (PySem.W.fnOf name qual params body scope dV kV doc pm an cdv ct) ps sp:=by
 refine ⟨len,λA outer s H args us vs Q E hr e0 hb r hsp=>?_⟩
 have hl:=len _ _ _ _ hsp
 have KX:K.In s.heap:=e0.mod.kin.keeps λb o e=>(e0.bs b o e).1
 have lim:s.heap.NoLimit:=e0.mod.nolimit.keeps λb o e=>(e0.bs b o e).1
 have hkind:∀y∈ps.zip us,scope.names.lookup y.1=some .local∨(scope.names.lookup y.1=some .cell/\((cellsFrom (s.heap.objs.size+1) scope.names []).lookup y.1).isSome=true):=λ⟨n,v⟩ hy=>by
  rcases S.par n (List.of_mem_zip hy).1 with q | q
  ·exact .inl q
  ·exact .inr ⟨q,PySem.W.cellsFrom_some _ _ _ (.inl q)⟩
 refine codeAny_call_function hr.depth (KX _ _ lk) rfl S.co S.gen rfl (PySem.W.codeRec_of KX hcd) (hb _ _ _ _ ?_)
 refine wpAny_newFunctionEnv_cells S.kind hkind λenv he s1 x=>?_
 subst he
 refine ⟨lim.keeps x.toInCall.keep,codeAny_func ?_⟩
 obtain ⟨t,ht,hq⟩:=hbody A outer s H vs Q E (hr.deeper _) hsp
 have I:Inv (j0d CX P w K mg base N qual scope f cdv A outer s H E) [] (start N vs) H s1:=q4s true S (λ_=>hr.hd) e0 hl r x
 refine wpAny_mono (ht [] s1 (start N vs) H _ I hq) (λfl s' hs=>?_) λe s' hs=>hs
 have fin:∀{σ':St} {H':Hp} {v:V} {u:Value},Inv (j0d CX P w K mg base N qual scope f cdv A outer s H E) [] σ' H' s'->RelV v u->Q v H'->CE outer P w H s Q u s':=
  λ{σ' H' v u} J rv q=>⟨v,H',J.os,J.bare,J.base,J.hok,rv,q⟩
 cases fl with
 | ret u=>
  obtain ⟨v,σ',H',J,rv,q⟩:=hs
  exact fin J rv q
 | next=>
  obtain ⟨σ',H',J,q⟩:=hs
  exact fin (v:=V.non) (u:=Value.none) J rfl q
 | brk=>
  obtain ⟨_,_,_,q⟩:=hs
  exact False.elim q
 | cont=>
  obtain ⟨_,_,_,q⟩:=hs
  exact False.elim q
section
variable {X:Cx} {x:Str} {p pos:Pos} {e:Expr} {es:List Expr} {t:TA} {id T:String} {r:List V->Hp->VK->Prop}
noncomputable def tCB (r:List V->Hp->VK->Prop) (t:TA):TE:=fun σ H Q=>t σ H λvs H1=>r vs H1 Q
theorem q5B (hc:q2f X (.builtin id) r) (hg:Gl X x) (hm:X.mg x=none) (hv:bootBuiltins x=some (.builtin id)) (ha:PA X (e::es) t) (hn:x≠"__name__":=by decide) (hdb:(x==("__debug__" : Str))=false:=by decide)
 (he:starEach (e::es) X.env=(false,eval e X.env)::starEach es X.env:=by rfl) (hpl:(backTo pos (starEach es X.env)).any (·.1)=false:=by rfl):PE X (.Call (.Name x p) (e::es) [] pos) (tCB r t):=by
 intro pins s σ H Q I h
 refine wpAny_Call_Name_kw (q2A I hg hm hv ?_ hn hdb)
 exact PyProof.Rows.callWith_builtin1 (thn (ha pos pins s σ H _ I h) λus s1 ⟨vs,H1,I1,r1,q1⟩=>hc pins s1 σ H1 vs us Q I1 r1 q1) he hpl
theorem q3h (hc:q2f X (.type T) r) (hg:Gl X x) (hm:X.mg x=none) (hv:bootBuiltins x=some (.type T)) (ha:PA X (e::es) t) (hn:x≠"__name__":=by decide) (hdb:(x==("__debug__" : Str))=false:=by decide)
 (he:starEach (e::es) X.env=(false,eval e X.env)::starEach es X.env:=by rfl) (hpl:(backTo pos (starEach es X.env)).any (·.1)=false:=by rfl):PE X (.Call (.Name x p) (e::es) [] pos) (tCB r t):=by
 intro pins s σ H Q I h
 refine wpAny_Call_Name_kw (q2A I hg hm hv ?_ hn hdb)
 exact PyProof.Rows.callWith_type1 (thn (ha pos pins s σ H _ I h) λus s1 ⟨vs,H1,I1,r1,q1⟩=>hc pins s1 σ H1 vs us Q I1 r1 q1) he hpl
end
end L2
namespace HT
open PySem PyProof.Rows
section
open PySem.SeqAt
open PySem.AutoSeq1 (wpAny_loadPart')
open PySem.MeetsSeq PySem.MeetsSeq2 PySem.MeetsSeq3
end
section
variable {prog:Program} {w:World} {A:Around} {E:Value->Shared->Prop} {s:Shared}
noncomputable def sIx (n d:Nat):Option Int->Nat
 | none=>d
 | some v=>if v < 0 then (v+(n:Int)).toNat else min v.toNat n
end
end HT
namespace L2
open PySem PySem.Spec PyProof.Rows
noncomputable abbrev TO:=St->Hp->(Option Int->Hp->Prop)->Prop
noncomputable def PO (X:Cx) (e:Option Expr) (t:TO):Prop:=
 ∀(pins:List (Addr×Obj)) (s:Shared) (σ:St) (H:Hp) (Q:Option Int->Hp->Prop),Inv X pins σ H s->t σ H Q ->
  wpAny (model X.prog X.w) X.A (evalPart e X.env) (λu s'=>∃o H',Inv X pins σ H' s'/\IsPart u o/\Q o H') X.xe s
noncomputable def j2X:TO:=λ_ H Q=>Q none H
noncomputable def j8I (t:TE):TO:=fun σ H Q=>t σ H λx H1=>∃i,x=.int i/\Q (some i) H1
section
variable {X:Cx} {e:Expr} {te:TE} {lo hi:Option Expr} {tl th:TO} {pos p2:Pos}
theorem j3o:PO X none j2X:=by
 intro pins s σ H Q I h
 rw [evalPart_none]
 exact wpAny_pure ⟨none,H,I,.none,h⟩
theorem j4d (h:PE X e te):PO X (some e) (j8I te):=by
 intro pins s σ H Q I hw
 rw [evalPart_some]
 refine thn (h pins s σ H _ I hw) λu s1 ⟨x,H1,I1,r1,q1⟩=>?_
 obtain ⟨i,rfl,q⟩:=q1
 obtain ⟨t,rfl⟩:=r1
 exact ⟨some i,H1,I1,.int i t,q⟩
noncomputable def SlR (X:Cx) (r:V->Option Int->Option Int->Hp->VK->Prop):Prop:=
 ∀(pins:List (Addr×Obj)) (s:Shared) (σ:St) (H:Hp) (x:V) (v vl vu:Value) (lo hi:Option Int) (sl:Addr) (Q:VK),Inv X pins σ H s->RelV x v->s.heap.IsSliceOf sl vl vu .none->IsPart vl lo->IsPart vu hi->r x lo hi H Q ->
  ∃T id,typeLookup (.type T) "__getitem__" = pure (some (.builtin id))/\s.TypeIs v T/\wpAny (model X.prog X.w) X.A (getItem v (.ref sl)) (EP X pins σ Q) X.xe s
noncomputable def tSl (r:V->Option Int->Option Int->Hp->VK->Prop) (te:TE) (tl th:TO):TE:=fun σ H Q=>te σ H λx H1=>tl σ H1 λl H2=>th σ H2 λu H3=>r x l u H3 Q
theorem q6f {r:V->Option Int->Option Int->Hp->VK->Prop} (hr:SlR X r) (he:PE X e te) (hl:PO X lo tl) (hu:PO X hi th):PE X (.Subscript e (.Slice lo hi none p2) pos) (tSl r te tl th):=by
 intro pins s σ H Q I h
 refine Subscript_ (thn (he pins s σ H _ I h) λv s1 ⟨x,H1,I1,r1,q1⟩=>?_)
 refine wpAny_Slice (thn (hl pins s1 σ H1 _ I1 q1) λvl s2 ⟨l,H2,I2,pl,q2⟩=>thn (hu pins s2 σ H2 _ I2 q2) λvu s3 ⟨u,H3,I3,pu,q3⟩=>?_)
 rw [evalPart_none]
 refine wpAny_pure ?_
 have I4:Inv X pins σ H3 { s3 with heap:=s3.heap.push { cls:=.type "slice",data:=.fields #[vl,vu,.none] } }:=I3.kept (t':=s3.toks) λb ob q=>Heap.get?_push_of_some _ q
 obtain ⟨T,id,hT,ht,hg⟩:=hr pins { s3 with heap:=s3.heap.push { cls:=.type "slice",data:=.fields #[vl,vu,.none] } } σ H3 x v vl vu l u s3.heap.objs.size Q I4 r1 (Heap.IsSliceOf.new ..) pl pu q3
 show wpAny (model X.prog X.w) X.A (subscriptTail e (.Slice lo hi none p2) v (.ref s3.heap.objs.size)) (EP X pins σ Q) X.xe { s3 with heap:=s3.heap.push { cls:=.type "slice",data:=.fields #[vl,vu,.none] } }
 exact tail_any (ops:=[.ref s3.heap.objs.size,v]) ht hT hg (by with_unfolding_all rfl)
noncomputable def j4z (xs:List V) (lo hi:Option Int):List V:=(xs.drop (HT.sIx xs.length 0 lo)).take (HT.sIx xs.length xs.length hi-HT.sIx xs.length 0 lo)
theorem q5j (xs:List V) (lo hi:Option Int):(j4z xs lo hi).length<=xs.length:=by
 unfold j4z
 rw [List.length_take,List.length_drop]
 omega
end
noncomputable def ixN (n:Nat) (i:Int):Option Nat:=if 0<=i then (if i < n then some i.toNat else none) else if -(n:Int)<=i then some (i+n).toNat else none
noncomputable def atI {α:Type} (xs:List α) (i:Int):Option α:=(ixN xs.length i).bind λj=>xs[j]?
theorem q4S {n:Nat} {i:Int} {j:Nat} (h:ixN n i=some j):seqIndex? i n=some j/\j < n/\-(n:Int)<=i/\i < n:=by
 unfold ixN at h
 by_cases h0:0<=i
 ·rw [if_pos h0] at h
  by_cases h1:i < n
  ·rw [if_pos h1] at h
   have e:i.toNat=j:=Option.some.inj h
   exact ⟨by rw [seqIndex_of h0 h1,e],by omega,by omega,h1⟩
  ·rw [if_neg h1] at h;cases h
 ·rw [if_neg h0] at h
  by_cases h1:-(n:Int)<=i
  ·rw [if_pos h1] at h
   have e:(i+n).toNat=j:=Option.some.inj h
   exact ⟨by rw [seqIndex_neg (by omega) h1,e],by omega,h1,by omega⟩
  ·rw [if_neg h1] at h;cases h
theorem q3B {α:Type} {xs:List α} {i:Int} {v:α} (h:atI xs i=some v):∃j,seqIndex? i xs.length=some j/\xs[j]?=some v/\j < xs.length/\-(xs.length:Int)<=i/\i < xs.length:=by
 unfold atI at h
 cases e:ixN xs.length i with
 | none=>rw [e] at h;cases h
 | some j=>
  rw [e] at h
  obtain ⟨h1,h2,h3,h4⟩:=q4S e
  exact ⟨j,h1,h,h2,h3,h4⟩
theorem q0Y {α:Type} {xs:List α} {j:Nat} {v:α} (h:xs[j]?=some v):atI xs (j:Int)=some v:=by
 have hj:j < xs.length:=(List.getElem?_eq_some_iff.mp h).1
 have e:ixN xs.length (j:Int)=some j:=by
  unfold ixN
  rw [if_pos (by omega),if_pos (by omega)];simp
 unfold atI;rw [e];exact h
noncomputable def q5f (b:Expr):Prop:=∀o i,subscripted b false o i=operate [o,i] (getItem o i)
noncomputable def IxR (X:Cx) (r:R2):Prop:=
 ∀(value slice:Expr) (pins:List (Addr×Obj)) (s:Shared) (σ:St) (H:Hp) (x y:V) (v u:Value) (Q:VK),Inv X pins σ H s->RelV x v->RelV y u->r x y H Q ->
  subscripted slice false v u=operate [v,u] (getItem v u)->wpAny (model X.prog X.w) X.A (subscriptTail value slice v u) (EP X pins σ Q) X.xe s
noncomputable def MtR (X:Cx) (id:String) (r:V->List V->Hp->VK->Prop):Prop:=
 ∀(pins:List (Addr×Obj)) (s:Shared) (σ:St) (H:Hp) (x:V) (xs:List V) (v:Value) (us:List Value) (Q:VK),Inv X pins σ H s->RelV x v->Vals xs us->r x xs H Q ->
  wpAny (model X.prog X.w) X.A (call (.builtin id) (v::us)) (EP X pins σ Q) X.xe s
section
variable {X:Cx} {a b:Expr} {ta tb:TE} {pos:Pos}
theorem IxR.or {r r':R2} (h:IxR X r) (h':IxR X r'):IxR X (λx y H Q=>r x y H Q∨r' x y H Q):=by
 intro value slice pins s σ H x y v u Q I rx ry q hs
 rcases q with q | q
 ·exact h value slice pins s σ H x y v u Q I rx ry q hs
 ·exact h' value slice pins s σ H x y v u Q I rx ry q hs
theorem j5g {r:R2} (hr:IxR X r) (ha:PE X a ta) (hb:PE X b tb) (hs:q5f b):PE X (.Subscript a b pos) (tOp r ta tb):=by
 intro pins s σ H Q I h
 exact Subscript_ (j9S ha hb I h λv u s2 x y H2 I2 rx ry q=>hr a b pins s2 σ H2 x y v u Q I2 rx ry q (hs _ _))
noncomputable def w1s (K:PySem.W.Frag):R2:=λx y H Q=>∃p xs i v,x=.ref p/\y=.int i/\SqL K H p xs/\atI xs i=some v/\Q v H
noncomputable def w1F (K:PySem.W.Frag):R2:=λx y H Q=>∃p xs i v,x=.ref p/\y=.int i/\SqT K H p xs/\atI xs i=some v/\Q v H
noncomputable def w1V:R2:=λx y H Q=>∃z i c,x=.str z/\y=.int i/\z.length<=sizeLine/\atI z.cps.toList i=some c/\Q (.str ⟨#[c]⟩) H
theorem q7i:IxR X (w1s X.K):=by
 intro value slice pins s σ H x y v u Q I rx ry h hs
 obtain ⟨p,xs,i,z,rfl,rfl,hq,he,q⟩:=h
 cases rx
 obtain ⟨t,rfl⟩:=ry
 obtain ⟨its,r,pl,hz⟩:=I.list hq
 obtain ⟨j,h1,h2,h3,h4,h5⟩:=q3B he
 obtain ⟨w,ew,rw'⟩:=r.get h2
 have hl:=r.length
 have hn:=line63
 have fin:EP X pins σ Q w s:=⟨z,H,I,rw',q⟩
 by_cases h0:0<=i
 ·have hj:i.toNat=j:=by
   rw [seqIndex_of h0 h5] at h1
   exact Option.some.inj h1
  exact item_listR pl.isList h0 (by omega) (by rw [hj];simpa using ew) fin hs
 ·have hj:(i+(its.toArray.size:Int)).toNat=j:=by
   rw [seqIndex_neg (by omega) h4] at h1
   rw [List.size_toArray,<-hl]
   exact Option.some.inj h1
  exact subscriptTail_builtinR (x:=w) pl.isList.typeIs slot_list_getitem.lookup
   (wpAny_getItem_list_neg (Q:=λr s'=>r=w/\EP X pins σ Q r s') pl.isList (by omega) (by rw [List.size_toArray]<;>omega) (by omega) (by rw [hj];simpa using ew) ⟨rfl,fin⟩) hs
theorem j50:IxR X (w1F X.K):=by
 intro value slice pins s σ H x y v u Q I rx ry h hs
 obtain ⟨p,xs,i,z,rfl,rfl,hq,he,q⟩:=h
 cases rx
 obtain ⟨t,rfl⟩:=ry
 obtain ⟨its,r,pl,hz⟩:=I.tuple hq
 obtain ⟨j,h1,h2,h3,h4,h5⟩:=q3B he
 obtain ⟨w,ew,rw'⟩:=r.get h2
 have hl:=r.length
 have hn:=line63
 have fin:EP X pins σ Q w s:=⟨z,H,I,rw',q⟩
 exact subscriptTail_builtinR (x:=w) pl.typeIs slot_tuple_getitem.lookup
  (getItem_tuple (j:=j) (Q:=λr s'=>r=w/\EP X pins σ Q r s') pl (by omega) (by omega) (by rw [List.size_toArray,<-hl];exact h1) (by simpa using ew) ⟨rfl,fin⟩) hs
theorem j6v:IxR X w1V:=by
 intro value slice pins s σ H x y v u Q I rx ry h hs
 obtain ⟨z,i,c,rfl,rfl,hz,he,q⟩:=h
 obtain ⟨t,rfl⟩:=rx
 obtain ⟨t',rfl⟩:=ry
 obtain ⟨j,h1,h2,h3,h4,h5⟩:=q3B he
 have hl:z.cps.toList.length=z.length:=by simp [Str.length]
 rw [hl] at h1 h4 h5
 have hn:=line63
 exact tail_any (typeIs_str s z t) slot_str_getitem.lookup (getItem_str (c:=c) (by
  have e1:decide (i < -(2 ^ 63:Int))=false:=decide_eq_false (by omega)
  have e2:decide (i ≥ 2 ^ 63)=false:=decide_eq_false (by omega)
  rw [e1,e2,Bool.or_false]) (by rw [h1];simpa using h2) ⟨.str ⟨#[c]⟩,H,I.tok _,⟨_,rfl⟩,q⟩) hs
theorem q6F (its:List Value) (n j:Nat) (u:Value):Obj.mapSeq (·.setIfInBounds j u) { cls:=.type "list",data:=.seq its.toArray n }={ cls:=.type "list",data:=.seq (its.set j u).toArray n }:=by
 simp [Obj.mapSeq]
theorem Inv.lst {pins:List (Addr×Obj)} {σ:St} {H:Hp} {s:Shared} {p:Addr} {xs:List V} (I:Inv X pins σ H s) (h:H p=some (.lst xs)) :
 ∃(its:List Value) (n:Nat),Vals xs its/\s.heap.get? p=some { cls:=.type "list",data:=.seq its.toArray n }/\xs.length<=sizeLine:=by
 obtain ⟨z,its,n,r,e⟩:=I.hok p _ h
 exact ⟨its,n,r,e,z⟩
theorem Inv.lstUpd {pins:List (Addr×Obj)} {σ:St} {H:Hp} {s:Shared} {p:Addr} {xs ys:List V} {its its':List Value} {n n':Nat} {f:Obj->Obj} (I:Inv X pins σ H s) (h:H p=some (.lst xs))
 (ho:s.heap.get? p=some { cls:=.type "list",data:=.seq its.toArray n }) (hf:f { cls:=.type "list",data:=.seq its.toArray n }={ cls:=.type "list",data:=.seq its'.toArray n' }) (r:Vals ys its') (hz:ys.length<=sizeLine) (t:Nat) :
 Inv X pins σ (upd H p (.lst ys)) { s with heap:=s.heap.update p f,toks:=t }:=by
 have e:(s.heap.update p f).get? p=some { cls:=.type "list",data:=.seq its'.toArray n' }:=by
  rw [Heap.get?_update_self f ho (by rw [hf]<;>rfl),hf]
 refine I.write (x:=p) (e:=p) (by rw [h];trivial) (.inl rfl) (λb u hb q=>(Heap.get?_update_other _ _ (Ne.symm hb)).trans q) ⟨_,e⟩ ?_
 exact ⟨hz,its',n',r,e⟩
noncomputable def j9o:V->V->V->Hp->(Hp->Prop)->Prop:=λo i v H Q=>∃p xs k j,o=.ref p/\i=.int k/\H p=some (.lst xs)/\ixN xs.length k=some j/\Q (upd H p (.lst (xs.set j v)))
theorem q9Y:w0R X j9o:=by
 intro pins s σ H o i v ov iv u Q I ro ri rv h
 obtain ⟨p,xs,k,j,rfl,rfl,hp,hj,q⟩:=h
 cases ro
 obtain ⟨t,rfl⟩:=ri
 obtain ⟨its,n,r,ho,hz⟩:=I.lst hp
 obtain ⟨h1,h2,h3,h4⟩:=q4S hj
 have hl:=r.length
 have hn:=line63
 have I':Inv X pins σ (upd H p (.lst (xs.set j v))) { s with heap:=s.heap.update p (Obj.mapSeq (·.setIfInBounds j u)) }:=
  I.lstUpd hp ho (q6F its n j u) (r.set rv j) (by rw [List.length_set];exact hz) s.toks
 by_cases h0:0<=k
 ·have hk:k.toNat=j:=by
   rw [seqIndex_of h0 h4] at h1
   exact Option.some.inj h1
  exact PySem.W.ki_setAt ho h0 (by omega) (by rw [List.size_toArray,<-hl];exact h4) (by rw [hk];exact ⟨_,I',q⟩)
 ·have hk:(k+(its.toArray.size:Int)).toNat=j:=by
   rw [seqIndex_neg (by omega) h3] at h1
   rw [List.size_toArray,<-hl]
   exact Option.some.inj h1
  exact PySem.W.ki_setBack ho (by omega) (by rw [List.size_toArray,<-hl];exact h3) (by omega) (by rw [hk];exact ⟨_,I',q⟩)
theorem q4j (lo hi:Option Int) (n:Nat):(sliceBounds lo hi none n).1=((HT.sIx n 0 lo:Nat):Int)/\(sliceBounds lo hi none n).2.1=((HT.sIx n n hi:Nat):Int)/\(sliceBounds lo hi none n).2.2=1:=by
 refine ⟨?_,?_,rfl⟩
 ·cases lo with
  | none=>simp [sliceBounds,HT.sIx]
  | some i=>
   simp only [sliceBounds,HT.sIx,Option.getD_none,show (1:Int) > 0 by decide,if_true]
   by_cases h:i < 0
   ·simp only [h,if_true]<;>omega
   ·simp only [h,if_false]<;>omega
 ·cases hi with
  | none=>simp [sliceBounds,HT.sIx]
  | some i=>
   simp only [sliceBounds,HT.sIx,Option.getD_none,show (1:Int) > 0 by decide,if_true]
   by_cases h:i < 0
   ·simp only [h,if_true]<;>omega
   ·simp only [h,if_false]<;>omega
theorem q3Y (its:List Value) (lo hi:Option Int):slicePick its.toArray lo hi none=((its.drop (HT.sIx its.length 0 lo)).take (HT.sIx its.length its.length hi-HT.sIx its.length 0 lo)).toArray:=by
 obtain ⟨h1,h2,h3⟩:=q4j lo hi its.toArray.size
 unfold slicePick
 rw [h1,h2,h3]
 simp only [sliceRange_one,pick_run,List.size_toArray]<;>rfl
noncomputable def w1W (K:PySem.W.Frag):V->Option Int->Option Int->Hp->VK->Prop:=λx lo hi H Q=>∃a xs,x=.ref a/\SqL K H a xs/\∀p,H p=none->Q (.ref p) (upd H p (.lst (j4z xs lo hi)))
theorem j37:SlR X (w1W X.K):=by
 intro pins s σ H x v vl vu lo hi sl Q I rx hs pl pu h
 obtain ⟨a,xs,rfl,hx,q⟩:=h
 cases rx
 obtain ⟨its,r,ht,hz⟩:=I.list hx
 have hlen:=r.length
 refine ⟨"list",_,slot_list_getitem.lookup,ht.isList.typeIs,?_⟩
 refine wpAny_getItem_list_slice ht.isList hs pl pu .none (by simp) ?_ (by rw [List.size_toArray]<;>omega)
 rw [q3Y,<-hlen]
 refine ⟨.ref s.heap.objs.size,_,I.laid (t':=s.toks) (o:=.lst (j4z xs lo hi)) (λb ob q=>Heap.get?_push_of_some _ q) (Nat.le_refl _) ?_,rfl,q _ (I.hok.fresh (Nat.le_refl _))⟩
 exact ⟨Nat.le_trans (q5j xs lo hi) hz,_,0,(r.drop (HT.sIx xs.length 0 lo)).take (HT.sIx xs.length xs.length hi-HT.sIx xs.length 0 lo),Heap.get?_push_size _ rfl⟩
noncomputable def q3l:V->Bool
 | .non=>true
 | .bl _=>true
 | .int _=>true
 | .str _=>true
 | _=>false
noncomputable def eqV:V->V->Bool
 | .non,.non=>true
 | .bl a,.bl b=>a==b
 | .bl a,.int b=>(if a then 1 else 0)==b
 | .int a,.bl b=>a==(if b then 1 else 0)
 | .int a,.int b=>a==b
 | .str a,.str b=>a==b
 | _,_=>false
theorem j6u {A:Around} {s:Shared} {y x:V} {u v:Value} (ry:RelV y u) (rx:RelV x v) (fy:q3l y=true) (fx:q3l x=true):SeqAt.EqAt A s u v (eqV y x):=by
 cases y with
 | non=>
  cases ry
  cases x with
  | non=>cases rx;exact SeqAt.EqAt.same _
  | bl b=>cases rx;exact SeqAt.EqAt.none_bool b
  | int b=>obtain ⟨t,rfl⟩:=rx;exact SeqAt.EqAt.none_int b t
  | str b=>obtain ⟨t,rfl⟩:=rx;exact SeqAt.EqAt.none_str b t
  | _=>exact absurd (show false=true from fx) Bool.false_ne_true
 | bl a=>
  cases ry
  cases x with
  | non=>cases rx;exact SeqAt.EqAt.bool_none a
  | bl b=>cases rx;exact SeqAt.EqAt.bool_bool a b
  | int b=>obtain ⟨t,rfl⟩:=rx;exact SeqAt.EqAt.bool_int a b t
  | str b=>obtain ⟨t,rfl⟩:=rx;exact SeqAt.EqAt.bool_str a b t
  | _=>exact absurd (show false=true from fx) Bool.false_ne_true
 | int a=>
  obtain ⟨t',rfl⟩:=ry
  cases x with
  | non=>cases rx;exact SeqAt.EqAt.int_none a t'
  | bl b=>cases rx;exact SeqAt.EqAt.int_bool a t' b
  | int b=>obtain ⟨t,rfl⟩:=rx;exact SeqAt.EqAt.int_int a t' b t
  | str b=>obtain ⟨t,rfl⟩:=rx;exact SeqAt.EqAt.int_str a t' b t
  | _=>exact absurd (show false=true from fx) Bool.false_ne_true
 | str a=>
  obtain ⟨t',rfl⟩:=ry
  cases x with
  | non=>cases rx;exact SeqAt.EqAt.str_none a t'
  | bl b=>cases rx;exact SeqAt.EqAt.str_bool a t' b
  | int b=>obtain ⟨t,rfl⟩:=rx;exact SeqAt.EqAt.str_int a t' b t
  | str b=>obtain ⟨t,rfl⟩:=rx;exact SeqAt.EqAt.str_str a t' b t
  | _=>exact absurd (show false=true from fx) Bool.false_ne_true
 | _=>exact absurd (show false=true from fy) Bool.false_ne_true
noncomputable def eqU (x:V) (u:Value):Bool:=match u with
 | .none=>eqV .non x
 | .bool b=>eqV (.bl b) x
 | .int i _=>eqV (.int i) x
 | .str z _=>eqV (.str z) x
 | _=>false
theorem j1b {x y:V} {u:Value} (r:RelV y u) (f:q3l y=true):eqU x u=eqV y x:=by
 cases y with
 | non=>cases r;rfl
 | bl b=>cases r;rfl
 | int i=>obtain ⟨t,rfl⟩:=r;rfl
 | str z=>obtain ⟨t,rfl⟩:=r;rfl
 | _=>exact absurd (show false=true from f) Bool.false_ne_true
theorem q2Z {x:V}:∀{xs:List V} {us:List Value},Vals xs us->xs.all q3l=true->us.any (eqU x)=xs.any λy=>eqV y x
 | _,_,.nil,_=>rfl
 | y::xs,u::us,.cons r t,f=>by
  rw [List.all_cons,Bool.and_eq_true] at f
  rw [List.any_cons,List.any_cons,j1b r f.1,q2Z t f.2]
theorem q2e {A:Around} {s:Shared} {x:V} {v:Value} (rx:RelV x v) (fx:q3l x=true):∀{xs:List V} {us:List Value},Vals xs us->xs.all q3l=true->∀u∈us,SeqAt.EqAt A s u v (eqU x u)
 | _,_,.nil,_=>λu hu=>by cases hu
 | y::xs,u::us,.cons r t,f=>λu' hu=>by
  rw [List.all_cons,Bool.and_eq_true] at f
  rcases List.mem_cons.mp hu with rfl | hu
  ·rw [j1b r f.1];exact j6u r rx f.1 fx
  ·exact q2e rx fx t f.2 u' hu
noncomputable def inV (x:V) (xs:List V):Bool:=xs.any λy=>eqV y x
noncomputable def rIn (K:PySem.W.Frag) (neg:Bool):R2:=λx y H Q=>∃p xs,y=.ref p/\(SqL K H p xs∨SqT K H p xs)/\q3l x=true/\xs.all q3l=true/\Q (.bl (if neg then !inV x xs else inV x xs)) H
theorem q7R:OpR X (compareOp .In) (rIn X.K false):=by
 intro pins s σ H x y v u Q I rx ry h
 obtain ⟨p,xs,rfl,hq,fx,fs,q⟩:=h
 cases ry
 rcases hq with hq | hq
 ·obtain ⟨its,r,pl,hz⟩:=I.list hq
  refine SeqAt.in_listAt (eqU x) pl.isList (λw hw=>q2e rx fx r fs w (by simpa using hw)) ⟨.bl _,H,I,rfl,?_⟩
  rw [show its.toArray.any (eqU x)=its.any (eqU x) by simp,q2Z r fs]
  exact q
 ·obtain ⟨its,r,pl,hz⟩:=I.tuple hq
  refine SeqAt.in_tupleAt (eqU x) pl (λw hw=>q2e rx fx r fs w (by simpa using hw)) ⟨.bl _,H,I,rfl,?_⟩
  rw [show its.toArray.any (eqU x)=its.any (eqU x) by simp,q2Z r fs]
  exact q
theorem q4r:OpR X (compareOp .NotIn) (rIn X.K true):=by
 intro pins s σ H x y v u Q I rx ry h
 obtain ⟨p,xs,rfl,hq,fx,fs,q⟩:=h
 cases ry
 rcases hq with hq | hq
 ·obtain ⟨its,r,pl,hz⟩:=I.list hq
  refine SeqAt.notIn_listAt (eqU x) pl.isList (λw hw=>q2e rx fx r fs w (by simpa using hw)) ⟨.bl _,H,I,rfl,?_⟩
  rw [show its.toArray.any (eqU x)=its.any (eqU x) by simp,q2Z r fs]
  exact q
 ·obtain ⟨its,r,pl,hz⟩:=I.tuple hq
  refine SeqAt.notIn_tupleAt (eqU x) pl (λw hw=>q2e rx fx r fs w (by simpa using hw)) ⟨.bl _,H,I,rfl,?_⟩
  rw [show its.toArray.any (eqU x)=its.any (eqU x) by simp,q2Z r fs]
  exact q
theorem q35:q2f X (.type "tuple") (λxs H Q=>∃p ys,xs=[.ref p]/\((SqL X.K H p ys/\∀l,H l=none->Q (.ref l) (upd H l (.tup ys)))∨(SqT X.K H p ys/\Q (.ref p) H))):=by
 intro pins s σ H xs us Q I r h
 obtain ⟨p,ys,rfl,h⟩:=h
 obtain ⟨u,rfl,rx⟩:=vals1 r
 cases rx
 rcases h with ⟨hq,q⟩ | ⟨hq,q⟩
 ·obtain ⟨its,r',pl,hz⟩:=I.list hq
  have hlen:=r'.length
  refine call_tuple_list pl.isList (λh' kp=>?_) (by simp only [List.size_toArray]<;>omega)
  have I1:Inv X pins σ H { s with heap:=h' }:=I.kept (t':=s.toks) kp
  have I2:Inv X pins σ (upd H h'.objs.size (.tup ys)) { s with heap:=h'.push { cls:=.type "tuple",data:=.seq its.toArray } }:=
   I1.laid (t':=s.toks) (λb o e=>Heap.get?_push_of_some _ e) (Nat.le_refl _) (show ObjOk X.prog X.w _ _ _ (.tup ys) from ⟨hz,its,r',IsTup.new _ _⟩)
  exact ⟨.ref h'.objs.size,_,I2,rfl,q _ (I1.hok.fresh (Nat.le_refl _))⟩
 ·obtain ⟨its,r',pl,hz⟩:=I.tuple hq
  exact call_tuple_same pl ⟨.ref p,H,I,rfl,q⟩
noncomputable def tyV (K:PySem.W.Frag) (T:String) (x:V) (H:Hp):Prop:=match x with
 | .str _=>T="str"
 | .int _=>T="int"
 | .ref p=>(T="list"/\∃xs,SqL K H p xs)∨(T="tuple"/\∃o,K.lookup p=some o/\o.cls=.type "tuple"/\o.dict=none) ∨
  (T="dict"/\((∃kvs,H p=some (.dK kvs))∨∃kvs,H p=some (.dT kvs)))∨(T="set"/\∃S n,H p=some (.set S n))
 | _=>False
theorem j6w {pins:List (Addr×Obj)} {σ:St} {H:Hp} {s:Shared} {T:String} {x:V} {v:Value} (I:Inv X pins σ H s) (r:RelV x v) (ty:tyV X.K T x H) :
 s.TypeIs v T/\∀a,v=.ref a->∃ob,s.heap.get? a=some ob/\ob.dict=none:=by
 cases x with
 | str z=>
  obtain ⟨t,rfl⟩:=r
  cases (show T="str" from ty)
  exact ⟨typeIs_str s z t,λ_ e=>nomatch e⟩
 | int i=>
  obtain ⟨t,rfl⟩:=r
  cases (show T="int" from ty)
  exact ⟨typeIs_int s i t,λ_ e=>nomatch e⟩
 | ref p=>
  cases r
  rcases ty with ⟨rfl,xs,hq⟩ | ⟨rfl,o,hk,hc,hd⟩ | ⟨rfl,hk⟩ | ⟨rfl,S,n,hk⟩
  ·obtain ⟨its,_,pl,_⟩:=I.list hq
   refine ⟨pl.isList.typeIs,λa e=>?_⟩
   cases e
   obtain ⟨o,n,e,c,hd,_⟩:=pl
   exact ⟨o,e,hd⟩
  ·refine ⟨⟨o,I.kIn p o hk,hc⟩,λa e=>?_⟩
   cases e
   exact ⟨o,I.kIn _ o hk,hd⟩
  ·have z:∃o,s.heap.get? p=some o/\o.ExactDict:=by
    rcases hk with ⟨kvs,hk⟩ | ⟨kvs,hk⟩
    ·obtain ⟨_,_,_,_,o,_,_,e,ex,_⟩:=I.hok p _ hk
     exact ⟨o,e,ex⟩
    ·obtain ⟨_,_,_,_,o,_,_,e,ex,_⟩:=I.hok p _ hk
     exact ⟨o,e,ex⟩
   obtain ⟨o,e,ex⟩:=z
   refine ⟨⟨o,e,ex.1⟩,λa e2=>?_⟩
   cases e2
   exact ⟨o,e,ex.2.1⟩
  ·obtain ⟨o,_,_,_,e,ex,_⟩:=I.hok p _ hk
   refine ⟨⟨o,e,ex.1⟩,λa e2=>?_⟩
   cases e2
   exact ⟨o,e,ex.2.1⟩
 | _=>exact False.elim ty
noncomputable def tBM (K:PySem.W.Frag) (T:String) (r:V->List V->Hp->VK->Prop) (to:TE) (t:TA):TE:=fun σ H Q=>to σ H λx H1=>tyV K T x H1/\t σ H1 λxs H2=>r x xs H2 Q
variable {o e:Expr} {es:List Expr} {to:TE} {t:TA} {name:Str} {apos cpos:Pos} {T id:String} {r:V->List V->Hp->VK->Prop}
theorem j6j (pa:PlainAttrs T) (slot:Slot T name id) (hty:typeOf (.builtin id)=pure (.type "method_descriptor")) (hm:MtR X id r) (ho:PE X o to) (ha:PA X (e::es) t)
 (hbase:attributeBase o name X.env (eval o X.env)=eval o X.env:=by rfl)
 (hfew:((backTo cpos (starEach (e::es) X.env)).all (λx=>!x.1) && (backToKw cpos (keywordEach [] X.env)).all (λx=>x.1.isSome)
  && decide ((e::es).length+([]:List Keyword).length+(if ([]:List Keyword).isEmpty then 0 else 1) < 30))=true:=by rfl)
 (hline:(apos.endLine==cpos.line)=true:=by rfl) (hs:starEach (e::es) X.env=(false,eval e X.env)::starEach es X.env:=by rfl) (hplain:(backTo cpos (starEach es X.env)).any (·.1)=false:=by rfl) :
 PE X (.Call (.Attribute o name apos) (e::es) [] cpos) (tBM X.K T r to t):=by
 intro pins s σ H Q I h
 refine wpAny_Call_method_late hbase hfew hline rfl (thn (ho pins s σ H _ I h) λv s1 ⟨x,H1,I1,r1,ty,q1⟩=>?_)
 obtain ⟨h1,h2⟩:=j6w I1 r1 ty
 refine ⟨T,id,pa,slot,hty,h1,h2,?_⟩
 have hA:=ha cpos pins s1 σ H1 _ I1 q1
 rw [hs] at hA ⊢
 refine Calls.callWith_builtin (by show (false || (backTo cpos (starEach es X.env)).any (·.1))=false;rw [hplain]<;>rfl) (Calls.evalArgs_plain ?_)
 exact thn hA λus s2 ⟨vs,H2,I2,r2,q2⟩=>hm pins s2 σ H2 x vs v us Q I2 r1 r2 q2
end
noncomputable def MtM (X:Cx) (id:String) (r:V->List V->Hp->VK->Prop):Prop:=
 ∀(pins:List (Addr×Obj)) (s:Shared) (σ:St) (H:Hp) (x:V) (xs:List V) (v:Value) (us:List Value) (Q:VK),Inv X pins σ H s->RelV x v->Vals xs us->r x xs H Q ->
  wpAny (model X.prog X.w) X.A (call (.builtin id) (v::us)) (EP X pins σ Q) X.xe s
theorem Vals.one:∀{x:V} {us:List Value},Vals [x] us->∃u,us=[u]/\RelV x u
 | _,_,.cons r .nil=>⟨_,rfl,r⟩
theorem Vals.two:∀{x y:V} {us:List Value},Vals [x,y] us->∃u v,us=[u,v]/\RelV x u/\RelV y v
 | _,_,_,.cons r (.cons q .nil)=>⟨_,_,rfl,r,q⟩
theorem Vals.rep {xs:List V} {us:List Value} (h:Vals xs us):∀k:Nat,Vals (List.replicate k xs).flatten (List.replicate k us).flatten
 | 0=>.nil
 | k+1=>by
  rw [List.replicate_succ,List.replicate_succ,List.flatten_cons,List.flatten_cons]
  exact Vals.append h (Vals.rep h k)
theorem q4x (its:List Value):∀(k:Nat) (acc:List Value),
 List.foldl (λx1 x2=>x1++x2) acc.toArray (List.replicate k its.toArray)=(acc++(List.replicate k its).flatten).toArray
 | 0,acc=>by simp
 | k+1,acc=>by
  have e:acc.toArray++its.toArray=(acc++its).toArray:=by simp
  have e2:(acc++its)++(List.replicate k its).flatten=acc++(List.replicate (k+1) its).flatten:=by
   rw [List.replicate_succ,List.flatten_cons,List.append_assoc]
  rw [<-e2,<-q4x its k (acc++its),<-e,List.replicate_succ,List.foldl_cons]
section
variable {X:Cx} {pins:List (Addr×Obj)} {σ:St} {H:Hp} {s:Shared} {l b:Addr} {xs ys zs:List V}
theorem Inv.lset {its its':List Value} {n:Nat} {f:Array Value->Array Value} {t':Nat} (I:Inv X pins σ H s) (hH:H l=some (.lst xs))
 (e:s.heap.get? l=some { cls:=.type "list",data:=.seq its.toArray n }) (hf:f its.toArray=its'.toArray) (hv:Vals ys its') (hz:ys.length<=sizeLine) :
 Inv X pins σ (upd H l (.lst ys)) { s with heap:=s.heap.update l (Obj.mapSeq f),toks:=t' }:=by
 have q:=PySem.IsL.update e f
 rw [hf] at q
 refine I.write (x:=l) (e:=l) (by rw [hH];exact trivial) (.inl rfl) (λb' u hb hu=>(Heap.get?_update_other s.heap (Obj.mapSeq f) (Ne.symm hb)).trans hu) ⟨_,q⟩ ?_
 exact ⟨hz,its',_,hv,q⟩
theorem Inv.lnew {its:List Value} {t':Nat} (I:Inv X pins σ H s) (hv:Vals ys its) (hz:ys.length<=sizeLine) :
 Inv X pins σ (upd H s.heap.objs.size (.lst ys)) { s with heap:=s.heap.push { cls:=.type "list",data:=.seq its.toArray },toks:=t' }:=
 I.laid (λ_ _ q=>Heap.get?_push_of_some _ q) (Nat.le_refl _) ⟨hz,its,0,hv,Heap.get?_push_size _ rfl⟩
theorem Inv.fresh (I:Inv X pins σ H s):H s.heap.objs.size=none:=I.hok.fresh (Nat.le_refl _)
theorem Inv.lstM (I:Inv X pins σ H s) (hH:H l=some (.lst xs)):xs.length<=sizeLine/\∃(its:List Value) (n:Nat),Vals xs its/\xs.length=its.length/\s.heap.get? l=some { cls:=.type "list",data:=.seq its.toArray n }:=by
 obtain ⟨z,its,n,r,e⟩:=I.hok l _ hH
 exact ⟨z,its,n,r,r.length,e⟩
theorem q91 {n:Nat} (h:n<=sizeLine):Builtin.List.listTooLong n=false:=by
 unfold Builtin.List.listTooLong
 exact decide_eq_false (by omega)
end
section
variable {X:Cx}
noncomputable def j35:V->List V->Hp->VK->Prop:=λx vs H Q=>∃l xs y,x=.ref l/\vs=[y]/\H l=some (.lst xs)/\xs.length < sizeLine/\Q .non (upd H l (.lst (xs++[y])))
theorem q4J:MtM X "list.append" j35:=by
 intro pins s σ H x vs v us Q I rx rv h
 obtain ⟨l,xs,y,rfl,rfl,hH,hz,q⟩:=h
 cases rx
 obtain ⟨u,rfl,ru⟩:=rv.one
 obtain ⟨z,its,n,r,hl,e⟩:=I.lstM hH
 refine call_meets F.slot_list_append ⟨_,e,rfl⟩ F.entry_list_append (F.args_list_append_2 _ _) (PySem.list_append l its.toArray n u (by rw [List.size_toArray];omega)) ⟨e,?_⟩
 refine ⟨.non,_,I.lset (its':=its++[u]) hH e (by simp) (r.append (.cons ru .nil)) ?_,rfl,q⟩
 rw [List.length_append,List.length_singleton]
 omega
noncomputable def w1X:R2:=λx y H Q=>∃l k xs,x=.ref l/\y=.int k/\H l=some (.lst xs)/\-(2 ^ 63)<=k/\k < 2 ^ 63/\xs.length*k.toNat<=sizeLine /\
 ∀p,H p=none->Q (.ref p) (upd H p (.lst (List.replicate k.toNat xs).flatten))
theorem j3s {α:Type} (xs:List α) (k:Nat):(List.replicate k xs).flatten.length=k*xs.length:=by
 induction k with
 | zero=>simp
 | succ k ih=>rw [List.replicate_succ,List.flatten_cons,List.length_append,ih,Nat.succ_mul,Nat.add_comm]
theorem j6E:OpR X (binaryOp .Mult) w1X:=by
 intro pins s σ H x y v u Q I rx ry h
 obtain ⟨l,k,xs,rfl,rfl,hH,h1,h2,hz,q⟩:=h
 cases rx
 obtain ⟨t,rfl⟩:=ry
 obtain ⟨z,its,n,r,hl,e⟩:=I.lstM hH
 have hlen:its.toArray.size*k.toNat<=sizeLine:=by rw [List.size_toArray,<-hl];exact hz
 have hcap:¬its.toArray.size*k.toNat > (2 ^ 63-1) / 8:=by
  have:(sizeLine:Nat)<=(2 ^ 63-1) / 8:=by decide
  omega
 have hfit:¬(!Builtin.List.listFitsIndex k)=true:=by
  rw [fitsIndex_both h1 h2]
  exact Bool.false_ne_true
 have hlong:¬Builtin.List.listTooLong (its.toArray.size*k.toNat)=true:=by
  rw [q91 hlen]
  exact Bool.false_ne_true
 have hnew:List.foldl (λx1 x2=>x1++x2) #[] (List.replicate (if its.toArray.isEmpty=true then 0 else k.toNat) its.toArray)=(List.replicate k.toNat its).flatten.toArray:=by
  have f0:∀m:Nat,List.foldl (λx1 x2=>x1++x2) #[] (List.replicate m its.toArray)=(List.replicate m its).flatten.toArray:=λm=>by
   have:=q4x its m []
   rw [List.nil_append] at this
   exact this
  rw [f0]
  cases its with
  | nil=>simp
  | cons a r'=>rw [if_neg (by simp)]
 refine wpAny_binaryOp_repeat_ref (T:="list") (U:="int") (by decide) ⟨_,e,rfl⟩ (λs'=>typeIs_int s' k t) noFill_list_mul F.fills_int_mul F.slot_int_rmul repeat_list F.slot_int_index.lookup
  (call_meets F.slot_int_rmul (typeIs_int s k t) F.entry_int_rmul (F.args_int_rmul_2 _ _) (int___rmul___int_list k t l its.toArray n)
   ⟨e,rfl,⟨_,e,rfl⟩,call_meets F.slot_list_mul ⟨_,e,rfl⟩ F.entry_list_mul (F.args_list_mul_2 _ _) (AutoListH.list___mul___list_int_3 l its.toArray n k t hfit hcap hlong) ⟨e,?_⟩⟩)
 rw [hnew]
 exact ⟨.ref _,_,I.lnew (t':=s.toks) (r.rep k.toNat) (by rw [j3s,Nat.mul_comm];exact hz),rfl,q _ I.fresh⟩
end
section
variable {prog:Program} {w:World} {A:Around} {E:Value->Shared->Prop} {s:Shared}
end
section
variable {X:Cx}
end
end L2
namespace Att
open PySem PySem.W PySem.Calls PyProof.Rows
theorem q3a {P:Params} {h:Heap}:∀(ns:List Int) (vs:List Value),WellAll P h vs (ns.map WData.int)->IntsAre vs ns:=by
 intro ns
 induction ns with
 | nil=>
  intro vs w
  rw [List.map_nil] at w
  cases w
  exact .nil
 | cons n ns ih=>
  intro vs w
  rw [List.map_cons] at w
  cases w with
  | cons a b=>
   cases a
   exact .cons _ _ (ih _ b)
theorem q7W {l:OpenLaw} {n:Nat} (hn:l.most=some n) {P:Params} {h:Heap} {args:List WData} {vals:List Value}
 (hpre:l.row.toRowW.claim.pre args=true) (hwl:WellAll P h vals args) :
 ∃a vs ns,vals=[Value.ref a]/\args=[WData.list (ns.map WData.int)]/\h.get? a=some { cls:=.type "list",data:=.seq vs.toArray }/\IntsAre vs ns/\ns.length<=n:=by
 have hsh:WShape.hasAll [] args [.list .int]=true:=(pre_splitW hpre).1
 have hc:l.pre.holds [] { args:=args }=true:=(pre_splitW hpre).2
 obtain ⟨d,r,rfl,h1,h2⟩:=hasAllW_cons hsh
 obtain rfl:=hasAllW_nil h2
 obtain ⟨xs,rfl,h3⟩:=hasW_list h1
 obtain ⟨ns,rfl⟩:=items_int h3
 have hlen:ns.length<=n:=by
  unfold OpenLaw.pre at hc
  have h4:(WTm.not (.lt (.lit (.int (n:Int))) (.len (.arg 0)))).holds [] { args:=[.list (ns.map .int)] }=true:=by
   have h4:=(holds_andW hc).1
   rw [hn] at h4
   exact h4
  have h5:=condW_of h4 (w_not (w_lt w_lit (w_len_list (w_arg rfl))))
  rw [List.length_map] at h5
  refine Nat.le_of_not_lt λq=>?_
  have q':(n:Int) < ((ns.length:Nat):Int):=by omega
  first
   | (rw [decide_eq_true q'] at h5;exact absurd h5 (by decide))
   | (simp at h5;omega)
 cases hwl with
 | cons w1 w2=>
  cases w2
  cases w1 with
  | list ho hall=>exact ⟨_,_,ns,rfl,rfl,ho,q3a ns _ hall,hlen⟩
theorem q7n (l:OpenLaw) (args:List WData):l.row.toRowW.claim.post args (.bool true) args=true:=
 postW_of (r:=l.row.toRowW) (X:=(true==true))
  (show WShape.has [] (.bool true) .bool=true by first | rfl | decide | simp [WShape.has,WShape.arms,WShape.armsAll])
  (show (WTm.eq .res (.lit (.bool true))).value [] { args:=args,res:=some (.bool true),after:=args }=some (.bool (true==true)) from w_eq_bool (w_res rfl) w_lit) rfl
theorem attach_call {l:OpenLaw} {n:Nat} {q:Program} {loose:List Str} {XP:(Str->Option Value)->Heap->Prop} {YP:World->Heap->Prop} {d:DefRec}
 (hn:l.most=some n) (hdf:d.params.defaults=[])
 (call:∀(w:World) (s₀ s₁:Shared) (mg mb:Str->Option Value) (fa:Addr) (o:Obj) (pm cd doc:Value) (a:Addr) (vs:List Value) (ns:List Int),
  Ground q loose [] XP w s₀ mg mb s₁.heap->YP w s₁.heap ->
  s₁.heap.get? fa=some o->o.data=.func (docDef d.name d.params d.body d.scope pm cd doc)->s₁.heap.CodeRec cd d.name->mg d.name=some (.ref fa) ->
  s₁.heap.get? a=some { cls:=.type "list",data:=.seq vs.toArray }->IntsAre vs ns->ns.length<=n->s₁.gens=#[] ->
  codeAny (model l.prog w) callerA (.call (.ref fa) ⟨[.ref a],[]⟩) (λr s'=>r=.ok (.ret (.bool true))/\OldK s₁.heap s'.heap/\s'.os=s₁.os/\AllBare s'.gens) s₁) :
 WalkO q loose XP YP l.row.toRowW d [] (λf vs=>PySem.call f vs):=by
 intro w s₀ s₁ mg mb G Y fa o pm cd doc dV kV ho hd hcd hD hmg hg args vals as hpre hlay hrd hwl hlo
 obtain rfl:dV=.none:=Dflts.none hD hdf
 obtain rfl:kV=.none:=Dflts.noKw hD
 obtain ⟨a,vs,ns,rfl,rfl,hobj,hints,hlen⟩:=q7W hn hpre hwl
 refine enter_call (codeAny_mono (call w s₀ s₁ mg mb fa o pm cd doc a vs ns G Y ho (fd_plain hd) hcd hmg hobj hints hlen hg) λr s' hq=>?_)
 obtain ⟨rfl,h2,h3,h4⟩:=hq
 exact ⟨.inl ⟨.bool true,.bool true,[],rfl,λ_=>rfl,.bool true,q7n l _,λ_=>⟨List.Pairwise.nil,λ_ hm=>(nomatch hm)⟩⟩,h2,h3,h4⟩
section
variable {prog:Program} {w:World} {A:Around} {E:Value->Shared->Prop} {s:Shared} {K:Frag}
end
end Att
namespace L2
open PySem PySem.Spec PyProof.Rows
theorem q1S:∀{vs:List Value} {ns:List Int},IntsAre vs ns->Vals (ns.map V.int) vs
 | _,_,.nil=>.nil
 | _,_,.cons n t h=>.cons ⟨t,rfl⟩ (q1S h)
noncomputable def Only (H:Hp):Prop:=∀b,H b=none∨∃o xs,H b=some (.frz o (.lst xs))
theorem q9E {P:Program} {w:World} {K:PySem.W.Frag} {mg mb:Str->Option Value} {CX:CXT} {k:Nat} {fa a:Addr} {fd:FuncData} {x:Str} {sp:Sp} {s₁:Shared} {vs:List Value} {ns:List Int}
 (KX:K.In s₁.heap) (hns:s₁.heap.Ns mainGlobals mg) (hb:s₁.heap.Ns builtinsNs mb) (hbb:∀x:Str,x≠"__name__"->mb x=bootBuiltins x) (hlim:s₁.heap.NoLimit) (hg:s₁.gens=#[])
 (ha:s₁.heap.get? a=some { cls:=.type "list",data:=.seq vs.toArray }) (hi:IntsAre vs ns) (hl:ns.length<=sizeLine) (hr:Room k callerA)
 (F:∀base:Heap,K.In base->base.Ns mainGlobals mg->q0M P w K mg base CX k fa fd [x] sp) (hbind:∀(s:Shared) (u:Value),BindsTo s fd ⟨[u],[]⟩ [(x,u)])
 (hsp:∀H:Hp,Only H->SqL K H a (ns.map V.int)->sp [.ref a] H (λv _=>v=.bl true) λ_ _ _=>False)
 (hCX:∀H e s',CX [] H s₁ (λ_ _ _=>False) e s'->False) :
 codeAny (model P w) callerA (.call (.ref fa) ⟨[.ref a],[]⟩) (λr s'=>r=.ok (.ret (.bool true))/\OldK s₁.heap s'.heap/\s'.os=s₁.os/\AllBare s'.gens) s₁:=by
 have rv:=q1S hi
 have lenV:=hi.length
 have core:∀H:Hp,Only H->SqL K H a (ns.map V.int)->HOk P w H s₁.heap->(∀b,H b≠none->b=a)->(H a≠none->K.lookup a=none) ->
  codeAny (model P w) callerA (.call (.ref fa) ⟨[.ref a],[]⟩) (λr s'=>r=.ok (.ret (.bool true))/\OldK s₁.heap s'.heap/\s'.os=s₁.os/\AllBare s'.gens) s₁:=by
  intro H hO hS hok hA hK
  have base_of:∀{b:Addr} {o:Obj},s₁.heap.get? b=some o->H b=none->(j0j s₁.heap H).get? b=some o:=λe n=>j0J e n
  have noA:∀{b:Addr} {o:Obj} {es:Array DictEntry} {ep:Nat},s₁.heap.get? b=some o->o.data=.dict es ep->H b=none:=λ{b o es ep} e d=>by
   cases q:H b with
   | none=>rfl
   | some u=>
    have e':b=a:=hA b (by rw [q];simp)
    subst e'
    rw [ha] at e;cases e
    have d':Data.seq vs.toArray _=Data.dict es ep:=d
    cases d'
  have nsK:∀{b:Addr} {m:Str->Option Value},s₁.heap.Ns b m->(j0j s₁.heap H).Ns b m:=λ{b m} ⟨o,es,ep,e,d,r⟩=>⟨o,es,ep,base_of e (noA e d),d,r⟩
  have hKb:K.In (j0j s₁.heap H):=λb o e=>base_of (KX b o e) (by
   cases q:H b with
   | none=>rfl
   | some u=>
    have e':b=a:=hA b (by rw [q];simp)
    subst e'
    rw [hK (by rw [q];simp)] at e;cases e)
  have hM:Mod K mg (j0j s₁.heap H):=⟨hKb,nsK hns,⟨mb,nsK hb,hbb⟩,let ⟨mc,h1,h2⟩:=hlim;⟨mc,nsK h1,h2⟩⟩
  have e0:Env0 P w K mg (j0j s₁.heap H) callerA [] s₁ H:=⟨rfl,hM,λb o e=>j4s e,Nat.le_of_eq (q83 _ _),trivial,λb hb=>absurd (show b∈([]:List Addr) from hb) (by simp),hok,.of_eq hg⟩
  refine codeAny_mono ((F _ hKb (nsK hns)).run callerA [] s₁ H ⟨[.ref a],[]⟩ [.ref a] [.ref a] _ _ hr e0 (hbind s₁ (.ref a)) (.cons rfl .nil) (hsp H hO hS)) λr s' h=>?_
  cases r with
  | error e=>exact (hCX H e s' h).elim
  | ok fl=>
   cases fl with
   | next=>exact False.elim h
   | brk=>exact False.elim h
   | cont=>exact False.elim h
   | ret u=>
    obtain ⟨v,H',os,bare,un,hok',r',q⟩:=h
    have q':v=.bl true:=q
    subst q'
    obtain rfl:u=Value.bool true:=r'
    refine ⟨rfl,OldK.of_keep λb o e=>?_,os,bare⟩
    cases q:H b with
    | none=>exact un.keep b o e q (by intro z;exact absurd (show b∈([]:List Addr) from z) (by simp)) (by simp)
    | some u=>
     rcases hO b with z | ⟨ob,xs,z⟩
     ·rw [q] at z;cases z
     ·have z2:=un.frzs b ob _ z
      obtain ⟨e1,_⟩:=hok b _ z
      obtain ⟨e2,_⟩:=hok' b _ z2
      rw [e] at e1;cases e1
      exact e2
 cases hk:K.lookup a with
 | some o=>
  have e:=KX a o hk
  rw [ha] at e
  cases e
  refine core (λ_=>none) (λ_=>.inl rfl) (.inr ⟨_,vs.toArray,_,hk,rfl,rfl,rfl,by rw [List.size_toArray,lenV];exact hl,by simpa using rv⟩) (λb u z=>by have z':(none:Option HO)=some u:=z;cases z') (λb z=>absurd rfl z) λz=>absurd rfl z
 | none=>
  refine core (λb=>if b=a then some (.frz { cls:=.type "list",data:=.seq vs.toArray } (.lst (ns.map V.int))) else none) (λb=>?_) (.inl (.inr ⟨{ cls:=.type "list",data:=.seq vs.toArray },if_pos rfl⟩)) (λb u z=>?_) (λb z=>?_) λ_=>hk
  ·by_cases hb:b=a
   ·exact .inr ⟨_,_,if_pos hb⟩
   ·exact .inl (if_neg hb)
  ·by_cases hb:b=a
   ·have z':=(if_pos hb).symm.trans z
    cases z'
    subst hb
    exact ⟨ha,by rw [List.length_map];exact hl,vs,_,rv,ha⟩
   ·have z':=(if_neg hb).symm.trans z
    cases z'
  ·by_cases hb:b=a
   ·exact hb
   ·exact absurd (if_neg hb) z
structure Fun (K:PySem.W.Frag) (x qual:Str) (st:Stmt) (f:Addr) (fd:FuncData):Prop where
 ex:∃(oc:Value) (od:Option Addr) (kV doc pm:Value) (an:Option Addr) (cdv ct:Value) (osl:Array (Option Value)),
  fd=PySem.W.fnOf x qual (q1r st) (q0Z st) (q0g st) .none kV doc pm an cdv ct/\K.lookup f=some ⟨oc,od,.func fd,osl⟩/\PySem.W.codeIn K cdv qual=true
 kp:PySem.W.keepIn K (.ref f)=true
section
variable {P:Program} {w:World} {K:PySem.W.Frag} {mg:Str->Option Value} {base:Heap}
theorem Fun.binds {x qual:Str} {st:Stmt} {f:Addr} {fd:FuncData} {ps:List Str} (F:Fun K x qual st f fd)
 (h:∀(kV doc pm:Value) (an:Option Addr) (cdv ct:Value) (us:List Value),us.length=ps.length->bindArgs (PySem.W.fnOf x qual (q1r st) (q0Z st) (q0g st) .none kV doc pm an cdv ct) ⟨us,[]⟩=pure (ps.zip us)):Binds K fd ps []:=by
 obtain ⟨oc,od,kV,doc,pm,an,cdv,ct,osl,rfl,lk,hcd⟩:=F.ex
 exact .all (h kV doc pm an cdv ct)
theorem q0r {x qual:Str} {st:Stmt} {f:Addr} {oc:Value} {od an:Option Addr} {osl:Array (Option Value)} {kV doc pm cdv ct:Value} (l:K.lookup f=some ⟨oc,od,.func (PySem.W.fnOf x qual (q1r st) (q0Z st) (q0g st) .none kV doc pm an cdv ct),osl⟩)
 (c:PySem.W.codeIn K cdv qual=true) (k:PySem.W.keepIn K (.ref f)=true):Fun K x qual st f (PySem.W.fnOf x qual (q1r st) (q0Z st) (q0g st) .none kV doc pm an cdv ct):=⟨⟨oc,od,kV,doc,pm,an,cdv,ct,osl,rfl,l,c⟩,k⟩
end
section
variable {X:Cx}
end
noncomputable def Same (H H':Hp):Prop:=∀b o,H b=some o->H' b=some o
theorem Same.refl (H:Hp):Same H H:=λ_ _ h=>h
theorem Same.trans {H H1 H2:Hp} (a:Same H H1) (b:Same H1 H2):Same H H2:=λc o h=>b c o (a c o h)
theorem Same.free {H H':Hp} (e:Same H H') {l:Addr} (h:H' l=Option.none):H l=Option.none:=by
 cases q:H l with
 | none=>rfl
 | some o=>
  rw [e l o q] at h
  cases h
theorem Same.seq {K:PySem.W.Frag} {H H':Hp} {a:Addr} {xs:List V} (e:Same H H') (h:SqL K H a xs):SqL K H' a xs:=by
 rcases h with (h | ⟨o,h⟩) | h
 ·exact .inl (.inl (e _ _ h))
 ·exact .inl (.inr ⟨o,e _ _ h⟩)
 ·exact .inr h
end L2
namespace L3
open PySem PySem.Spec PyProof.Rows L2
inductive Kp (J:Heap->Prop) {α:Type}:Sem α->Prop
 | pure (a:α):Kp J (.pure a)
 | raise (e:Value):Kp J (.raise e)
 | uns (x:String):Kp J (.unsupported x)
 | load {a:Addr} {q:Option Value} {k:Obj->Sem α}:(∀o,Kp J (k o))->Kp J (.load a q k)
 | upd {a:Addr} {q:Option Value} {f:Obj->Obj} {k:Unit->Sem α}:(∀h,J h->J (h.update a f))->Kp J (k ())->Kp J (.update a q f k)
 | alloc {o:Obj} {k:Addr->Sem α}:(∀a,Kp J (k a))->Kp J (.alloc o k)
 | stack {k:List (Code×Pos)->Sem α}:(∀l,Kp J (k l))->Kp J (.stack k)
 | rule {t:String} {k:Unit->Sem α}:Kp J (k ())->Kp J (.rule t k)
section
variable {J:Heap->Prop} {α β:Type}
theorem Kp.bind {m:Sem α} {f:α->Sem β} (h:Kp J m) (hf:∀a,Kp J (f a)):Kp J (m >>= f):=by
 show Kp J (m.bind f)
 induction h with
 | pure a=>exact hf a
 | raise e=>exact .raise e
 | uns x=>exact .uns x
 | load _ ih=>exact .load ih
 | upd h1 _ ih=>exact .upd h1 ih
 | alloc _ ih=>exact .alloc ih
 | stack _ ih=>exact .stack ih
 | rule _ ih=>exact .rule ih
theorem Kp.run {M:Model} {Γ:PySem.Ctx} {t:Sem α} {Q:α->Pos->Shared->Prop} {E:Value->Pos->Shared->Prop} (hp:∀h o,J h->J (h.push o)) (h:Kp J t) :
 ∀(p:Pos) (s:Shared),J s.heap->Sem.wp M Γ t Q E p s->Sem.wp M Γ t (λa p s=>Q a p s/\J s.heap) (λe p s=>E e p s/\J s.heap) p s:=by
 induction h with
 | pure a=>exact λp s j z=>⟨z,j⟩
 | raise e=>exact λp s j z=>⟨z,j⟩
 | uns x=>exact λp s j z=>z
 | load _ ih=>rintro p s j ⟨o,e,z⟩;exact ⟨o,e,ih o p s j z⟩
 | upd h1 _ ih=>rintro p s j ⟨e,z⟩;exact ⟨e,ih p _ (h1 _ j) z⟩
 | alloc _ ih=>exact λp s j z=>ih _ p _ (hp _ _ j) z
 | stack _ ih=>exact λp s j z=>ih _ p s j z
 | rule _ ih=>exact λp s j z=>ih p s j z
theorem Kp.any {M:Model} {A:Around} {t:Sem α} {Q:α->Shared->Prop} {E:Value->Shared->Prop} {s:Shared} (hp:∀h o,J h->J (h.push o)) (h:Kp J t) (j:J s.heap) (z:wpAny M A t Q E s) :
 wpAny M A t (λa s=>Q a s/\J s.heap) (λe s=>E e s/\J s.heap) s:=fun Γ p hΓ=>h.run hp p s j (z Γ p hΓ)
end
noncomputable def Nc (ea:Addr) (h:Heap):Prop:=∃(oe:Obj) (vs:Array Value),h.get? ea=some oe/\oe.data=.fields vs/\vs[2]?=some .none/\oe.dict=none
section
variable {ea:Addr}
theorem q9o {o:Obj} {vs:Array Value} (d:o.data=.fields vs):o.isFreed=false:=by
 obtain ⟨c,dd,da,sl⟩:=o
 have d:da=.fields vs:=d
 subst d
 rfl
theorem Nc.push (h:Heap) (o:Obj) (j:Nc ea h):Nc ea (h.push o):=by
 obtain ⟨oe,vs,e,d,z⟩:=j
 exact ⟨oe,vs,Heap.get?_push_of_some _ e,d,z⟩
theorem Nc.upd {b:Addr} {f:Obj->Obj} (hf:∀o vs,o.data=.fields vs->vs[2]?=some .none->∃ws,(f o).data=.fields ws/\ws[2]?=some .none/\(f o).dict=o.dict) (h:Heap) (j:Nc ea h):Nc ea (h.update b f):=by
 obtain ⟨oe,vs,e,d,z,dn⟩:=j
 by_cases q:b=ea
 ·subst q
  obtain ⟨ws,d',z',dd⟩:=hf oe vs d z
  exact ⟨f oe,ws,Heap.get?_update_self _ e (q9o d'),d',z',dd.trans dn⟩
 ·exact ⟨oe,vs,by rw [Heap.get?_update_other _ _ q];exact e,d,z,dn⟩
theorem Nc.set {i:Nat} {x:Value} (hi:i≠2) (o:Obj) (vs:Array Value) (d:o.data=.fields vs) (z:vs[2]?=some .none):∃ws,(Obj.mapFields (·.setIfInBounds i x) o).data=.fields ws/\ws[2]?=some .none/\(Obj.mapFields (·.setIfInBounds i x) o).dict=o.dict:=by
 obtain ⟨c,dd,da,sl⟩:=o
 have d:da=.fields vs:=d
 subst d
 exact ⟨_,rfl,by rw [Array.getElem?_setIfInBounds_ne hi];exact z,rfl⟩
theorem q42 {v:Value} {J:Heap->Prop}:Kp J (PySem.fieldsOf v):=by
 unfold PySem.fieldsOf
 split
 ·refine Kp.bind (.load λo=>.pure o) λo=>?_
  split
  ·exact .pure _
  ·exact .uns _
 ·exact .uns _
theorem q2K {v:Value} {i:Nat} {J:Heap->Prop}:Kp J (field v i):=by
 unfold field
 refine Kp.bind q42 λvs=>?_
 split
 ·exact .pure _
 ·exact .uns _
theorem q2a {v x:Value} {i:Nat} (hi:i≠2):Kp (Nc ea) (setField v i x):=by
 unfold setField
 split
 ·unfold updateField
  refine Kp.bind (.load λo=>.pure o) λo=>?_
  split
  ·split
   ·exact .upd (Nc.upd λo vs=>Nc.set hi o vs) (.pure ())
   ·exact .uns _
  ·exact .uns _
 ·exact .uns _
theorem q1P {u:Value} {f:Option Addr}:Kp (Nc ea) (setFlight u f):=by
 unfold setFlight
 refine Kp.bind q2K λtb=>?_
 split
 ·exact q2a (by decide)
 ·exact .pure ()
theorem q5N:∀(l:List Env),Kp (Nc ea) (readyFrames l)
 | []=>.pure ()
 | env::outer=>by
  unfold readyFrames
  split
  ·refine Kp.bind (.load λo=>.pure o) λo=>?_
   split
   ·exact .pure ()
   ·refine Kp.bind ?_ λim=>Kp.bind ?_ λback=>Kp.bind (.upd (Nc.upd λo vs d z=>⟨vs,d,z,rfl⟩) (.pure ())) λ_=>q5N outer
    ·unfold behindIsImport
     split
     ·exact .pure _
     ·split
      ·exact .pure _
      ·exact Kp.bind q2K λ_=>.pure _
    ·unfold keptBack
     split
     ·split
      ·exact .pure _
      ·exact Kp.bind (Kp.bind (.stack λl=>.pure l) λ_=>.pure _) λ_=>.pure _
     ·exact .pure _
  ·exact .uns _
theorem q6M {env:Env}:Kp (Nc ea) (PySem.frameOf env):=by
 unfold PySem.frameOf
 refine Kp.bind (Kp.bind (.stack λl=>.pure l) λ_=>.pure _) λl=>Kp.bind ?_ λo=>?_
 ·unfold frameObject
  split
  ·exact .pure _
  ·exact Kp.bind (q5N _) λ_=>.pure _
 ·split
  ·exact .pure _
  ·exact .uns _
theorem q4t (vs:List Value):Kp (Nc ea) (newFields "traceback" vs):=by
 unfold newFields newObj
 have fin:∀d,Kp (Nc ea) (newObjAsIs (.type "traceback") d none):=λd=>Kp.bind (.alloc λa=>.pure a) λa=>.pure _
 dsimp only
 split
 ·exact Kp.bind (.uns _) λ_=>fin _
 ·exact fin _
theorem q2B {u:Value} {env:Env}:Kp (Nc ea) (noteFrame u env):=by
 unfold noteFrame
 split
 ·refine Kp.bind q2K λhead=>?_
  rename_i f _
  have last:Kp (Nc ea) (do setField u 1 (<-EntryCells.newEntry head (<-PySem.frameOf env) .none (rawInt f) .none (<-entryPlaceOf f (head != .none)))):=by
   refine Kp.bind q6M λfr=>Kp.bind ?_ λpl=>Kp.bind ?_ λtb=>q2a (by decide)
   ·unfold entryPlaceOf
    refine Kp.bind (.stack λl=>.pure l) λacts=>?_
    split
    ·exact .pure _
    ·exact .pure _
   ·exact q4t _
  split
  ·refine Kp.bind q2K λx=>?_
   split
   ·exact .pure ()
   ·exact Kp.bind (q2a (by decide)) λ_=>last
  ·exact last
 ·exact .uns _
theorem q7a {u:Value} {env:Env}:Kp (Nc ea) (leaving env u):=Kp.bind q2B λ_=>q1P
end
structure j6K (K:PySem.W.Frag) (C:Addr):Prop where
 ga:PySem.W.findIn K (.ref C) "__getattribute__" = some (some (.builtin "BaseException.__getattribute__"))
 gh:PySem.W.findIn K (.ref C) "__getattr__" = some none
 ha:PySem.W.findIn K (.ref C) "__class__" = some (some (.builtin "object.__class__"))
 hn:PySem.W.specialIn K (.builtin "object.__class__") "__get__" = some (some (.builtin "getset_descriptor.__get__"))
 htk:PySem.W.takesIn K (.builtin "object.__class__")=some true
 hm:PySem.W.mroIn K C (.type "object")=some true
 hb:PySem.W.mroIn K C (.type "BaseException")=some true
noncomputable def j31 (x C:Addr) (h:Heap):Prop:=∃o,PySem.W.InstAt h x o C none
section
variable {K:PySem.W.Frag} {x C:Addr}
theorem j0k {prog:Program} {w:World} {A:Around} {E:Value->Shared->Prop} {Q:Fin->Shared->Prop} {s:Shared} {tk:Tok} (F:j6K K C) (X:K.In s.heap) (p:j31 x C s.heap) (hq:Q (.done (.ret (.ref C))) s) :
 wpAny (model prog w) A (Builtin.«object.__getattribute__» ⟨[.ref x,.str "__class__" tk],[]⟩) Q E s:=by
 obtain ⟨o,I⟩:=p
 have hc:(PySem.W.clsIn K C).isSome=true:=by
  obtain ⟨cd,h,_⟩:=Option.bind_eq_some_iff.mp F.hm
  rw [h];rfl
 have hf:PySem.W.findObj K C none "__class__" = some (.bind (.builtin "getset_descriptor.__get__") (.builtin "object.__class__")):=by
  obtain ⟨cd,hc⟩:=Option.isSome_iff_exists.mp hc
  unfold PySem.W.findObj
  rw [hc,Option.bind_some,F.ha,Option.bind_some]
  simp [F.hn,F.htk]
 have L0:=I.type (M:=model prog w)
 have L1:=PySem.W.looks_find (M:=model prog w) X I hf
 unfold Builtin.«object.__getattribute__»
 refine wpAny_bind (m:=slotArgs _ _ _) (wpAny_pure ?_)
 refine wpAny_bind (wpAny_pure ?_)
 refine wpAny_bind (L0.at (wpAny_bind (L1.at ?_)))
 show wpAny _ _ (holding [_] (call _ _) >>= ret) _ _ _
 exact wpAny_bind (wpAny_holding (wpAny_call (PySem.W.class_get X I F.hm (wpAny_pure hq))))
theorem q8C {prog:Program} {w:World} {A:Around} {E:Value->Shared->Prop} {Q:Option Value->Shared->Prop} {s:Shared} (F:j6K K C) (X:K.In s.heap) (p:j31 x C s.heap) (hq:Q (some (.ref C)) { s with toks:=s.toks+1 }) :
 wpAny (model prog w) A (getAttr? (.ref x) "__class__") Q E s:=by
 have p2:=p
 obtain ⟨o,I⟩:=p
 have L0:=I.type (M:=model prog w)
 have L1:=PySem.W.looks_findIn (M:=model prog w) X F.ga
 have L2:=PySem.W.looks_findIn (M:=model prog w) X F.gh
 have LB:=PySem.W.looks_mroIn (M:=model prog w) X F.hb
 have ne:¬(onTheHeap (Value.ref C) && Value.builtin "BaseException.__getattribute__"==Value.builtin "object.__getattribute__")=true:=by
  have:(Value.builtin "BaseException.__getattribute__"==Value.builtin "object.__getattribute__")=false:=by decide +kernel
  rw [this];simp
 unfold getAttr? getAttrBy? getAttrBy
 refine wpAny_bind (wpAny_mkText (wpAny_bind (wpAny_attempt (wpAny_holding (wpAny_bind (L0.at (wpAny_bind (L1.at ?_))))))))
 dsimp only
 rw [if_neg ne]
 unfold getAttrByItsOwn hookBefore
 refine wpAny_bind ?_
 rw [if_pos (show onTheHeap (Value.ref C)=true from rfl)]
 refine L2.at ?_
 refine wpAny_bind (wpAny_attempt (wpAny_holding ?_))
 unfold callGetattribute
 rw [if_neg (by simp)]
 unfold boundAndCalled
 have f3:=PySem.F.excAttr_ValueError.ga.bind (.ref x)
 rw [f3]
 refine wpAny_bind (wpAny_pure ?_)
 have hk:builtinKind "BaseException.__getattribute__" = some .slot:=by decide +kernel
 have hsplit:splitId "BaseException.__getattribute__" = some ("BaseException","__getattribute__"):=by decide +kernel
 refine wpAny_call (codeAny_call_builtin PySem.F.excAttr_ValueError.ga.plain PySem.F.entry_bexc_ga ?_)
 have ha:=PySem.F.args_bexc_ga (.ref x) (.str "__class__" s.toks)
 simp only [checkBuiltinCall,hk,hsplit]
 refine wpAny_bind ?_
 unfold isInstance
 refine wpAny_bind (L0.at (LB.at ?_))
 rw [if_neg (by simp)]
 refine wpAny_of_eq (a:=()) ha ?_
 exact j0k (s:={ s with toks:=s.toks+1 }) F X p2 (PySem.W.handed_on rfl (wpAny_pure hq))
theorem j0y (F:j6K K C):PySem.W.KitX K (.ref x) (.ref C) (j31 x C) where
 ty:=λ_ _ _ ⟨_,I⟩=>I.type
 it:=λ_ _ X _=>by
  obtain ⟨cdD,hcD,_⟩:=Option.bind_eq_some_iff.mp F.hm
  unfold PySem.W.clsIn at hcD
  split at hcD
  ·rename_i c' d' cd' sl' ho
   intro A' Q' E' s' k q
   unfold isType loadHead
   exact wpAny_bind (wpAny_loadPart (k _ _ (X _ _ ho)) (wpAny_pure q))
  ·cases hcD
 ne:=λh tp dd its n sl X htp=>by
  obtain ⟨cdD,hcD,_⟩:=Option.bind_eq_some_iff.mp F.hm
  refine Bool.eq_false_iff.mpr λq=>?_
  have e:C=tp:=Value.ref.inj (beq_iff_eq.mp q)
  subst e
  unfold PySem.W.clsIn at hcD
  split at hcD
  ·rename_i c' d' cd' sl' ho
   have z:=(X _ _ ho).symm.trans htp
   cases z
  ·cases hcD
 ca:=λX p k=>q8C F X p k
end
inductive D where
 | non | bl (b:Bool) | int (i:Int) | str (x:Str)
 | tup (ds:List D) | lst (ds:List D) | ins (c:Nat) (ds:List D) | exc (c:Nat)
inductive Out (α:Type) where
 | ok (a:α) | exc (c:Nat) | bad
noncomputable def Out.bind {α β:Type}:Out α->(α->Out β)->Out β
 | .ok a,k=>k a
 | .exc c,_=>.exc c
 | .bad,_=>.bad
@[simp] theorem Out.ok_bind {α β:Type} (a:α) (k:α->Out β):(Out.ok a).bind k=k a:=(rfl)
@[simp] theorem Out.exc_bind {α β:Type} (c:Nat) (k:α->Out β):(Out.exc c:Out α).bind k=.exc c:=(rfl)
@[simp] theorem Out.bad_bind {α β:Type} (k:α->Out β):(Out.bad:Out α).bind k=.bad:=(rfl)
structure Tb where
 ca:Nat->Addr
 fa:Addr->List Str
 me:Option Addr:=none
 mo:Option Addr:=none
noncomputable def Tb.fl (T:Tb) (c:Nat):List Str:=T.fa (T.ca c)
section
variable (T:Tb) (K:PySem.W.Frag)
noncomputable def FzL (K:PySem.W.Frag) (H:Hp) (a:Addr) (xs:List V):Prop:=
 (∃o,H a=some (.frz o (.lst xs))) ∨
  ∃(o:Obj) (its:Array Value) (n:Nat),K.lookup a=some o/\o.cls=.type "list"/\o.dict=none/\o.data=.seq its n/\its.size<=sizeLine/\Vals xs its.toList
theorem FzL.sq {K:PySem.W.Frag} {H:Hp} {a:Addr} {xs:List V} (h:FzL K H a xs):SqL K H a xs:=by
 rcases h with h | h
 ·exact .inl (.inr h)
 ·exact .inr h
mutual
noncomputable def Rep (T:Tb) (K:PySem.W.Frag) (H:Hp):D->V->Prop
 | .non,v=>v=.non
 | .bl b,v=>v=.bl b
 | .int i,v=>v=.int i
 | .str x,v=>v=.str x
 | .tup ds,v=>∃a vs,v=.ref a/\SqT K H a vs/\RepL T K H ds vs
 | .lst ds,v=>∃a vs,v=.ref a/\FzL K H a vs/\RepL T K H ds vs
 | .ins c ds,v=>∃a dx fs,v=.ref a/\H a=some (.ins (T.ca c) dx fs)/\fs.map (·.1)=T.fl c/\RepL T K H ds (fs.map (·.2))
 | .exc c,v=>∃a o,v=.ref a/\H a=some (.frz o (.ext λ_=>True))/\o.cls=.ref (T.ca c)/\PySem.W.notCls o=true/\o.dict=none
noncomputable def RepL (T:Tb) (K:PySem.W.Frag) (H:Hp):List D->List V->Prop
 | [],vs=>vs=[]
 | d::ds,vs=>∃v r,vs=v::r/\Rep T K H d v/\RepL T K H ds r
end
end
section
variable {T:Tb} {K:PySem.W.Frag} {H H':Hp}
theorem Same.sqT {a:Addr} {xs:List V} (e:Same H H') (h:SqT K H a xs):SqT K H' a xs:=by
 rcases h with (h | ⟨o,h⟩) | h
 ·exact .inl (.inl (e _ _ h))
 ·exact .inl (.inr ⟨o,e _ _ h⟩)
 ·exact .inr h
theorem Same.fz {a:Addr} {xs:List V} (e:Same H H') (h:FzL K H a xs):FzL K H' a xs:=by
 rcases h with ⟨o,h⟩ | h
 ·exact .inl ⟨o,e _ _ h⟩
 ·exact .inr h
mutual
theorem Rep.mono (e:Same H H'):∀(d:D) (v:V),Rep T K H d v->Rep T K H' d v
 | .non,_,h=>h
 | .bl _,_,h=>h
 | .int _,_,h=>h
 | .str _,_,h=>h
 | .tup ds,_,h=>by
  obtain ⟨a,vs,r1,r2,r3⟩:=h
  exact ⟨a,vs,r1,Same.sqT e r2,RepL.mono e ds vs r3⟩
 | .lst ds,_,h=>by
  obtain ⟨a,vs,r1,r2,r3⟩:=h
  exact ⟨a,vs,r1,Same.fz e r2,RepL.mono e ds vs r3⟩
 | .ins c ds,_,h=>by
  obtain ⟨a,dx,fs,r1,r2,r3,r4⟩:=h
  exact ⟨a,dx,fs,r1,e _ _ r2,r3,RepL.mono e ds _ r4⟩
 | .exc c,_,h=>by
  obtain ⟨a,o,r1,r2,r3⟩:=h
  exact ⟨a,o,r1,e _ _ r2,r3⟩
theorem RepL.mono (e:Same H H'):∀(ds:List D) (vs:List V),RepL T K H ds vs->RepL T K H' ds vs
 | [],_,h=>h
 | d::ds,_,h=>by
  obtain ⟨v,r,r1,r2,r3⟩:=h
  exact ⟨v,r,r1,Rep.mono e d v r2,RepL.mono e ds r r3⟩
end
mutual
theorem q1h {T:Tb} {K:PySem.W.Frag} {H:Hp} {z u:Option Addr}:∀(d:D) (v:V),Rep { T with me:=z,mo:=u } K H d v↔Rep T K H d v
 | .non,_=>Iff.rfl
 | .bl _,_=>Iff.rfl
 | .int _,_=>Iff.rfl
 | .str _,_=>Iff.rfl
 | .tup ds,_=>⟨λ⟨a,vs,r1,r2,r3⟩=>⟨a,vs,r1,r2,(repL_me ds vs).mp r3⟩,λ⟨a,vs,r1,r2,r3⟩=>⟨a,vs,r1,r2,(repL_me ds vs).mpr r3⟩⟩
 | .lst ds,_=>⟨λ⟨a,vs,r1,r2,r3⟩=>⟨a,vs,r1,r2,(repL_me ds vs).mp r3⟩,λ⟨a,vs,r1,r2,r3⟩=>⟨a,vs,r1,r2,(repL_me ds vs).mpr r3⟩⟩
 | .ins c ds,_=>⟨λ⟨a,dx,fs,r1,r2,r3,r4⟩=>⟨a,dx,fs,r1,r2,r3,(repL_me ds _).mp r4⟩,λ⟨a,dx,fs,r1,r2,r3,r4⟩=>⟨a,dx,fs,r1,r2,r3,(repL_me ds _).mpr r4⟩⟩
 | .exc c,_=>Iff.rfl
theorem repL_me {T:Tb} {K:PySem.W.Frag} {H:Hp} {z u:Option Addr}:∀(ds:List D) (vs:List V),RepL { T with me:=z,mo:=u } K H ds vs↔RepL T K H ds vs
 | [],_=>Iff.rfl
 | d::ds,_=>⟨λ⟨v,r,r1,r2,r3⟩=>⟨v,r,r1,(q1h d v).mp r2,(repL_me ds r).mp r3⟩,λ⟨v,r,r1,r2,r3⟩=>⟨v,r,r1,(q1h d v).mpr r2,(repL_me ds r).mpr r3⟩⟩
end
theorem RepL.length:∀(ds:List D) (vs:List V),RepL T K H ds vs->vs.length=ds.length
 | [],_,h=>by cases h;rfl
 | d::ds,_,h=>by
  obtain ⟨v,r,rfl,_,h3⟩:=h
  simp [RepL.length ds r h3]
theorem RepL.get:∀(ds:List D) (vs:List V) (i:Nat) (d:D),RepL T K H ds vs->ds[i]?=some d->∃v,vs[i]?=some v/\Rep T K H d v
 | [],_,_,_,_,e=>by simp at e
 | d::ds,_,0,x,h,e=>by
  obtain ⟨v,r,rfl,h2,_⟩:=h
  simp at e;subst e
  exact ⟨v,rfl,h2⟩
 | d::ds,_,i+1,x,h,e=>by
  obtain ⟨v,r,rfl,_,h3⟩:=h
  obtain ⟨u,e1,e2⟩:=RepL.get ds r i x h3 (by simpa using e)
  exact ⟨u,by simpa using e1,e2⟩
theorem RepL.append:∀(ds:List D) (vs:List V) (es:List D) (us:List V),RepL T K H ds vs->RepL T K H es us->RepL T K H (ds++es) (vs++us)
 | [],_,_,_,h,h'=>by cases h;exact h'
 | d::ds,_,es,us,h,h'=>by
  obtain ⟨v,r,rfl,h2,h3⟩:=h
  exact ⟨v,r++us,rfl,h2,RepL.append ds r es us h3 h'⟩
theorem RepL.set:∀(ds:List D) (vs:List V) (i:Nat) (d:D) (v:V),RepL T K H ds vs->Rep T K H d v->RepL T K H (ds.set i d) (vs.set i v)
 | [],_,_,_,_,h,_=>by cases h;exact rfl
 | d::ds,_,0,x,y,h,q=>by
  obtain ⟨v,r,rfl,_,h3⟩:=h
  exact ⟨y,r,rfl,q,h3⟩
 | d::ds,_,i+1,x,y,h,q=>by
  obtain ⟨v,r,rfl,h2,h3⟩:=h
  exact ⟨v,r.set i y,rfl,h2,RepL.set ds r i x y h3 q⟩
theorem RepL.drop:∀(n:Nat) (ds:List D) (vs:List V),RepL T K H ds vs->RepL T K H (ds.drop n) (vs.drop n)
 | 0,_,_,h=>h
 | _+1,[],_,h=>by cases h;exact rfl
 | n+1,d::ds,_,h=>by
  obtain ⟨v,r,rfl,_,h3⟩:=h
  exact RepL.drop n ds r h3
theorem RepL.take:∀(n:Nat) (ds:List D) (vs:List V),RepL T K H ds vs->RepL T K H (ds.take n) (vs.take n)
 | 0,_,_,_=>rfl
 | _+1,[],_,h=>by cases h;exact rfl
 | n+1,d::ds,_,h=>by
  obtain ⟨v,r,rfl,h2,h3⟩:=h
  exact ⟨v,r.take n,rfl,h2,RepL.take n ds r h3⟩
theorem RepL.ints (ns:List Int):RepL T K H (ns.map D.int) (ns.map V.int):=by
 induction ns with
 | nil=>exact rfl
 | cons n ns ih=>exact ⟨.int n,ns.map V.int,rfl,rfl,ih⟩
end
noncomputable abbrev WK:=Int×List Int×Int
noncomputable abbrev KI:=Sum Int (List Int)
@[simp] noncomputable def w1O (k:WK):List KI:=[.inl k.1,.inr k.2.1,.inl k.2.2]
noncomputable abbrev WE:=WK×Addr×Value
@[simp] noncomputable def w01 (k:WK):D:=.tup [.int k.1,.tup (k.2.1.map D.int),.int k.2.2]
noncomputable def kiH:KI->Int
 | .inl i=>hashInt i
 | .inr is=>reduceHash (Builtin.Tuple.tupleHashOf (is.map hashInt))
noncomputable def w15 (x:WE):DictEntry:=⟨reduceHash (Builtin.Tuple.tupleHashOf ((w1O x.1).map kiH)),.ref x.2.1,x.2.2⟩
noncomputable def w1C (d:Addr) (xs:List WE) (h:Heap):Prop:=∃o es ep,h.get? d=some o/\o.ExactDict/\o.data=.dict es ep/\es.toList=xs.map w15/\(xs.map (·.1)).Nodup
noncomputable def j8Z (kvs:List (WK×Bool)) (xs:List WE):Prop:=xs.map (λe=>(e.1,e.2.2))=kvs.map (λq=>(q.1,Value.bool q.2))
inductive Sl where
 | no | sh (d:D) | ow (ds:List D) | bo (ds:List D) | me (c:Nat) (ds:List D)
 | ox (t:Bool) (pre ds post:List D)
 | od (kvs:List (WK×Bool)) | mo (ds:List D) | lm (ms:List (Option Nat×List D)) | bi (c:Nat) (ds:List D)
inductive Rv where
 | sh (d:D) | fr (ds:List D)
 | tf (t:Bool) (pre ds post:List D)
noncomputable abbrev Ro:=List Sl
noncomputable def OutAt (H:Hp):Bool->Addr->List V->Prop
 | true,a,us=>H a=some (.tup us)
 | false,a,us=>∃o,H a=some (.frz o (.lst us))
theorem OutAt.uniq {H:Hp} {t:Bool} {a:Addr} {us ws:List V} (h:OutAt H t a us) (h':OutAt H t a ws):us=ws:=by
 cases t with
 | true=>
  have h:H a=some (.tup us):=h
  have h':H a=some (.tup ws):=h'
  rw [h] at h';cases h';rfl
 | false=>
  obtain ⟨o,h⟩:=h
  obtain ⟨o',h'⟩:=h'
  rw [h] at h';cases h';rfl
theorem OutAt.keep {H H':Hp} {t:Bool} {a:Addr} {us:List V} (k:∀o,H a=some o->(∀xs,o≠.lst xs)->(∀c dx fs,o≠.ins c dx fs)->H' a=some o) (h:OutAt H t a us):OutAt H' t a us:=by
 cases t with
 | true=>exact k _ h (λ_ z=>by cases z) (λ_ _ _ z=>by cases z)
 | false=>
  obtain ⟨o,h⟩:=h
  exact ⟨o,k _ h (λ_ z=>by cases z) (λ_ _ _ z=>by cases z)⟩
theorem OutAt.nlst {H:Hp} {t:Bool} {a:Addr} {us ws:List V} (h:OutAt H t a us):H a≠some (.lst ws):=λz=>by
 cases t with
 | true=>
  have h:H a=some (.tup us):=h
  rw [h] at z;cases z
 | false=>
  obtain ⟨o,h⟩:=h
  rw [h] at z;cases z
noncomputable def InsAt (T:Tb) (K:PySem.W.Frag) (H:Hp) (c:Nat) (a:Addr) (ds:List D):Prop:=∃dx fs,H a=some (.ins (T.ca c) dx fs)/\fs.map (·.1)=(T.fl c).take ds.length/\ds.length < (T.fl c).length/\RepL T K H ds (fs.map (·.2))
noncomputable def MuAt (T:Tb) (K:PySem.W.Frag) (G H:Hp) (v:V):Option Nat×List D->Prop
 | (none,ds)=>∃a vs,v=.ref a/\H a=some (.lst vs)/\G a=none/\RepL T K H ds vs
 | (some c,ds)=>∃a,v=.ref a/\T.me≠some a/\G a=none/\InsAt T K H c a ds
noncomputable def SlOk (T:Tb) (K:PySem.W.Frag) (G H:Hp) (x:Option (Option V)):Sl->Prop
 | .no=>True
 | .sh d=>∃v,x=some (some v)/\Rep T K H d v
 | .ow ds=>∃a vs,x=some (some (.ref a))/\H a=some (.lst vs)/\G a=none/\RepL T K H ds vs
 | .bo ds=>∃a vs,x=some (some (.ref a))/\G a=some (.lst vs)/\RepL T K H ds vs
 | .me c ds=>∃a dx fs,T.me=some a/\x=some (some (.ref a))/\H a=some (.ins (T.ca c) dx fs)/\G a=none/\fs.map (·.1)=(T.fl c).take ds.length/\RepL T K H ds (fs.map (·.2))
 | .ox t pre ds post=>∃a vp b vq ws,x=some (some (.ref a))/\OutAt H t a (vp++.ref b::vq)/\RepL T K H pre vp/\RepL T K H post vq/\H b=some (.lst ws)/\G b=none/\RepL T K H ds ws
 | .od kvs=>∃d xs,x=some (some (.ref d))/\H d=some (.ext (w1C d xs))/\G d=none/\(d==sysModules)=false/\j8Z kvs xs/\∀e∈xs,Rep T K H (w01 e.1) (.ref e.2.1)
 | .mo ds=>∃a vs,T.mo=some a/\x=some (some (.ref a))/\H a=some (.lst vs)/\G a=none/\RepL T K H ds vs
 | .lm ms=>∃a us,x=some (some (.ref a))/\OutAt H false a us/\us.length=ms.length/\(∀(i:Nat) (m:Option Nat×List D) (v:V),ms[i]?=some m->us[i]?=some v->MuAt T K G H v m)/\∀(i j:Nat) (v:V),us[i]?=some v->us[j]?=some v->i=j
 | .bi c ds=>∃a dx fs,x=some (some (.ref a))/\G a=some (.ins (T.ca c) dx fs)/\fs.map (·.1)=(T.fl c).take ds.length/\ds.length < (T.fl c).length/\RepL T K H ds (fs.map (·.2))
noncomputable def q38 (H:Hp) (x:Option (Option V)) (b:Addr):Sl->Prop
 | .ow _=>x=some (some (.ref b))
 | .mo _=>x=some (some (.ref b))
 | .lm ms=>∃(a:Addr) (us:List V) (i:Nat) (ks:List D),x=some (some (.ref a))/\OutAt H false a us/\us[i]?=some (.ref b)/\ms[i]?=some (none,ks)
 | .ox t pre _ _=>∃a us,x=some (some (.ref a))/\OutAt H t a us/\us[pre.length]?=some (.ref b)
 | _=>False
structure FR (T:Tb) (K:PySem.W.Frag) (G H:Hp) (σ:L2.St) (ρ:Ro):Prop where
 same:Same G H
 len:ρ.length=σ.length
 sl:∀(i:Nat) (s:Sl),ρ[i]?=some s->SlOk T K G H σ[i]? s
 ne:∀(i j:Nat) (s t:Sl) (b:Addr),i≠j->ρ[i]?=some s->ρ[j]?=some t->q38 H σ[i]? b s->q38 H σ[j]? b t->False
 me:∀x,T.me=some x->σ[0]?=some (some (.ref x))
 me0:∀(i:Nat) (c:Nat) (ds:List D),ρ[i]?=some (.me c ds)->i=0
noncomputable def q5H (T:Tb) (K:PySem.W.Frag) (G H:Hp) (v:V):Rv->Prop
 | .sh d=>Rep T K H d v
 | .fr ds=>∃a vs,v=.ref a/\H a=some (.lst vs)/\G a=none/\RepL T K H ds vs
 | .tf t pre ds post=>∃a vp b vq ws,v=.ref a/\OutAt H t a (vp++.ref b::vq)/\RepL T K H pre vp/\RepL T K H post vq/\H b=some (.lst ws)/\G b=none/\RepL T K H ds ws
section
variable {T:Tb} {K:PySem.W.Frag} {G H H':Hp} {σ:L2.St} {ρ:Ro}
theorem InsAt.mono {c:Nat} {a:Addr} {ds:List D} (e:Same H H') (h:InsAt T K H c a ds):InsAt T K H' c a ds:=by
 obtain ⟨dx,fs,e1,e2,e3,r⟩:=h
 exact ⟨dx,fs,e _ _ e1,e2,e3,RepL.mono e _ _ r⟩
theorem MuAt.mono {v:V}:∀{m:Option Nat×List D},Same H H'->MuAt T K G H v m->MuAt T K G H' v m
 | (none,_),e,⟨a,vs,e1,e2,e3,r⟩=>⟨a,vs,e1,e _ _ e2,e3,RepL.mono e _ _ r⟩
 | (some _,_),e,⟨a,e1,e2,e3,r⟩=>⟨a,e1,e2,e3,r.mono e⟩
theorem SlOk.mono {x:Option (Option V)} {s:Sl} (e:Same H H') (h:SlOk T K G H x s):SlOk T K G H' x s:=by
 cases s with
 | no=>trivial
 | sh d=>
  obtain ⟨v,e1,r⟩:=h
  exact ⟨v,e1,Rep.mono e _ _ r⟩
 | ow ds=>
  obtain ⟨a,vs,e1,e2,e3,r⟩:=h
  exact ⟨a,vs,e1,e _ _ e2,e3,RepL.mono e _ _ r⟩
 | bo ds=>
  obtain ⟨a,vs,e1,e2,r⟩:=h
  exact ⟨a,vs,e1,e2,RepL.mono e _ _ r⟩
 | me c ds=>
  obtain ⟨a,dx,fs,e0,e1,e2,e3,e4,r⟩:=h
  exact ⟨a,dx,fs,e0,e1,e _ _ e2,e3,e4,RepL.mono e _ _ r⟩
 | ox t pre ds post=>
  obtain ⟨a,vp,b,vq,ws,e1,e2,r1,r2,e3,e4,r3⟩:=h
  exact ⟨a,vp,b,vq,ws,e1,e2.keep λo q _ _=>e _ _ q,RepL.mono e _ _ r1,RepL.mono e _ _ r2,e _ _ e3,e4,RepL.mono e _ _ r3⟩
 | mo ds=>
  obtain ⟨a,vs,e0,e1,e2,e3,r⟩:=h
  exact ⟨a,vs,e0,e1,e _ _ e2,e3,RepL.mono e _ _ r⟩
 | od kvs=>
  obtain ⟨d,xs,e1,e2,e3,e4,e5,e6⟩:=h
  exact ⟨d,xs,e1,e _ _ e2,e3,e4,e5,λq hq=>Rep.mono e _ _ (e6 q hq)⟩
 | lm ms=>
  obtain ⟨a,us,e1,e2,e3,e4,e5⟩:=h
  exact ⟨a,us,e1,e2.keep λo q _ _=>e _ _ q,e3,λi m v q1 q2=>MuAt.mono e (e4 i m v q1 q2),e5⟩
 | bi c ds=>
  obtain ⟨a,dx,fs,e1,e2,e3,e4,r⟩:=h
  exact ⟨a,dx,fs,e1,e2,e3,e4,RepL.mono e _ _ r⟩
theorem SlOk.own {x:Option (Option V)} {s:Sl} {b:Addr} (h:SlOk T K G H x s) (o:q38 H x b s):(∃ws,H b=some (.lst ws))/\G b=none:=by
 cases s with
 | ow ds=>
  obtain ⟨a,vs,e1,e2,e3,r⟩:=h
  have o:x=some (some (.ref b)):=o
  rw [e1] at o;cases o
  exact ⟨⟨vs,e2⟩,e3⟩
 | ox t pre ds post=>
  obtain ⟨a,vp,c,vq,ws,e1,e2,r1,r2,e3,e4,r3⟩:=h
  obtain ⟨a',us,o1,o2,o3⟩:=o
  rw [e1] at o1;cases o1
  have:=e2.uniq o2
  subst this
  rw [<-RepL.length _ _ r1,List.getElem?_append_right (Nat.le_refl _),Nat.sub_self] at o3
  have o3:(some (V.ref c))=some (.ref b):=o3
  cases o3
  exact ⟨⟨ws,e3⟩,e4⟩
 | mo ds=>
  obtain ⟨a,vs,_,e1,e2,e3,r⟩:=h
  have o:x=some (some (.ref b)):=o
  rw [e1] at o;cases o
  exact ⟨⟨vs,e2⟩,e3⟩
 | lm ms=>
  obtain ⟨a,us,e1,e2,e3,e4,e5⟩:=h
  obtain ⟨a',us',i,ks,o1,o2,o3,o4⟩:=o
  rw [e1] at o1;cases o1
  have:=e2.uniq o2
  subst this
  obtain ⟨c,vs,q,q1,q2,_⟩:=e4 i _ _ o4 o3
  cases q
  exact ⟨⟨vs,q1⟩,q2⟩
 | _=>exact o.elim
theorem SlOk.back {x:Option (Option V)} {s:Sl} {b:Addr} (h:SlOk T K G H x s) (k:∀a o,H a=some o->(∀xs,o≠.lst xs)->(∀c dx fs,o≠.ins c dx fs)->H' a=some o) (o:q38 H' x b s):q38 H x b s:=by
 cases s with
 | ow ds=>exact o
 | mo ds=>exact o
 | lm ms=>
  obtain ⟨a,us,e1,e2,_⟩:=h
  obtain ⟨a',us',i,ks,o1,o2,o3,o4⟩:=o
  rw [e1] at o1;cases o1
  have:=(e2.keep (k a)).uniq o2
  subst this
  exact ⟨a,_,i,ks,e1,e2,o3,o4⟩
 | ox t pre ds post=>
  obtain ⟨a,vp,c,vq,ws,e1,e2,r1,r2,e3,e4,r3⟩:=h
  obtain ⟨a',us,o1,o2,o3⟩:=o
  rw [e1] at o1;cases o1
  have:=(e2.keep (k a)).uniq o2
  subst this
  exact ⟨a,_,e1,e2,o3⟩
 | _=>exact o.elim
theorem SlOk.off {x:Option (Option V)} {s:Sl} {a:Addr} {vs:List V} {o:HO} (e2:H a=some (.lst vs)) (tr:∀ds us,RepL T K H ds us->RepL T K (upd H a o) ds us) (hn:¬q38 H x a s) (h:SlOk T K G H x s):SlOk T K G (upd H a o) x s:=by
 have kp:∀{b:Addr} {u:HO},H b=some u->(∀xs,u≠.lst xs)->upd H a o b=some u:=λ{b u} w n=>by
  rw [q0i (λz=>by subst z;rw [e2] at w;cases w;exact n _ rfl)];exact w
 have ik:∀{b:Addr} {c:Nat} {ds:List D},InsAt T K H c b ds->InsAt T K (upd H a o) c b ds:=λ⟨dx,fs,z1,z2,z3,z4⟩=>⟨dx,fs,kp z1 (λ_ z=>by cases z),z2,z3,tr _ _ z4⟩
 have t1:∀{d:D} {v:V},Rep T K H d v->Rep T K (upd H a o) d v:=λ{d v} z2=>by
  obtain ⟨_,_,q,r,_⟩:=tr [d] [v] ⟨v,[],rfl,z2,rfl⟩
  cases q
  exact r
 cases s with
 | no=>trivial
 | sh d=>
  obtain ⟨v,z1,z2⟩:=h
  exact ⟨v,z1,t1 z2⟩
 | od kvs=>
  obtain ⟨d,xs,z1,z2,z3,z4,z5,z6⟩:=h
  exact ⟨d,xs,z1,kp z2 (λ_ z=>by cases z),z3,z4,z5,λq hq=>t1 (z6 q hq)⟩
 | ow es=>
  obtain ⟨b,ws,z1,z2,z3,z4⟩:=h
  exact ⟨b,ws,z1,by rw [q0i (λz=>by subst z;exact hn z1)];exact z2,z3,tr _ _ z4⟩
 | mo es=>
  obtain ⟨b,ws,z0,z1,z2,z3,z4⟩:=h
  exact ⟨b,ws,z0,z1,by rw [q0i (λz=>by subst z;exact hn z1)];exact z2,z3,tr _ _ z4⟩
 | bo es=>obtain ⟨b,ws,z1,z2,z4⟩:=h;exact ⟨b,ws,z1,z2,tr _ _ z4⟩
 | bi c es=>obtain ⟨b,dx,fs,z1,z2,z3,z4,z5⟩:=h;exact ⟨b,dx,fs,z1,z2,z3,z4,tr _ _ z5⟩
 | me c es=>
  obtain ⟨b,dx,fs,z0,z1,z2,z3,z4,z5⟩:=h
  exact ⟨b,dx,fs,z0,z1,kp z2 (λ_ z=>by cases z),z3,z4,tr _ _ z5⟩
 | lm ms=>
  obtain ⟨c,us,z1,z2,z3,z4,z5⟩:=h
  refine ⟨c,us,z1,z2.keep λu w n _=>kp w n,z3,λi m v q1 q2=>?_,z5⟩
  have z:=z4 i m v q1 q2
  match m,q1,z with
  | (none,ks),q1,⟨b,ws,y1,y2,y3,y4⟩=>
   subst y1
   exact ⟨b,ws,rfl,by rw [q0i (λy=>by subst y;exact hn ⟨c,us,i,ks,z1,z2,q2,q1⟩)];exact y2,y3,tr _ _ y4⟩
  | (some k,ks),q1,⟨b,y1,y2,y3,y4⟩=>exact ⟨b,y1,y2,y3,ik y4⟩
 | ox t pre es post=>
  obtain ⟨c,vp,b,vq,ws,z1,z2,z3,z4,z5,z6,z7⟩:=h
  have hab:b≠a:=λz=>hn ⟨c,_,z1,z2,by rw [<-RepL.length _ _ z3,List.getElem?_append_right (Nat.le_refl _),Nat.sub_self,z];rfl⟩
  exact ⟨c,vp,b,vq,ws,z1,z2.keep λu w n _=>kp w n,tr _ _ z3,tr _ _ z4,by rw [q0i hab];exact z5,z6,tr _ _ z7⟩
theorem FR.mono (e:Same H H') (h:FR T K G H σ ρ):FR T K G H' σ ρ:=⟨h.same.trans e,h.len,λi s q=>SlOk.mono e (h.sl i s q),λi j s t b hij q1 q2 o1 o2=>h.ne i j s t b hij q1 q2 ((h.sl i s q1).back (λa o z _ _=>e a o z) o1) ((h.sl j t q2).back (λa o z _ _=>e a o z) o2),h.me,h.me0⟩
theorem FR.sh_at (h:FR T K G H σ ρ) {i:Nat} {d:D} (e:ρ[i]?=some (.sh d)):∃v,σ[i]?=some (some v)/\Rep T K H d v:=h.sl i _ e
theorem q4p {H1:Hp} {v:V} {r:Rv} (s1:Same H H1) (h:q5H T K H1 H' v r):q5H T K H H' v r:=by
 cases r with
 | sh d=>exact h
 | fr ds=>
  obtain ⟨a,us,e1,e2,e3,e4⟩:=h
  exact ⟨a,us,e1,e2,s1.free e3,e4⟩
 | tf t pre ds post=>
  obtain ⟨a,vp,b,vq,ws,e1,e2,r1,r2,e3,e4,r3⟩:=h
  exact ⟨a,vp,b,vq,ws,e1,e2,r1,r2,e3,s1.free e4,r3⟩
theorem j2p {i:Nat} {v:Option V} (hz:T.me=none∨i≠0) (h:∀x,T.me=some x->σ[0]?=some (some (.ref x))):∀x,T.me=some x->(σ.set i v)[0]?=some (some (.ref x)):=λx e=>by
 rcases hz with z | z
 ·rw [z] at e;cases e
 ·rw [List.getElem?_set_ne z];exact h x e
theorem q3D {i:Nat} {s:Sl} (hs:∀c ds,s≠.me c ds) (h:∀(i:Nat) (c:Nat) (ds:List D),ρ[i]?=some (.me c ds)->i=0):∀(j:Nat) (c:Nat) (ds:List D),(ρ.set i s)[j]?=some (.me c ds)->j=0:=λj c ds e=>by
 by_cases hj:j=i
 ·subst hj
  have hl:j < ρ.length:=by
   have:=(List.getElem?_eq_some_iff.mp e).1;simpa using this
  rw [List.getElem?_set_self hl] at e
  exact absurd (Option.some.inj e) (hs c ds)
 ·rw [List.getElem?_set_ne (Ne.symm hj)] at e;exact h j c ds e
theorem FR.set_sh (h:FR T K G H σ ρ) {i:Nat} {d:D} {v:V} (r:Rep T K H d v) (hz:T.me=none∨i≠0):FR T K G H (σ.set i (some v)) (ρ.set i (.sh d)):=by
 refine ⟨h.same,by simp [h.len],λj s q=>?_,λj k s1 s2 b hjk q1 q2 o1 o2=>?_,j2p hz h.me,q3D (λ_ _ z=>by cases z) h.me0⟩
 ·by_cases hj:j=i
  ·subst hj
   have hl:j < ρ.length:=by
    have:=(List.getElem?_eq_some_iff.mp q).1;simpa using this
   rw [List.getElem?_set_self hl] at q
   cases q
   exact ⟨v,by rw [List.getElem?_set_self (by rw [<-h.len];exact hl)],r⟩
  ·rw [List.getElem?_set_ne (Ne.symm hj)] at q ⊢
   exact h.sl j s q
 ·have hj:j≠i:=by
   rintro rfl
   have hl:j < ρ.length:=by
    have:=(List.getElem?_eq_some_iff.mp q1).1;simpa using this
   rw [List.getElem?_set_self hl] at q1;cases q1;exact o1
  have hk:k≠i:=by
   rintro rfl
   have hl:k < ρ.length:=by
    have:=(List.getElem?_eq_some_iff.mp q2).1;simpa using this
   rw [List.getElem?_set_self hl] at q2;cases q2;exact o2
  rw [List.getElem?_set_ne (Ne.symm hj)] at q1 o1
  rw [List.getElem?_set_ne (Ne.symm hk)] at q2 o2
  exact h.ne j k s1 s2 b hjk q1 q2 o1 o2
theorem FR.set_own (h:FR T K G H σ ρ) {i:Nat} {v:V} (w:Sl) (hw:i < ρ.length->SlOk T K G H (some (some v)) w)
 (hn:∀j s b,j≠i->ρ[j]?=some s->q38 H (some (some v)) b w->¬q38 H σ[j]? b s) (hm:∀c ds,w≠.me c ds) (hz:T.me=none∨i≠0):FR T K G H (σ.set i (some v)) (ρ.set i w):=by
 have hlen:(ρ.set i w).length=(σ.set i (some v)).length:=by simp [h.len]
 have lt:∀{m:Nat} {z:Sl},(ρ.set i w)[m]?=some z->(m=i/\z=w/\(σ.set i (some v))[m]?=some (some v)/\i < ρ.length)∨(m≠i/\ρ[m]?=some z/\(σ.set i (some v))[m]?=σ[m]?):=λ{m z} q=>by
  by_cases hmi:m=i
  ·subst hmi
   have hl:m < ρ.length:=by
    have:=(List.getElem?_eq_some_iff.mp q).1;simpa using this
   rw [List.getElem?_set_self hl] at q
   exact .inl ⟨rfl,(Option.some.inj q).symm,by rw [List.getElem?_set_self (by rw [<-h.len];exact hl)],hl⟩
  ·rw [List.getElem?_set_ne (Ne.symm hmi)] at q
   exact .inr ⟨hmi,q,by rw [List.getElem?_set_ne (Ne.symm hmi)]⟩
 refine ⟨h.same,hlen,λj s q=>?_,λj k s1 s2 b hjk q1 q2 o1 o2=>?_,j2p hz h.me,q3D hm h.me0⟩
 ·rcases lt q with ⟨rfl,rfl,e,hl⟩ | ⟨_,q,e⟩
  ·rw [e];exact hw hl
  ·rw [e];exact h.sl j s q
 ·rcases lt q1 with ⟨rfl,rfl,e,hl⟩ | ⟨hj,p1,e⟩
  ·rw [e] at o1
   rcases lt q2 with ⟨rfl,_⟩ | ⟨hk,q2,e'⟩
   ·exact hjk rfl
   ·rw [e'] at o2;exact hn k s2 b hk q2 o1 o2
  ·rw [e] at o1
   rcases lt q2 with ⟨rfl,rfl,e',hl⟩ | ⟨hk,q2,e'⟩
   ·rw [e'] at o2;exact hn j s1 b hj p1 o2 o1
   ·rw [e'] at o2;exact h.ne j k s1 s2 b hjk p1 q2 o1 o2
theorem FR.set_ow (h:FR T K G H σ ρ) {i:Nat} {ds:List D} {a:Addr} {vs:List V} (ha:H a=some (.lst vs)) (hg:G a=none) (r:RepL T K H ds vs)
 (hn:∀j s,j≠i->ρ[j]?=some s->¬q38 H σ[j]? a s) (hz:T.me=none∨i≠0):FR T K G H (σ.set i (some (.ref a))) (ρ.set i (.ow ds)):=by
 refine h.set_own (.ow ds) ?_ ?_ (λc ds z=>by cases z) hz
 ·exact λ_=>⟨a,vs,rfl,ha,hg,r⟩
 ·intro j s b hj q o1 o2
  have o1:some (some (V.ref a))=some (some (.ref b)):=o1
  cases o1
  exact hn j s hj q o2
end
noncomputable def Free (X:Cx) (pins:List (Addr×Obj)) (b:Addr):Prop:=
 (b∈X.ex∨X.s₀.heap.get? b=none)/\b≠X.env.locals/\(∀x c,X.env.cells.lookup x=some c->c≠b)/\∀p∈X.pn++pins,p.1≠b
noncomputable def j98 (T:Tb) (c:Nat) (ea:Addr) (H:Hp) (h:Heap) (P:Addr->Prop):Prop:=
 H ea=none/\P ea/\Nc ea h/\∃(oe:Obj) (vs:Array Value) (a0:Value),h.get? ea=some oe/\oe.cls=.ref (T.ca c)/\oe.data=.fields vs/\vs[0]?=some a0 /\
  (vs[1]?=some .none∨∃(tb:Addr) (ot:Obj) (ts:Array Value),vs[1]?=some (.ref tb)/\tb≠ea/\h.get? tb=some ot/\ot.data=.fields ts/\ts[3]?=some .none/\H tb=none/\P tb)
noncomputable def Flying (T:Tb) (X:Cx) (pins:List (Addr×Obj)) (c:Nat) (u:Value) (H:Hp) (s:Shared):Prop:=
 ∃ea,u=.ref ea/\j98 T c ea H s.heap (Free X pins)
noncomputable def XW (T:Tb) (X:Cx) (E:Value->Shared->Prop) (σ:L2.St) (H:Hp) (c:Nat):Prop:=
 ∀(pins:List (Addr×Obj)) (s:Shared) (u:Value) (H':Hp),Inv X pins σ H' s->Same H H'->Flying T X pins c u H' s->E u s
theorem XW.mono {T:Tb} {X:Cx} {E:Value->Shared->Prop} {σ:L2.St} {H H':Hp} {c:Nat} (e:Same H H') (h:XW T X E σ H c):XW T X E σ H' c:=
 λpins s u H'' I q f=>h pins s u H'' I (e.trans q) f
noncomputable def Acc {α:Type} (T:Tb) (X:Cx) (E:Value->Shared->Prop) (σ:L2.St) (H:Hp) (o:Out α) (k:α->Prop):Prop:=
 match o with
 | .ok a=>k a
 | .exc c=>XW T X E σ H c
 | .bad=>False
section
variable {T:Tb} {X:Cx} {E:Value->Shared->Prop} {σ:L2.St} {H H':Hp} {α β:Type}
theorem Acc.mono {o:Out α} {k k':α->Prop} (h:Acc T X E σ H o k) (f:∀a,o=.ok a->k a->k' a):Acc T X E σ H o k':=by
 cases o with
 | ok a=>exact f a rfl h
 | exc c=>exact h
 | bad=>exact h
theorem Acc.heap {o:Out α} {k:α->Prop} (e:Same H H') (h:Acc T X E σ H o k):Acc T X E σ H' o k:=by
 cases o with
 | ok a=>exact h
 | exc c=>exact XW.mono e h
 | bad=>exact h
theorem Acc.bind {o:Out α} {g:α->Out β} {k:β->Prop} (h:Acc T X E σ H (o.bind g) k):Acc T X E σ H o (λa=>Acc T X E σ H (g a) k):=by
 cases o with
 | ok a=>exact h
 | exc c=>exact h
 | bad=>exact h
end
noncomputable abbrev Ev:=Ro->Out D
noncomputable def kE (T:Tb) (K:PySem.W.Frag) (H:Hp) (Q:VK) (d:D):Prop:=∀v H',Same H H'->Rep T K H' d v->Q v H'
noncomputable def tE (T:Tb) (X:Cx) (G:Hp) (E:Value->Shared->Prop) (f:Ev):TE:=fun σ H Q=>∃ρ,FR T X.K G H σ ρ/\Acc T X E σ H (f ρ) (kE T X.K H Q)
structure DE (T:Tb) (X:Cx) (e:Expr) (f:Ev):Prop where
 mk ::
 run:∀(G:Hp) (E:Value->Shared->Prop),PassesOwn (model X.prog X.w) X.A X.env E->PE (X.wish E) e (tE T X G E f)
noncomputable def kT (H:Hp) (Q:Bool->Hp->Prop) (b:Bool):Prop:=∀H',Same H H'->Q b H'
noncomputable def tT (T:Tb) (X:Cx) (G:Hp) (E:Value->Shared->Prop) (f:Ro->Out Bool):TT:=fun σ H Q=>∃ρ,FR T X.K G H σ ρ/\Acc T X E σ H (f ρ) (kT H Q)
structure DT (T:Tb) (X:Cx) (e:Expr) (f:Ro->Out Bool):Prop where
 mk ::
 run:∀(G:Hp) (E:Value->Shared->Prop),PassesOwn (model X.prog X.w) X.A X.env E->PT (X.wish E) e (tT T X G E f)
structure DW (T:Tb) (X:Cx) (e:Expr) (f:Ro->Out Bool):Prop where
 mk ::
 run:∀(G:Hp) (E:Value->Shared->Prop),PassesOwn (model X.prog X.w) X.A X.env E->PW (X.wish E) e (tT T X G E f)
theorem DW.dt {T:Tb} {X:Cx} {e:Expr} {f:Ro->Out Bool} (h:DW T X e f):DT T X e f:=.mk λG E hp=>(h.run G E hp).pt
noncomputable def tA (T:Tb) (X:Cx) (G:Hp) (E:Value->Shared->Prop) (f:Ro->Out (List D)):TA:=fun σ H Q=>∃ρ,FR T X.K G H σ ρ/\Acc T X E σ H (f ρ) (λds=>∀vs H',Same H H'->RepL T X.K H' ds vs->Q vs H')
structure DA (T:Tb) (X:Cx) (es:List Expr) (f:Ro->Out (List D)):Prop where
 mk ::
 run:∀(G:Hp) (E:Value->Shared->Prop),PassesOwn (model X.prog X.w) X.A X.env E->PA (X.wish E) es (tA T X G E f)
noncomputable def tF (T:Tb) (X:Cx) (G:Hp) (E:Value->Shared->Prop) (f:Ro->Out (List D)):TE:=fun σ H Q=>∃ρ,FR T X.K G H σ ρ/\Acc T X E σ H (f ρ) (λds=>∀a vs H',Same H H'->H a=none->H' a=some (.lst vs)->RepL T X.K H' ds vs->Q (.ref a) H')
structure DF (T:Tb) (X:Cx) (e:Expr) (f:Ro->Out (List D)):Prop where
 mk ::
 run:∀(G:Hp) (E:Value->Shared->Prop),PassesOwn (model X.prog X.w) X.A X.env E->PE (X.wish E) e (tF T X G E f)
noncomputable def tL (T:Tb) (X:Cx) (G:Hp) (E:Value->Shared->Prop) (f:Ro->Out (List D)):TE:=fun σ H Q=>∃ρ,FR T X.K G H σ ρ/\Acc T X E σ H (f ρ) (λds=>∀a vs H',Same H H'->SqL X.K H' a vs->RepL T X.K H' ds vs->Q (.ref a) H')
structure DL (T:Tb) (X:Cx) (e:Expr) (f:Ro->Out (List D)):Prop where
 mk ::
 run:∀(G:Hp) (E:Value->Shared->Prop),PassesOwn (model X.prog X.w) X.A X.env E->PE (X.wish E) e (tL T X G E f)
noncomputable def tR (T:Tb) (X:Cx) (G:Hp) (E:Value->Shared->Prop) (f:Ro->Out Rv):TE:=fun σ H Q=>∃ρ,FR T X.K G H σ ρ/\Acc T X E σ H (f ρ) (λr=>∀v H',Same H H'->q5H T X.K H H' v r->Q v H')
structure DR (T:Tb) (X:Cx) (e:Expr) (f:Ro->Out Rv):Prop where
 mk ::
 run:∀(G:Hp) (E:Value->Shared->Prop),PassesOwn (model X.prog X.w) X.A X.env E->PE (X.wish E) e (tR T X G E f)
theorem PE.imp {X:Cx} {e:Expr} {t t':TE} (h:PE X e t) (k:∀σ H Q,t' σ H Q->t σ H Q):PE X e t':=λpins s σ H Q I q=>h pins s σ H Q I (k σ H Q q)
theorem PT.imp {X:Cx} {e:Expr} {t t':TT} (h:PT X e t) (k:∀σ H Q,t' σ H Q->t σ H Q):PT X e t':=λpins s σ H Q I q=>h pins s σ H Q I (k σ H Q q)
theorem PW.imp {X:Cx} {e:Expr} {t t':TT} (h:PW X e t) (k:∀σ H Q,t' σ H Q->t σ H Q):PW X e t':=λw pins s σ H Q I q=>h w pins s σ H Q I (k σ H Q q)
theorem PA.imp {X:Cx} {es:List Expr} {t t':TA} (h:PA X es t) (k:∀σ H Q,t' σ H Q->t σ H Q):PA X es t':=λp pins s σ H Q I q=>h p pins s σ H Q I (k σ H Q q)
theorem PS.imp {X:Cx} {e:Stmt} {t t':TS} (h:PS X e t) (k:∀D σ H,t' D σ H->t D σ H):PS X e t':=λpins s σ H D I q=>h pins s σ H D I (k D σ H q)
theorem PSs.imp {X:Cx} {e:List Stmt} {t t':TS} (h:PSs X e t) (k:∀D σ H,t' D σ H->t D σ H):PSs X e t':=λpins s σ H D I q=>h pins s σ H D I (k D σ H q)
inductive Fl where
 | nx (ρ:Ro) | rt (r:Rv) | rm (r:D) (c:Nat) (ds ks:List D) | exc (c:Nat) (ρ:Ro) | bk (ρ:Ro) | ct (ρ:Ro) | bad
noncomputable def stays (T:Tb) (b:Bool):HO->Bool
 | .lst _=>false
 | .ext _=>false
 | .ins C _ fs=>!b && decide (fs.map (·.1)=T.fa C)
 | _=>true
noncomputable def Pers (T:Tb) (b:Bool) (H H':Hp):Prop:=∀a o,H a=some o->stays T b o=true->H' a=some o
theorem Pers.refl {T:Tb} {b:Bool} (H:Hp):Pers T b H H:=λ_ _ e _=>e
theorem Pers.trans {T:Tb} {b:Bool} {H H1 H2:Hp} (x:Pers T b H H1) (y:Pers T b H1 H2):Pers T b H H2:=λc o e s=>y c o (x c o e s) s
theorem Pers.of {T:Tb} {b:Bool} {H H':Hp} (x:Same H H'):Pers T b H H':=λc o e _=>x c _ e
theorem Pers.fz {T:Tb} {b:Bool} {K:PySem.W.Frag} {H H':Hp} {a:Addr} {vs:List V} (p:Pers T b H H') (h:FzL K H a vs):FzL K H' a vs:=by
 rcases h with ⟨o,h⟩ | h
 ·exact .inl ⟨o,p _ _ h rfl⟩
 ·exact .inr h
mutual
theorem Rep.pers {T:Tb} {K:PySem.W.Frag} {H H':Hp} (e:Pers T false H H'):∀(d:D) (v:V),Rep T K H d v->Rep T K H' d v
 | .non,_,h=>h
 | .bl _,_,h=>h
 | .int _,_,h=>h
 | .str _,_,h=>h
 | .tup ds,_,h=>by
  obtain ⟨a,vs,r1,r2,r3⟩:=h
  refine ⟨a,vs,r1,?_,RepL.pers e ds vs r3⟩
  rcases r2 with (r2 | ⟨o,r2⟩) | r2
  ·exact .inl (.inl (e _ _ r2 rfl))
  ·exact .inl (.inr ⟨o,e _ _ r2 rfl⟩)
  ·exact .inr r2
 | .lst ds,_,h=>by
  obtain ⟨a,vs,r1,r2,r3⟩:=h
  exact ⟨a,vs,r1,e.fz r2,RepL.pers e ds vs r3⟩
 | .ins c ds,_,h=>by
  obtain ⟨a,dx,fs,r1,r2,r3,r4⟩:=h
  exact ⟨a,dx,fs,r1,e _ _ r2 (by show (!false && decide (fs.map (·.1)=T.fa (T.ca c)))=true;rw [r3];simp [Tb.fl]),r3,RepL.pers e ds _ r4⟩
 | .exc c,_,h=>by
  obtain ⟨a,o,r1,r2,r3⟩:=h
  exact ⟨a,o,r1,e _ _ r2 rfl,r3⟩
theorem RepL.pers {T:Tb} {K:PySem.W.Frag} {H H':Hp} (e:Pers T false H H'):∀(ds:List D) (vs:List V),RepL T K H ds vs->RepL T K H' ds vs
 | [],_,h=>h
 | d::ds,_,h=>by
  obtain ⟨v,r,r1,r2,r3⟩:=h
  exact ⟨v,r,r1,Rep.pers e d v r2,RepL.pers e ds r r3⟩
end
noncomputable def w1q (T:Tb) (K:PySem.W.Frag) (H:Hp) (c:Nat) (ds:List D):Prop:=∃a,T.me=some a/\InsAt T K H c a ds
noncomputable def q7d (T:Tb) (K:PySem.W.Frag) (H:Hp):Option Addr->List D->Prop
 | none,ks=>ks=[]
 | some a,ks=>∃vs,H a=some (.lst vs)/\RepL T K H ks vs
noncomputable def AccS (T:Tb) (b:Bool) (X:Cx) (G:Hp) (E:Value->Shared->Prop) (H₁:Hp) (o:Fl) (D:Ends):Prop:=
 match o with
 | .nx ρ=>∀σ H,FR T X.K G H σ ρ->Pers T b H₁ H->D.nx σ H
 | .bk ρ=>∀σ H,FR T X.K G H σ ρ->Pers T b H₁ H->D.bk σ H
 | .ct ρ=>∀σ H,FR T X.K G H σ ρ->Pers T b H₁ H->D.ct σ H
 | .rt r=>∀v H,Same G H->q5H T X.K G H v r->D.rt v H
 | .rm r c ds ks=>∀v H,Same G H->Rep T X.K H r v->w1q T X.K H c ds->q7d T X.K H T.mo ks->D.rt v H
 | .exc c ρ=>∀σ H,FR T X.K G H σ ρ->Pers T b H₁ H->XW T X E σ H c
 | .bad=>False
theorem AccS.heap {T:Tb} {b:Bool} {X:Cx} {G:Hp} {E:Value->Shared->Prop} {H H':Hp} {o:Fl} {D:Ends} (p:Pers T b H H') (h:AccS T b X G E H o D):AccS T b X G E H' o D:=by
 cases o with
 | nx ρ=>exact fun σ H2 fr q=>h σ H2 fr (p.trans q)
 | bk ρ=>exact fun σ H2 fr q=>h σ H2 fr (p.trans q)
 | ct ρ=>exact fun σ H2 fr q=>h σ H2 fr (p.trans q)
 | rt r=>exact h
 | rm r c ds ks=>exact h
 | exc c ρ=>exact fun σ H2 fr q=>h σ H2 fr (p.trans q)
 | bad=>exact h
noncomputable def tS (T:Tb) (b:Bool) (X:Cx) (G:Hp) (E:Value->Shared->Prop) (f:Ro->Fl):TS:=λD σ H=>∃ρ,FR T X.K G H σ ρ/\AccS T b X G E H (f ρ) D
structure DS (T:Tb) (b:Bool) (X:Cx) (st:Stmt) (f:Ro->Fl):Prop where
 mk ::
 run:∀(G:Hp) (E:Value->Shared->Prop),PassesOwn (model X.prog X.w) X.A X.env E->PS (X.wish E) st (tS T b X G E f)
structure DSs (T:Tb) (b:Bool) (X:Cx) (st:List Stmt) (f:Ro->Fl):Prop where
 mk ::
 run:∀(G:Hp) (E:Value->Shared->Prop),PassesOwn (model X.prog X.w) X.A X.env E->PSs (X.wish E) st (tS T b X G E f)
noncomputable def Fl.bind (o:Fl) (k:Ro->Fl):Fl:=match o with
 | .nx ρ=>k ρ
 | o=>o
@[simp] theorem Fl.nx_bind (ρ:Ro) (k:Ro->Fl):(Fl.nx ρ).bind k=k ρ:=(rfl)
@[simp] theorem Fl.rt_bind (r:Rv) (k:Ro->Fl):(Fl.rt r).bind k=.rt r:=(rfl)
@[simp] theorem Fl.rm_bind (r:D) (c:Nat) (ds ks:List D) (k:Ro->Fl):(Fl.rm r c ds ks).bind k=.rm r c ds ks:=(rfl)
@[simp] theorem Fl.exc_bind (c:Nat) (ρ:Ro) (k:Ro->Fl):(Fl.exc c ρ).bind k=.exc c ρ:=(rfl)
@[simp] theorem Fl.bk_bind (ρ:Ro) (k:Ro->Fl):(Fl.bk ρ).bind k=.bk ρ:=(rfl)
@[simp] theorem Fl.ct_bind (ρ:Ro) (k:Ro->Fl):(Fl.ct ρ).bind k=.ct ρ:=(rfl)
@[simp] theorem Fl.bad_bind (k:Ro->Fl):Fl.bad.bind k=.bad:=(rfl)
noncomputable def Out.fl {α:Type} (o:Out α) (ρ:Ro) (k:α->Fl):Fl:=match o with
 | .ok a=>k a
 | .exc c=>.exc c ρ
 | .bad=>.bad
@[simp] theorem Out.ok_fl {α:Type} (a:α) (ρ:Ro) (k:α->Fl):(Out.ok a).fl ρ k=k a:=(rfl)
@[simp] theorem Out.exc_fl {α:Type} (c:Nat) (ρ:Ro) (k:α->Fl):(Out.exc c:Out α).fl ρ k=.exc c ρ:=(rfl)
@[simp] theorem Out.bad_fl {α:Type} (ρ:Ro) (k:α->Fl):(Out.bad:Out α).fl ρ k=.bad:=(rfl)
section
variable {T:Tb} {b:Bool} {X:Cx} {G:Hp} {E:Value->Shared->Prop} {σ:L2.St} {H:Hp} {α:Type}
theorem AccS.fl {o:Out α} {ρ:Ro} {k:α->Fl} {D:Ends} (fr:FR T X.K G H σ ρ) (h:AccS T b X G E H (o.fl ρ k) D):Acc T X E σ H o (λa=>AccS T b X G E H (k a) D):=by
 cases o with
 | ok a=>exact h
 | exc c=>exact h σ H fr (Pers.refl H)
 | bad=>exact h
end
noncomputable def q2n:Expr->Bool
 | .Starred ..=>false
 | _=>true
theorem q0B {e:Expr} {es:List Expr} {env:Env} (h:q2n e=true):starEach (e::es) env=(false,eval e env)::starEach es env:=by
 cases e<;>first | rfl | cases h
theorem q0F {pos:Pos} {env:Env}:∀{es:List Expr},es.all q2n=true->(backTo pos (starEach es env)).any (·.1)=false
 | [],_=>rfl
 | e::es,h=>by
  rw [List.all_cons,Bool.and_eq_true] at h
  rw [q0B h.1]
  show (false || (backTo pos (starEach es env)).any (·.1))=false
  rw [q0F h.2];rfl
theorem q21 {pos:Pos} {env:Env}:∀{es:List Expr},es.all q2n=true->(backTo pos (starEach es env)).all (λx=>!x.1)=true
 | [],_=>rfl
 | e::es,h=>by
  rw [List.all_cons,Bool.and_eq_true] at h
  rw [q0B h.1]
  show (true && (backTo pos (starEach es env)).all (λx=>!x.1))=true
  rw [q21 h.2];rfl
theorem j1l {pos:Pos} {env:Env} {e:Expr} {es:List Expr} (h:(e::es).all q2n=true) (hl:decide ((e::es).length+([]:List Keyword).length+(if ([]:List Keyword).isEmpty then 0 else 1) < 30)=true) :
 ((backTo pos (starEach (e::es) env)).all (λx=>!x.1) && (backToKw pos (keywordEach [] env)).all (λx=>x.1.isSome) && decide ((e::es).length+([]:List Keyword).length+(if ([]:List Keyword).isEmpty then 0 else 1) < 30))=true:=by
 rw [q21 h,hl];rfl
noncomputable def q7A:Expr->Bool
 | .ListComp ..=>false
 | .SetComp ..=>false
 | .DictComp ..=>false
 | _=>true
theorem q1k {e:Expr} {t:Option Expr} {n:Nat} {env:Env} (h:q7A e=true):swapsWith e t n env=pure false:=by
 cases e<;>first | rfl | cases h
section
variable {T:Tb} {X:Cx} {pos:Pos}
@[simp] noncomputable def q0f (i:Nat) (ρ:Ro):Out D:=match ρ[i]? with
 | some (.sh d)=>.ok d
 | _=>.bad
theorem q0a (i:Nat) {x:Str} (hN:X.N[i]?=some x:=by rfl) (hv:Vis X.env.scope x:=by walk_at "v0") (hd:(x==("__debug__" : Str))=false:=by decide)
 (hcd:(x==("__classdict__" : Str))=false:=by decide):DE T X (.Name x pos) (q0f i):=.mk λG E hp=>by
 refine PE.imp (q1V (X:=X.wish E) hN hv hd hcd) fun σ H Q ⟨ρ,fr,h⟩=>?_
 unfold q0f at h
 split at h
 ·rename_i d e
  obtain ⟨v,e1,r⟩:=fr.sh_at e
  exact ⟨v,e1,h v H (Same.refl H) r⟩
 ·exact h.elim
@[simp] noncomputable def j4G (i:Nat) (ρ:Ro):Out (List D):=match ρ[i]? with
 | some (.ow ds)=>.ok ds
 | some (.bo ds)=>.ok ds
 | some (.mo ds)=>.ok ds
 | some (.sh (.lst ds))=>.ok ds
 | _=>.bad
theorem q6o (i:Nat) {x:Str} (hN:X.N[i]?=some x:=by rfl) (hv:Vis X.env.scope x:=by walk_at "v0") (hd:(x==("__debug__" : Str))=false:=by decide)
 (hcd:(x==("__classdict__" : Str))=false:=by decide):DL T X (.Name x pos) (j4G i):=.mk λG E hp=>by
 refine PE.imp (q1V (X:=X.wish E) hN hv hd hcd) fun σ H Q ⟨ρ,fr,h⟩=>?_
 unfold j4G at h
 split at h
 ·rename_i ds e
  obtain ⟨a,vs,e1,e2,e3,r⟩:=fr.sl i _ e
  exact ⟨_,e1,h a vs H (Same.refl H) (SqL.of e2) r⟩
 ·rename_i ds e
  obtain ⟨a,vs,e1,e2,r⟩:=fr.sl i _ e
  exact ⟨_,e1,h a vs H (Same.refl H) (SqL.of (fr.same _ _ e2)) r⟩
 ·rename_i ds e
  obtain ⟨a,vs,_,e1,e2,e3,r⟩:=fr.sl i _ e
  exact ⟨_,e1,h a vs H (Same.refl H) (SqL.of e2) r⟩
 ·rename_i ds e
  obtain ⟨v,e1,a,vs,rfl,e2,r⟩:=fr.sl i _ e
  exact ⟨_,e1,h a vs H (Same.refl H) e2.sq r⟩
 ·exact h.elim
@[simp] noncomputable def eC (d:D) (ρ:Ro):Out D:=.ok d
theorem PE.const {e:Expr} {v:V} {d:D} {E:Value->Shared->Prop} {G:Hp} (h:PE (X.wish E) e (tC v)) (r:∀H,Rep T X.K H d v):PE (X.wish E) e (tE T X G E (eC d)):=
 PE.imp h fun σ H Q ⟨ρ,fr,h⟩=>h v H (Same.refl H) (r H)
theorem q0b {i j}:DE T X (.Constant (.int i) j pos) (eC (.int i)):=.mk λG E hp=>PE.const j6Q λ_=>rfl
theorem j5Z {b j}:DE T X (.Constant (.bool b) j pos) (eC (.bl b)):=.mk λG E hp=>PE.const j9r λ_=>rfl
theorem j05 {j}:DE T X (.Constant .none j pos) (eC .non):=.mk λG E hp=>PE.const j4Z λ_=>rfl
theorem q4I {x j}:DE T X (.Constant (.str x) j pos) (eC (.str x)):=.mk λG E hp=>PE.const j60 λ_=>rfl
theorem q49 {x:Str} {d:D} {v:V} {u:Value} (hg:Gl X x) (hm:X.mg x=some u) (r:RelV v u) (rd:∀H,Rep T X.K H d v) (hd:(x==("__debug__" : Str))=false:=by decide):DE T X (.Name x pos) (eC d):=
 .mk λG E hp=>PE.const (j3M (X:=X.wish E) hg hm r hd) rd
end
noncomputable def OpD (T:Tb) (X:Cx) (f:Value->Value->Sem Value) (g:D->D->Out D):Prop:=∀E:Value->Shared->Prop,∃r:R2,OpR (X.wish E) f r /\
 ∀(dx dy:D) (x y:V) (σ:L2.St) (H:Hp) (Q:VK),Rep T X.K H dx x->Rep T X.K H dy y->Acc T X E σ H (g dx dy) (kE T X.K H Q)->r x y H Q
@[simp] noncomputable def e2 (g:D->D->Out D) (fa fb:Ev) (ρ:Ro):Out D:=(fa ρ).bind λx=>(fb ρ).bind λy=>g x y
section
variable {T:Tb} {X:Cx} {pos:Pos} {a b:Expr} {fa fb:Ev}
theorem q59 {G H:Hp} {E:Value->Shared->Prop} {σ:L2.St} {Q:VK} {g:D->D->Out D} {r:R2}
 (hg:∀(dx dy:D) (x y:V) (σ:L2.St) (H:Hp) (Q:VK),Rep T X.K H dx x->Rep T X.K H dy y->Acc T X E σ H (g dx dy) (kE T X.K H Q)->r x y H Q) {ρ:Ro} (fr:FR T X.K G H σ ρ) (h:Acc T X E σ H (e2 g fa fb ρ) (kE T X.K H Q)) :
 tOp r (tE T X G E fa) (tE T X G E fb) σ H Q:=by
 refine ⟨ρ,fr,Acc.mono (Acc.bind h) λdx _ hx v H1 s1 r1=>⟨ρ,fr.mono s1,Acc.mono (Acc.bind (Acc.heap s1 hx)) λdy _ hy u H2 s2 r2=>?_⟩⟩
 refine hg dx dy v u σ H2 Q (Rep.mono s2 _ _ r1) r2 (Acc.mono (Acc.heap s2 hy) λd _ hd w H3 s3 r3=>hd w H3 ((s1.trans s2).trans s3) r3)
theorem q0m {op:Operator} {g:D->D->Out D} (ho:OpD T X (binaryOp op) g) (ha:DE T X a fa) (hb:DE T X b fb):DE T X (.BinOp a op b pos) (e2 g fa fb):=.mk λG E hp=>by
 obtain ⟨r,hr,hg⟩:=ho E
 exact PE.imp (j24 hr (ha.run G E hp) (hb.run G E hp)) fun σ H Q ⟨ρ,fr,h⟩=>q59 hg fr h
theorem q3v {op:CmpOp} {g:D->D->Out D} (ho:OpD T X (compareOp op) g) (ha:DE T X a fa) (hb:DE T X b fb) (hm:behindInMarks op b=false):DE T X (.Compare a [op] [b] pos) (e2 g fa fb):=.mk λG E hp=>by
 obtain ⟨r,hr,hg⟩:=ho E
 exact PE.imp (j29 hr (ha.run G E hp) (hb.run G E hp) hm) fun σ H Q ⟨ρ,fr,h⟩=>q59 hg fr h
@[simp] noncomputable def D.toB:D->Out Bool
 | .bl b=>.ok b
 | _=>.bad
@[simp] noncomputable def tB2 (g:D->D->Out D) (fa fb:Ev) (ρ:Ro):Out Bool:=(e2 g fa fb ρ).bind D.toB
theorem q0y {op:CmpOp} {g:D->D->Out D} (ho:OpD T X (compareOp op) g) (ha:DE T X a fa) (hb:DE T X b fb) (hm:behindInMarks op b=false):DT T X (.Compare a [op] [b] pos) (tB2 g fa fb):=.mk λG E hp=>by
 obtain ⟨r,hr,hg⟩:=ho E
 refine PT.imp (j4e hr (ha.run G E hp) (hb.run G E hp) hm) fun σ H Q ⟨ρ,fr,h⟩=>q59 hg fr (Acc.mono (Acc.bind h) λd _ hd v H1 s1 r1=>?_)
 cases d with
 | bl k=>exact ⟨k,r1,hd H1 s1⟩
 | _=>exact hd.elim
@[simp] noncomputable def i2 (f:Int->Int->D):D->D->Out D
 | .int i,.int j=>.ok (f i j)
 | _,_=>.bad
theorem q9F {f:Value->Value->Sem Value} {g:Int->Int->V} {g':Int->Int->D} (h:∀E,OpR (X.wish E) f (rI0 g)) (hg:∀i j H,Rep T X.K H (g' i j) (g i j)):OpD T X f (i2 g'):=λE=>
 ⟨_,h E,λdx dy x y σ H Q rx ry q=>by
  cases dx with
  | int i=>
   cases dy with
   | int j=>exact ⟨i,j,rx,ry,q _ H (Same.refl H) (hg i j H)⟩
   | _=>exact q.elim
  | _=>first | exact q.elim | (cases dy<;>exact q.elim)⟩
@[simp] noncomputable def i2c (c:Int->Int->Bool) (f:Int->Int->D):D->D->Out D
 | .int i,.int j=>if c i j=true then .ok (f i j) else .bad
 | _,_=>.bad
theorem q5E {f:Value->Value->Sem Value} {C:Int->Int->Prop} {g:Int->Int->V} {c:Int->Int->Bool} {g':Int->Int->D} (h:∀E,OpR (X.wish E) f (rI C g)) (hc:∀i j,c i j=true->C i j) (hg:∀i j H,Rep T X.K H (g' i j) (g i j)):OpD T X f (i2c c g'):=λE=>
 ⟨_,h E,λdx dy x y σ H Q rx ry q=>by
  cases dx with
  | int i=>
   cases dy with
   | int j=>
    have q':Acc T X E σ H (if c i j=true then .ok (g' i j) else .bad) (kE T X.K H Q):=q
    by_cases e:c i j=true
    ·rw [if_pos e] at q'
     exact ⟨i,j,rx,ry,hc i j e,q' _ H (Same.refl H) (hg i j H)⟩
    ·rw [if_neg e] at q'
     exact q'.elim
   | _=>exact q.elim
  | _=>first | exact q.elim | (cases dy<;>exact q.elim)⟩
noncomputable def q2u (i j:Int):Bool:=(decide (-(2 ^ 64) < i) && decide (i < 2 ^ 64)) || (decide (-(2 ^ 64) < j) && decide (j < 2 ^ 64))
@[simp] noncomputable def q6K (_ j:Int):Bool:=decide (0 < j) && decide (j < 1073741824)
@[simp] noncomputable def q6H (_ j:Int):Bool:=decide (0 < j)
@[simp] noncomputable def j26 (i j:Int):Bool:=decide (0<=j) && decide (j<=1000000) && decide (i.natAbs < 2 ^ 64)
theorem q3c:OpD T X (binaryOp .Sub) (i2 λi j=>.int (i-j)):=q9F (λE=>j67) λ_ _ _=>rfl
theorem q6a:OpD T X (binaryOp .Mult) (i2c q2u λi j=>.int (i*j)):=q5E (λE=>j5F) (λi j h=>by
 simp only [q2u,Bool.or_eq_true,Bool.and_eq_true,decide_eq_true_eq] at h;exact h) λ_ _ _=>rfl
theorem q0H:OpD T X (binaryOp .FloorDiv) (i2c q6K λi j=>.int (i / j)):=q5E (λE=>j4l) (λi j h=>by
 simp only [q6K,Bool.and_eq_true,decide_eq_true_eq] at h;exact h) λ_ _ _=>rfl
theorem q0x:OpD T X (binaryOp .Mod) (i2c q6H λi j=>.int (i % j)):=q5E (λE=>j62) (λi j h=>by
 simp only [q6H,decide_eq_true_eq] at h;exact h) λ_ _ _=>rfl
theorem j4T:OpD T X (binaryOp .Pow) (i2c j26 λi j=>.int (i ^ j.toNat)):=q5E (λE=>j7a) (λi j h=>by
 simp only [j26,Bool.and_eq_true,decide_eq_true_eq] at h;exact ⟨h.1.1,h.1.2,h.2⟩) λ_ _ _=>rfl
theorem j6g:OpD T X (compareOp .Lt) (i2 λi j=>.bl (decide (i < j))):=q9F (λE=>j8W) λ_ _ _=>rfl
theorem q4y:OpD T X (compareOp .LtE) (i2 λi j=>.bl (decide (i<=j))):=q9F (λE=>j9J) λ_ _ _=>rfl
theorem q5c:OpD T X (compareOp .Gt) (i2 λi j=>.bl (decide (j < i))):=q9F (λE=>j9a) λ_ _ _=>rfl
end
theorem q3V {P:Program} {w:World} {H:Hp} {h:Heap} {a:Addr} {o:HO} (x:ObjOk P w H h a o):∃u,h.get? a=some u:=by
 cases o with
 | lst xs=>obtain ⟨_,_,_,_,e⟩:=x;exact ⟨_,e⟩
 | tup xs=>obtain ⟨_,_,_,_,e,_⟩:=x;exact ⟨_,e⟩
 | dK kvs=>obtain ⟨_,_,_,_,o,_,_,e,_⟩:=x;exact ⟨_,e⟩
 | dT kvs=>obtain ⟨_,_,_,_,o,_,_,e,_⟩:=x;exact ⟨_,e⟩
 | set S n=>obtain ⟨o,_,_,_,e,_⟩:=x;exact ⟨_,e⟩
 | ins C dx fs=>obtain ⟨_,_,_,e,_⟩:=x;exact ⟨_,e⟩
 | own y=>obtain ⟨_,e⟩:=x;exact ⟨_,e⟩
 | xd fs=>obtain ⟨_,⟨_,_,_,e,_⟩,_⟩:=x;exact ⟨_,e⟩
 | rng lo hi=>obtain ⟨_,_,_,e⟩:=x;exact ⟨_,e⟩
 | frz ob u=>obtain ⟨e,_⟩:=x;exact ⟨_,e⟩
 | tbl ps=>exact ⟨_,(show h.get? a=some _ from x)⟩
 | met f y=>exact ⟨_,(show h.get? a=some _ from x)⟩
 | ext φ=>obtain ⟨_,⟨_,e⟩,_⟩:=x;exact ⟨_,e⟩
noncomputable def CXE (T:Tb) (P:Program) (w:World):CXT:=λouter H s E e s'=>
 ∃(ea:Addr) (c:Nat) (H':Hp),e=.ref ea/\s'.os=s.os/\AllBare s'.gens/\Un (frs outer) [] H H' s.heap s'.heap/\HOk P w H' s'.heap/\j98 T c ea H' s'.heap (λb=>s.heap.get? b=none)/\E (.ref (T.ca c)) none H'
section
variable {T:Tb} {X:Cx} {pins:List (Addr×Obj)} {σ:L2.St} {H:Hp} {s:Shared} {c:Nat} {u:Value}
structure Noted (X:Cx) (L:List Addr) (h h':Heap):Prop where
 kb:∀b o,h.get? b=some o->b∉L->h'.get? b=some o
 up:∀b o,h.get? b=some o->(∀vs,o.data≠.fields vs)->∃sl,h'.get? b=some { o with slots:=sl }
theorem q4d {L:List Addr} {h':Heap} (I:Inv X pins σ H s) (N:Noted X L s.heap h') (hL:∀b∈L,H b=none):HOk X.prog X.w H h':=λa o e=>
 (I.hok a o e).stay (λb v hb q=>N.kb b v q λhm=>by
  rcases hb with z | z
  ·rw [z] at hm;rw [hL _ hm] at e;cases e
  ·rw [hL b hm] at z;cases z) (λ_ q=>q) λ_ _ q=>q
theorem q6i {E:XK} {L:List Addr} {h':Heap} {ea:Addr} {a0:Value} (I:Inv X pins σ H s) (hst:X.stack=X.env::X.outer) (hex:X.ex=[]) (hn:H ea=none) (hfr:X.s₀.heap.get? ea=none)
 (hea:ea∈L) (hL:∀b∈L,H b=none/\(X.s₀.heap.get? b=none∨b∈X.fs)) (hS:∀b∈L,b=ea∨(∃o vs,s.heap.get? b=some o/\o.data=.fields vs/\X.s₀.heap.get? b=none)∨b∈frs X.stack)
 (lw:Heap.LeftW (PySem.W.hideAll s.heap L) (X.env::X.outer) ea (.ref (T.ca c)) a0 s.heap h') (nc:Nc ea h') (hE:E (.ref (T.ca c)) none H) :
 CXE T X.prog X.w X.outer X.H₀ X.s₀ E (.ref ea) { s with heap:=h' }:=by
 obtain ⟨k1,k2,k3,k4⟩:=lw
 have kb:∀b o,s.heap.get? b=some o->b∉L->h'.get? b=some o:=λb o e n=>k1 b o (PySem.W.hideAll_get _ e n)
 have nofl:∀b∈X.fs,∀o,s.heap.get? b=some o->∀vs,o.data≠.fields vs:=λb hb o e=>by
  obtain ⟨_,o',e',d⟩:=I.funs.mem hb
  rw [e] at e';cases e';exact d
 have hok:=q4d I ⟨kb,k4⟩ λb hb=>(hL b hb).1
 refine ⟨ea,c,H,rfl,I.os,I.bare,⟨λb o e n hb _=>?_,λb o e n hb _=>?_,λb o e n _=>?_,λb o e _=>?_,I.base.tups,I.base.frzs,I.base.tbls⟩,hok,⟨hn,hfr,nc,?_⟩,hE⟩
 ·refine kb b o (I.base.keep b o e n hb (by rw [hex];simp)) λhm=>?_
  rcases (hL b hm).2 with z | z
  ·rw [e] at z;cases z
  ·exact hb z
 ·obtain ⟨sl,e1⟩:=I.base.slot b o e n hb (by rw [hex];simp)
  obtain ⟨sl',e2⟩:=k4 b _ e1 (nofl b hb _ e1)
  exact ⟨sl',e2⟩
 ·exact I.base.free b o e n (by rw [hex];simp)
 ·obtain ⟨o',e1⟩:=I.base.there b o e (by rw [hex];simp)
  by_cases hm:b∈L
  ·rcases (hL b hm).2 with z | z
   ·rw [e] at z;cases z
   ·obtain ⟨sl',e2⟩:=k4 b _ e1 (nofl b z _ e1)
    exact ⟨_,e2⟩
  ·exact ⟨o',kb b o' e1 hm⟩
 ·obtain ⟨oe,vs,tb,ot,ts,he,⟨hc,h0⟩,hd,h1,hnT,hTe,hT,hdT,h3⟩:=k3
  have hid:∀b,(PySem.W.hideAll s.heap L).get? b=none->(∃o,s.heap.get? b=some o)->b∈L:=λb hb ⟨o,e⟩=>Classical.byContradiction λz=>by
   rw [PySem.W.hideAll_get _ e z] at hb;cases hb
  have notfr:tb∉frs X.stack:=λhm=>by
   rw [hst] at hm
   obtain ⟨_,o,e,d⟩:=k2.mem hm
   rw [hT] at e;cases e;exact d ts hdT
  have key:∀o,s.heap.get? tb=some o->X.s₀.heap.get? tb=none:=λo e=>by
   rcases hS tb (hid tb hnT ⟨o,e⟩) with z | ⟨_,_,_,_,z⟩ | z
   ·exact absurd z hTe
   ·exact z
   ·exact absurd z notfr
  refine ⟨oe,vs,a0,he,hc,hd,h0,.inr ⟨tb,ot,ts,h1,hTe,hT,hdT,h3,?_,?_⟩⟩
  ·cases q:H tb with
   | none=>rfl
   | some z=>
    obtain ⟨o,e⟩:=q3V (I.hok tb z q)
    have:=(hL tb (hid tb hnT ⟨o,e⟩)).1
    rw [q] at this;cases this
  ·show X.s₀.heap.get? tb=none
   cases q:X.s₀.heap.get? tb with
   | none=>rfl
   | some o=>
    obtain ⟨o',e⟩:=I.base.there tb o q (by rw [hex];simp)
    rw [key o' e] at q;cases q
theorem q2g {E:XK} {E':Value->Shared->Prop} (I:Inv X pins σ H s) (hst:X.stack=X.env::X.outer) (hf:X.env.frame=some X.env.locals) (hex:X.ex=[]) (fl:Flying T X pins c u H s) (hE:E (.ref (T.ca c)) none H) :
 wpAny (model X.prog X.w) X.A (leaving X.env u) (λ_ s''=>CXE T X.prog X.w X.outer X.H₀ X.s₀ E u s'') E' s:=by
 obtain ⟨ea,rfl,hn,fe,nc,oe,vs,a0,he,hc,hd,h0,h1⟩:=fl
 have hfr:X.A.frames=some (X.env::X.outer):=by rw [I.ok.frames,hst]
 have FF:s.heap.FunFrames X.base (X.env::X.outer):=by rw [<-hst];exact I.stack
 have fr0:∀b,Free X pins b->X.s₀.heap.get? b=none:=λb ⟨z,_⟩=>by
  rcases z with z | z
  ·rw [hex] at z;simp at z
  ·exact z
 have stk:∀b∈frs X.stack,H b=none/\(X.s₀.heap.get? b=none∨b∈X.fs):=λb hb=>⟨I.stkFree b hb,by
  rcases List.mem_cons.mp (I.stkSub b hb) with z | z
  ·rw [z];exact .inl (Heap.get?_none_of_le I.ok.above)
  ·exact .inr z⟩
 have infr:∀(L:List Addr),(∀b∈frs X.stack,b∈L)->s.heap.FunFrames (PySem.W.hideAll s.heap L) (X.env::X.outer):=λL hL=>PySem.W.funFrames_hide FF λenv he b hb=>hL b (by
  rw [hst];exact List.mem_filterMap.mpr ⟨env,he,hb⟩)
 have hidn:∀(L:List Addr) (b:Addr),b∈L->(PySem.W.hideAll s.heap L).get? b=none:=λL b hb=>PySem.W.hideAll_none L hb
 refine wpAny_mono (Kp.any (Q:=λ_ s''=>Nc ea s''.heap->CXE T X.prog X.w X.outer X.H₀ X.s₀ E (.ref ea) s'') (E:=E') Nc.push q7a nc ?_) (λ_ _ z=>z.1 z.2) λ_ _ z=>z.1
 rcases h1 with h1 | ⟨tb,ot,ts,h1,hne,ht,hdt,h3,hnt,ft⟩
 ·refine wpAny_leaving_firstW (base:=PySem.W.hideAll s.heap (ea::frs X.stack)) hfr (infr _ λb hb=>List.mem_cons_of_mem _ hb) hf he (λb o q=>PySem.W.of_hideAll _ q) (hidn _ _ List.mem_cons_self) hd h1 h0 λh' lw nc'=>?_
  rw [hc] at lw
  refine q6i (L:=ea::frs X.stack) I hst hex hn (fr0 ea fe) List.mem_cons_self (λb hb=>?_) (λb hb=>?_) lw nc' hE
  ·rcases List.mem_cons.mp hb with z | z
   ·rw [z];exact ⟨hn,.inl (fr0 ea fe)⟩
   ·exact stk b z
  ·rcases List.mem_cons.mp hb with z | z
   ·exact .inl z
   ·exact .inr (.inr z)
 ·refine wpAny_leaving_nextW (base:=PySem.W.hideAll s.heap (ea::tb::frs X.stack)) (cls:=.ref (T.ca c)) (a0:=a0) hfr (infr _ λb hb=>List.mem_cons_of_mem _ (List.mem_cons_of_mem _ hb)) hf ⟨oe,vs,tb,ot,ts,he,⟨hc,h0⟩,hd,h1,hidn _ _ (by simp),hne,ht,hdt,h3⟩ (λb o q=>PySem.W.of_hideAll _ q) (hidn _ _ List.mem_cons_self) λh' lw nc'=>?_
  refine q6i (L:=ea::tb::frs X.stack) I hst hex hn (fr0 ea fe) List.mem_cons_self (λb hb=>?_) (λb hb=>?_) lw nc' hE
  ·rcases List.mem_cons.mp hb with z | z
   ·rw [z];exact ⟨hn,.inl (fr0 ea fe)⟩
   ·rcases List.mem_cons.mp z with z | z
    ·rw [z];exact ⟨hnt,.inl (fr0 tb ft)⟩
    ·exact stk b z
  ·rcases List.mem_cons.mp hb with z | z
   ·exact .inl z
   ·rcases List.mem_cons.mp z with z | z
    ·rw [z];exact .inr (.inl ⟨ot,ts,ht,hdt,fr0 tb ft⟩)
    ·exact .inr (.inr z)
end
noncomputable def ArgOk (T:Tb) (K:PySem.W.Frag) (H:Hp) (v:V):Sl->Prop
 | .sh d=>Rep T K H d v
 | .bo ds=>∃a vs,v=.ref a/\H a=some (.lst vs)/\RepL T K H ds vs
 | .bi c ds=>∃a,v=.ref a/\InsAt T K H c a ds
 | _=>False
noncomputable def ArgsOk (T:Tb) (K:PySem.W.Frag) (H:Hp):List V->List Sl->Prop
 | vs,[]=>vs=[]
 | vs,s::ss=>∃v r,vs=v::r/\ArgOk T K H v s/\ArgsOk T K H r ss
section
variable {T:Tb} {K:PySem.W.Frag} {H H':Hp}
theorem ArgOk.mono {v:V} {s:Sl} (e:Same H H') (h:ArgOk T K H v s):ArgOk T K H' v s:=by
 cases s with
 | sh d=>exact Rep.mono e _ _ h
 | bo ds=>
  obtain ⟨a,vs,e1,e2,r⟩:=h
  exact ⟨a,vs,e1,e _ _ e2,RepL.mono e _ _ r⟩
 | bi c ds=>
  obtain ⟨a,e1,r⟩:=h
  exact ⟨a,e1,r.mono e⟩
 | _=>exact h
theorem ArgsOk.mono (e:Same H H'):∀(ss:List Sl) (vs:List V),ArgsOk T K H vs ss->ArgsOk T K H' vs ss
 | [],_,h=>h
 | s::ss,_,h=>by
  obtain ⟨v,r,e1,h1,h2⟩:=h
  exact ⟨v,r,e1,ArgOk.mono e h1,ArgsOk.mono e ss r h2⟩
theorem ArgsOk.length:∀(ss:List Sl) (vs:List V),ArgsOk T K H vs ss->vs.length=ss.length
 | [],_,h=>by cases h;rfl
 | s::ss,_,h=>by
  obtain ⟨v,r,rfl,_,h2⟩:=h
  simp [ArgsOk.length ss r h2]
theorem ArgsOk.get:∀(ss:List Sl) (vs:List V) (i:Nat) (s:Sl),ArgsOk T K H vs ss->ss[i]?=some s->∃v,vs[i]?=some v/\ArgOk T K H v s
 | [],_,_,_,_,e=>by simp at e
 | s::ss,_,0,x,h,e=>by
  obtain ⟨v,r,rfl,h1,_⟩:=h
  simp at e;subst e
  exact ⟨v,rfl,h1⟩
 | s::ss,_,i+1,x,h,e=>by
  obtain ⟨v,r,rfl,_,h2⟩:=h
  obtain ⟨u,e1,e2⟩:=ArgsOk.get ss r i x h2 (by simpa using e)
  exact ⟨u,by simpa using e1,e2⟩
theorem ArgsOk.append:∀(ss:List Sl) (vs:List V) (ts:List Sl) (us:List V),ArgsOk T K H vs ss->ArgsOk T K H us ts->ArgsOk T K H (vs++us) (ss++ts)
 | [],_,_,_,h,h'=>by cases h;exact h'
 | s::ss,_,ts,us,h,h'=>by
  obtain ⟨v,r,rfl,h1,h2⟩:=h
  exact ⟨v,r++us,rfl,h1,ArgsOk.append ss r ts us h2 h'⟩
end
noncomputable abbrev Fn:=List Sl->Out Rv
noncomputable def j8d (T:Tb) (K:PySem.W.Frag) (H:Hp) (Q:VK) (E:XK):Out Rv->Prop
 | .ok r=>∀v H',Same H H'->q5H T K H H' v r->Q v H'
 | .exc c=>∀H',Same H H'->E (.ref (T.ca c)) none H'
 | .bad=>False
noncomputable def spD (T:Tb) (K:PySem.W.Frag) (n:Nat) (F:Fn):Sp:=λvs H Q E=>∃ss:List Sl,ArgsOk T K H vs ss/\vs.length=n/\j8d T K H Q E (F ss)
@[simp] noncomputable def fnF (n:Nat) (f:Ro->Fl) (ss:List Sl):Out Rv:=match f (ss++List.replicate (n-ss.length) .no) with
 | .nx _=>.ok (.sh .non)
 | .rt r=>.ok r
 | .exc c _=>.exc c
 | _=>.bad
theorem q5S {T:Tb} {K:PySem.W.Frag} {H:Hp} {N:List Str} {vs:List V} {ss:List Sl} (hT:T.me=none) (h:ArgsOk T K H vs ss):FR T K H H (start N vs) (ss++List.replicate (N.length-ss.length) .no):=by
 have hl:=ArgsOk.length ss vs h
 have noow:∀(i:Nat) (s:Sl) (x:Option (Option V)) (b:Addr),(ss++List.replicate (N.length-ss.length) Sl.no)[i]?=some s->¬q38 H x b s:=λi s x b z o=>by
  by_cases hi:i < ss.length
  ·rw [List.getElem?_append_left hi] at z
   obtain ⟨v,_,r⟩:=ArgsOk.get ss vs i _ h z
   cases s with
   | sh d=>exact o
   | bo ds=>exact o
   | bi c ds=>exact o
   | _=>exact r
  ·rw [List.getElem?_append_right (by omega),List.getElem?_replicate] at z
   split at z
   ·cases z;exact o
   ·cases z
 have nome:∀(i:Nat) (c:Nat) (es:List D),(ss++List.replicate (N.length-ss.length) Sl.no)[i]?≠some (.me c es):=λi c es z=>by
  by_cases hi:i < ss.length
  ·rw [List.getElem?_append_left hi] at z
   obtain ⟨v,_,r⟩:=ArgsOk.get ss vs i _ h z
   exact r
  ·rw [List.getElem?_append_right (by omega),List.getElem?_replicate] at z
   split at z<;>cases z
 refine ⟨Same.refl H,by unfold L2.start;simp [hl],λi s e=>?_,λi j s t b _ z _ o _=>noow i s _ b z o,(λx e=>by rw [hT] at e;cases e),(λi c es z=>absurd z (nome i c es))⟩
 by_cases hi:i < ss.length
 ·rw [List.getElem?_append_left hi] at e
  obtain ⟨v,e1,r⟩:=ArgsOk.get ss vs i s h e
  have e2:(start N vs)[i]?=some (some v):=by
   unfold L2.start
   rw [List.getElem?_append_left (by simp [hl,hi]),List.getElem?_map,e1];rfl
  rw [e2]
  cases s with
  | sh d=>exact ⟨v,rfl,r⟩
  | bo ds=>
   obtain ⟨a,us,rfl,r2,r3⟩:=r
   exact ⟨a,us,rfl,r2,r3⟩
  | bi c ds=>
   obtain ⟨a,rfl,dx,fs,r2,r3,r4,r5⟩:=r
   exact ⟨a,dx,fs,rfl,r2,r3,r4,r5⟩
  | _=>exact r.elim
 ·rw [List.getElem?_append_right (by omega),List.getElem?_replicate] at e
  split at e
  ·cases e;trivial
  ·cases e
section
variable {P:Program} {w:World} {K:PySem.W.Frag} {mg:Str->Option Value} {base:Heap} {T:Tb}
noncomputable abbrev CxD (T:Tb) (P:Program) (w:World) (K:PySem.W.Frag) (mg:Str->Option Value) (base:Heap) (N:List Str) (qual:Str) (scope:Scope) (f:Addr) (cd:Value) (A:Around) (outer:List Env) (s:Shared) (H:Hp) (E:XK):Cx:=
 j0d (CXE T P w) P w K mg base N qual scope f cd A outer s H E
theorem q1A {x qual:Str} {st:Stmt} {fa:Addr} {fd:FuncData} {N ps:List Str} {k:Nat} {f:Ro->Fl} (hT:T.me=none) (F:L2.Fun K x qual st fa fd) (S:q0l N ps (q0g st))
 (hb:∀(cdv:Value) (A:Around) (outer:List Env) (s:Shared) (H:Hp) (E:XK),Room k (A.deeper (envOfC qual (q0g st) s.heap.objs.size fa cdv))->DSs T false (CxD T P w K mg base N qual (q0g st) fa cdv A outer s H E) (q0Z st) f) :
 q0M P w K mg base (CXE T P w) (k+1) fa fd ps (spD T K ps.length (fnF N.length f)):=by
 obtain ⟨oc,od,kV,doc,pm,an,cdv,ct,osl,rfl,lk,hcd⟩:=F.ex
 refine j4n lk hcd S (λvs H Q E ⟨ss,_,e,_⟩=>e) λA outer s H vs Q E hr ⟨ss,ha,hl,ho⟩=>?_
 have fr:=q5S (N:=N) hT ha
 have hb':=hb cdv A outer s H E hr
 refine ⟨_,hb'.run H (CxD T P w K mg base N qual (q0g st) fa cdv A outer s H E).xe PassesOwn.leaving,_,fr,?_⟩
 unfold fnF at ho
 cases e:f (ss++List.replicate (N.length-ss.length) .no) with
 | nx ρ=>
  rw [e] at ho
  exact fun σ H' fr' _=>ho .non H' fr'.same rfl
 | rt r=>
  rw [e] at ho
  exact λv H' hs r'=>ho v H' hs r'
 | exc c ρ=>
  rw [e] at ho
  intro σ' H' fr' _ pins s' u H'' I hs fl
  exact q2g I rfl rfl rfl fl (ho H'' (fr'.same.trans hs))
 | rm r c ds ks=>rw [e] at ho;exact ho.elim
 | bk ρ=>rw [e] at ho;exact ho.elim
 | ct ρ=>rw [e] at ho;exact ho.elim
 | bad=>rw [e] at ho;exact ho.elim
end
noncomputable def tG (T:Tb) (X:Cx) (G:Hp) (E:Value->Shared->Prop) (f:Ro->Out (List Sl)):TA:=fun σ H Q=>∃ρ,FR T X.K G H σ ρ/\Acc T X E σ H (f ρ) (λss=>∀vs H',Same H H'->ArgsOk T X.K H' vs ss->Q vs H')
structure DG (T:Tb) (X:Cx) (es:List Expr) (f:Ro->Out (List Sl)):Prop where
 mk ::
 run:∀(G:Hp) (E:Value->Shared->Prop),PassesOwn (model X.prog X.w) X.A X.env E->PA (X.wish E) es (tG T X G E f)
section
variable {T:Tb} {X:Cx} {e:Expr} {es:List Expr} {pos p:Pos} {fe:Ev} {fs:Ro->Out (List Sl)}
@[simp] noncomputable def gN0 (ρ:Ro):Out (List Sl):=.ok []
@[simp] noncomputable def gSh (fe:Ev) (fs:Ro->Out (List Sl)) (ρ:Ro):Out (List Sl):=(fe ρ).bind λd=>(fs ρ).bind λss=>.ok (.sh d::ss)
@[simp] noncomputable def gBo (i:Nat) (fs:Ro->Out (List Sl)) (ρ:Ro):Out (List Sl):=match ρ[i]? with
 | some (.ow ds)=>(fs ρ).bind λss=>.ok (.bo ds::ss)
 | some (.bo ds)=>(fs ρ).bind λss=>.ok (.bo ds::ss)
 | some (.mo ds)=>(fs ρ).bind λss=>.ok (.bo ds::ss)
 | some (.sh d)=>(fs ρ).bind λss=>.ok (.sh d::ss)
 | _=>.bad
theorem q0j:DG T X [] gN0:=.mk λG E hp=>PA.imp q1U fun σ H Q ⟨ρ,fr,h⟩=>h [] H (Same.refl H) rfl
theorem q0d (ha:DE T X e fe) (hr:DG T X es fs) (hs:starEach (e::es) X.env=(false,eval e X.env)::starEach es X.env:=by exact q0B rfl):DG T X (e::es) (gSh fe fs):=.mk λG E hp=>by
 refine PA.imp (q0S (X:=X.wish E) (ha.run G E hp) (hr.run G E hp) hs) fun σ H Q ⟨ρ,fr,h⟩=>?_
 refine ⟨ρ,fr,Acc.mono (Acc.bind h) λd _ hd v H1 s1 r1=>⟨ρ,fr.mono s1,Acc.mono (Acc.bind (Acc.heap s1 hd)) λss _ hss vs H2 s2 r2=>?_⟩⟩
 exact hss (v::vs) H2 (s1.trans s2) ⟨v,vs,rfl,Rep.mono s2 _ _ r1,r2⟩
theorem j5k (i:Nat) {x:Str} (hr:DG T X es fs) (hs:starEach (.Name x pos::es) X.env=(false,eval (.Name x pos) X.env)::starEach es X.env:=by exact q0B rfl) (hN:X.N[i]?=some x:=by rfl) (hv:Vis X.env.scope x:=by walk_at "v0") (hd:(x==("__debug__" : Str))=false:=by decide)
 (hcd:(x==("__classdict__" : Str))=false:=by decide):DG T X (.Name x pos::es) (gBo i fs):=.mk λG E hp=>by
 refine PA.imp (q0S (X:=X.wish E) (q1V (X:=X.wish E) hN hv hd hcd) (hr.run G E hp) hs) fun σ H Q ⟨ρ,fr,h⟩=>?_
 unfold gBo at h
 split at h
 ·rename_i ds e
  obtain ⟨a,vs,e1,e2,e3,r⟩:=fr.sl i _ e
  refine ⟨_,e1,ρ,fr,Acc.mono (Acc.bind h) λss _ hss us H2 s2 r2=>?_⟩
  exact hss (.ref a::us) H2 s2 ⟨_,us,rfl,⟨a,vs,rfl,s2 _ _ e2,RepL.mono s2 _ _ r⟩,r2⟩
 ·rename_i ds e
  obtain ⟨a,vs,e1,e2,r⟩:=fr.sl i _ e
  refine ⟨_,e1,ρ,fr,Acc.mono (Acc.bind h) λss _ hss us H2 s2 r2=>?_⟩
  exact hss (.ref a::us) H2 s2 ⟨_,us,rfl,⟨a,vs,rfl,s2 _ _ (fr.same _ _ e2),RepL.mono s2 _ _ r⟩,r2⟩
 ·rename_i ds e
  obtain ⟨a,vs,_,e1,e2,e3,r⟩:=fr.sl i _ e
  refine ⟨_,e1,ρ,fr,Acc.mono (Acc.bind h) λss _ hss us H2 s2 r2=>?_⟩
  exact hss (.ref a::us) H2 s2 ⟨_,us,rfl,⟨a,vs,rfl,s2 _ _ e2,RepL.mono s2 _ _ r⟩,r2⟩
 ·rename_i d e
  obtain ⟨v,e1,r⟩:=fr.sl i _ e
  refine ⟨_,e1,ρ,fr,Acc.mono (Acc.bind h) λss _ hss us H2 s2 r2=>?_⟩
  exact hss (v::us) H2 s2 ⟨_,us,rfl,Rep.mono s2 _ _ r,r2⟩
 ·exact h.elim
theorem Inv.flown {pins:List (Addr×Obj)} {σ:L2.St} {H:Hp} {s s':Shared} {E:XK} {u:Value} (I:Inv X pins σ H s) (h:CXE T X.prog X.w X.stack H s E u s'):∃c H',Inv X pins σ H' s'/\Flying T X pins c u H' s'/\E (.ref (T.ca c)) none H':=by
 obtain ⟨ea,c,H',rfl,os,bare,un,hok,⟨h1,h2,nc,oe,vs,a0,he,hc,hd,h0,ht⟩,hE⟩:=h
 have free:∀b,s.heap.get? b=none->Free X pins b:=λb hb=>by
  refine ⟨?_,λz=>?_,λx cc e z=>?_,λq hq z=>?_⟩
  ·by_cases hx:b∈X.ex
   ·exact .inl hx
   ·refine .inr ?_
    cases q:X.s₀.heap.get? b with
    | none=>rfl
    | some o=>
     obtain ⟨o',e⟩:=I.base.there b o q hx
     rw [hb] at e;cases e
  ·obtain ⟨m,⟨o,_,_,ho,_⟩,_⟩:=I.loc
   rw [<-z,hb] at ho;cases ho
  ·obtain ⟨v,o,ho,_⟩:=I.cell x cc e
   rw [z,hb] at ho;cases ho
  ·obtain ⟨e,_⟩:=I.pin q hq
   rw [z,hb] at e;cases e
 refine ⟨c,H',I.call' os un hok bare λb z=>absurd z (by simp),⟨ea,rfl,h1,free ea h2,nc,oe,vs,a0,he,hc,hd,h0,?_⟩,hE⟩
 rcases ht with ht | ⟨tb,ot,ts,t1,t2,t3,t4,t5,t6,t7⟩
 ·exact .inl ht
 ·exact .inr ⟨tb,ot,ts,t1,t2,t3,t4,t5,t6,free tb t7⟩
variable {k n:Nat} {f C:Addr} {fd:FuncData} {ps:List Str} {F:Fn} {ds:List Value} {dvs:List V} {dss:List Sl} {x m:Str} {apos:Pos} {o:Expr}
theorem j4V {pins:List (Addr×Obj)} {σ:L2.St} {H:Hp} {s:Shared} {E:Value->Shared->Prop} {Q:VK} {us:List Value} {vs:List V} {ss:List Sl} (FO:q0M X.prog X.w X.K X.mg X.base (CXE T X.prog X.w) k f fd ps (spD T X.K ps.length F)) (hr:Room k X.A) (hb:Binds X.K fd ps ds) (hd:Vals dvs ds)
 (I:Inv (X.wish E) pins σ H s) (r:Vals vs us) (ha:ArgsOk T X.K H (vs++dvs) ss) (hl:(us++ds).length=ps.length) (h:Acc T X E σ H (F ss) (λr=>∀v H',Same H H'->q5H T X.K H H' v r->Q v H')) :
 wpAny (model X.prog X.w) X.A (call (.ref f) us) (EP (X.wish E) pins σ Q) E s:=by
 have r2:Vals (vs++dvs) (us++ds):=r.append hd
 have IX:Inv X pins σ H s:=I.unwish
 let EX:XK:=λcls _ H'=>∃c,cls=.ref (T.ca c)/\F ss=.exc c/\Same H H'
 refine wpAny_call (codeAny_mono (FO.run X.A X.stack s H ⟨us,[]⟩ (us++ds) (vs++dvs) Q EX hr IX.env0 (hb s us IX.kIn hl) r2 ⟨ss,ha,r2.length.trans hl,?_⟩) λres s' hq=>?_)
 ·cases e:F ss with
  | ok r=>rw [e] at h;exact h
  | exc c=>exact λH' hs=>⟨c,rfl,e,hs⟩
  | bad=>rw [e] at h;exact h.elim
 ·cases res with
  | error ev=>
   obtain ⟨c,H',I',fl,c',ec,eF,hs⟩:=Inv.flown IX hq
   rw [eF] at h
   refine h pins s' ev H' I' hs ?_
   obtain ⟨ea,rfl,h1,h2,nc,oe,vs',a0,he,hc,rest⟩:=fl
   exact ⟨ea,rfl,h1,h2,nc,oe,vs',a0,he,hc.trans ec,rest⟩
  | ok fl=>
   cases fl with
   | ret u=>
    obtain ⟨v,H',I',rv,q⟩:=IX.after hq
    exact ⟨v,H',I'.wish E,rv,q⟩
   | next=>exact False.elim hq
   | brk=>exact False.elim hq
   | cont=>exact False.elim hq
@[simp] noncomputable def j0G (F:Fn) (dss:List Sl) (fs:Ro->Out (List Sl)) (ρ:Ro):Out Rv:=(fs ρ).bind λss=>if ss.length+dss.length=n then F (ss++dss) else .bad
theorem j3c (FO:q0M X.prog X.w X.K X.mg X.base (CXE T X.prog X.w) k f fd ps (spD T X.K ps.length F)) (hr:Room k X.A) (hg:Gl X x) (hm:X.mg x=some (.ref f)) (hk:PySem.W.keepIn X.K (.ref f)=true) (hb:Binds X.K fd ps ds) (hd:Vals dvs ds)
 (hds:∀H,ArgsOk T X.K H dvs dss) (hn:n=ps.length) (ha:DG T X (e::es) fs) (hdb:(x==("__debug__" : Str))=false:=by decide) (he:starEach (e::es) X.env=(false,eval e X.env)::starEach es X.env:=by exact q0B rfl) (hpl:(backTo pos (starEach es X.env)).any (·.1)=false:=by exact q0F rfl) :
 DR T X (.Call (.Name x p) (e::es) [] pos) (j0G (n:=n) F dss fs):=.mk λG E hp=>by
 rintro pins s σ H Q I ⟨ρ,fr,h⟩
 refine wpAny_Call_Name_kw (q2o (X:=X.wish E) I hg hm ?_ hdb)
 refine PySem.W.callWith_K (h₀:=X.base) I.ok.mod.kin hk (thn (ha.run G E hp pos pins s σ H (λvs H1=>∃ss,ArgsOk T X.K H1 vs ss/\ss.length+dss.length=n/\Same H H1/\Acc T X E σ H1 (F (ss++dss)) (λr=>∀v H',Same H1 H'->q5H T X.K H1 H' v r->Q v H')) I ⟨ρ,fr,?_⟩) λus s1 ⟨vs,H1,I1,r,ss,ha1,hl1,s1',q⟩=>⟨I1.kIn,?_⟩) he hpl
 ·refine Acc.mono (Acc.bind h) λss _ hss vs H1 s1 r1=>?_
  by_cases hl:ss.length+dss.length=n
  ·rw [if_pos hl] at hss
   exact ⟨ss,r1,hl,s1,Acc.mono (Acc.heap s1 hss) λr _ hr' v H' s2 r2=>hr' v H' (s1.trans s2) (q4p s1 r2)⟩
  ·rw [if_neg hl] at hss;exact hss.elim
 ·have la:=ArgsOk.length ss vs ha1
  have lr:=r.length
  have ld:=ArgsOk.length dss dvs (hds H1)
  have lv:=hd.length
  exact j4V (X:=X) FO hr hb hd I1 r (ArgsOk.append _ _ _ _ ha1 (hds H1)) (by simp only [List.length_append,List.nil_append];omega) q
end
theorem Inv.freeze {X:Cx} {pins:List (Addr×Obj)} {σ:L2.St} {H:Hp} {s:Shared} {a:Addr} {vs:List V} (I:Inv X pins σ H s) (h:H a=some (.lst vs)):∃o,Inv X pins σ (upd H a (.frz o (.lst vs))) s:=by
 obtain ⟨z,its,n,r,e⟩:=I.hok a _ h
 refine ⟨{ cls:=.type "list",data:=.seq its.toArray n },I.un (H':=upd H a (.frz { cls:=.type "list",data:=.seq its.toArray n } (.lst vs))) (h':=s.heap) (t':=s.toks) ⟨λb o q _ _ _=>q,λb o q _ _ _=>⟨o.slots,q⟩,λb o q n' _=>?_,λb o q _=>⟨o,q⟩,λb xs q=>?_,λb o u q=>?_,λb ps q=>⟨#[],?_⟩⟩ λb u q=>?_⟩
 ·rw [q0i (λz=>by rw [z,h] at n';cases n')];exact n'
 ·rw [q0i (λz=>by rw [z,h] at q;cases q)];exact q
 ·rw [q0i (λz=>by rw [z,h] at q;cases q)];exact q
 ·rw [q0i (λz=>by rw [z,h] at q;cases q),q];simp
 ·have own:∀b y,H b=some (.own y)->upd H a (.frz { cls:=.type "list",data:=.seq its.toArray n } (.lst vs)) b=some (.own y):=λb y q=>by
   rw [q0i (λz=>by rw [z,h] at q;cases q)];exact q
  have tup:∀b xs,H b=some (.tup xs)->upd H a (.frz { cls:=.type "list",data:=.seq its.toArray n } (.lst vs)) b=some (.tup xs):=λb y q=>by
   rw [q0i (λz=>by rw [z,h] at q;cases q)];exact q
  by_cases hb:b=a
  ·subst hb
   rw [q0p] at q;cases q
   exact ⟨e,(I.hok _ _ h).stay (λ_ _ _ q=>q) (λc=>own c _) tup⟩
  ·rw [q0i hb] at q
   exact (I.hok b u q).stay (λ_ _ _ q=>q) (λc=>own c _) tup
theorem PE.freeze {X:Cx} {e:Expr} {t:TE} (h:PE X e t):PE X e (fun σ H Q=>t σ H λv H1=>∃a vs,v=.ref a/\H1 a=some (.lst vs)/\∀o,Q v (upd H1 a (.frz o (.lst vs)))):=λpins s σ H Q I q=>
 thn (h pins s σ H _ I q) λu s1 ⟨v,H1,I1,r,a,vs,e,ha,k⟩=>by
  obtain ⟨o,I2⟩:=Inv.freeze I1 ha
  exact ⟨v,_,I2,r,k o⟩
theorem q0E {H:Hp} {a:Addr} {o:HO} (h:H a=none):Same H (upd H a o):=λb u e=>by
 rw [q0i (λz=>by rw [z,h] at e;cases e)];exact e
section
variable {T:Tb} {X:Cx} {e:Expr}
mutual
theorem Rep.froz {K:PySem.W.Frag} {H:Hp} {a:Addr} {vs:List V} {o:Obj} (h:H a=some (.lst vs)):∀(d:D) (v:V),Rep T K H d v->Rep T K (upd H a (.frz o (.lst vs))) d v
 | .non,_,q=>q
 | .bl _,_,q=>q
 | .int _,_,q=>q
 | .str _,_,q=>q
 | .tup ds,_,q=>by
  obtain ⟨b,ws,r1,r2,r3⟩:=q
  refine ⟨b,ws,r1,?_,RepL.froz h ds ws r3⟩
  rcases r2 with (r2 | ⟨o',r2⟩) | r2
  ·exact .inl (.inl (by rw [q0i (λz=>by rw [z,h] at r2;cases r2)];exact r2))
  ·exact .inl (.inr ⟨o',by rw [q0i (λz=>by rw [z,h] at r2;cases r2)];exact r2⟩)
  ·exact .inr r2
 | .lst ds,_,q=>by
  obtain ⟨b,ws,r1,r2,r3⟩:=q
  refine ⟨b,ws,r1,?_,RepL.froz h ds ws r3⟩
  rcases r2 with ⟨o',r2⟩ | r2
  ·exact .inl ⟨o',by rw [q0i (λz=>by rw [z,h] at r2;cases r2)];exact r2⟩
  ·exact .inr r2
 | .ins c ds,_,q=>by
  obtain ⟨b,dx,fs,r1,r2,r3,r4⟩:=q
  exact ⟨b,dx,fs,r1,by rw [q0i (λz=>by rw [z,h] at r2;cases r2)];exact r2,r3,RepL.froz h ds _ r4⟩
 | .exc c,_,q=>by
  obtain ⟨b,o',r1,r2,r3⟩:=q
  exact ⟨b,o',r1,by rw [q0i (λz=>by rw [z,h] at r2;cases r2)];exact r2,r3⟩
theorem RepL.froz {K:PySem.W.Frag} {H:Hp} {a:Addr} {vs:List V} {o:Obj} (h:H a=some (.lst vs)):∀(ds:List D) (us:List V),RepL T K H ds us->RepL T K (upd H a (.frz o (.lst vs))) ds us
 | [],_,q=>q
 | d::ds,_,q=>by
  obtain ⟨v,r,r1,r2,r3⟩:=q
  exact ⟨v,r,r1,Rep.froz h d v r2,RepL.froz h ds r r3⟩
end
@[simp] noncomputable def q1l (f:Ro->Out (List D)) (ρ:Ro):Out D:=(f ρ).bind λds=>.ok (.lst ds)
theorem DF.de {f:Ro->Out (List D)} (h:DF T X e f):DE T X e (q1l f):=.mk λG E hp=>by
 refine PE.imp (PE.freeze (h.run G E hp)) fun σ H Q ⟨ρ,fr,q⟩=>⟨ρ,fr,Acc.mono (Acc.bind q) λds _ hd a vs H' s1 ha ha' r=>⟨a,vs,rfl,ha',λo=>?_⟩⟩
 refine hd _ _ (λb u e=>?_) ⟨a,vs,rfl,.inl ⟨o,q0p⟩,RepL.froz ha' _ _ r⟩
 rw [q0i (λz=>by rw [z,ha] at e;cases e)];exact s1 b u e
theorem DF.dr {f:Ro->Out (List D)} (h:DF T X e f):DR T X e (fun ρ=>(f ρ).bind λds=>.ok (.fr ds)):=.mk λG E hp=>
 PE.imp (h.run G E hp) fun σ H Q ⟨ρ,fr,q⟩=>⟨ρ,fr,Acc.mono (Acc.bind q) λds _ hd a vs H' s1 ha ha' r=>hd _ _ s1 ⟨a,vs,rfl,ha',ha,r⟩⟩
@[simp] noncomputable def mkO (t:Bool) (ds:List D):D:=if t=true then .tup ds else .lst ds
@[simp] noncomputable def Rv.d:Rv->D
 | .sh d=>d
 | .fr ds=>.lst ds
 | .tf t pre ds post=>mkO t (pre++.lst ds::post)
theorem OutAt.rep {K:PySem.W.Frag} {H:Hp} {t:Bool} {a b:Addr} {vp vq ws:List V} {pre ds post:List D} {o:Obj} (e2:OutAt H t a (vp++.ref b::vq)) (r1:RepL T K H pre vp) (r2:RepL T K H post vq) (e3:H b=some (.lst ws)) (r3:RepL T K H ds ws) :
 Rep T K (upd H b (.frz o (.lst ws))) (mkO t (pre++.lst ds::post)) (.ref a):=by
 have hl:RepL T K (upd H b (.frz o (.lst ws))) (pre++.lst ds::post) (vp++.ref b::vq):=
  RepL.append _ _ _ _ (RepL.froz e3 _ _ r1) ⟨_,_,rfl,⟨b,ws,rfl,.inl ⟨o,q0p⟩,RepL.froz e3 _ _ r3⟩,RepL.froz e3 _ _ r2⟩
 have ha:OutAt (upd H b (.frz o (.lst ws))) t a (vp++.ref b::vq):=e2.keep λu q _ _=>by
  rw [q0i (λz=>by subst z;exact e2.nlst e3)];exact q
 cases t with
 | true=>exact ⟨a,_,rfl,.inl (.inl ha),hl⟩
 | false=>
  obtain ⟨o',ha⟩:=ha
  exact ⟨a,_,rfl,.inl ⟨o',ha⟩,hl⟩
@[simp] noncomputable def rD (f:Ro->Out Rv) (ρ:Ro):Out D:=(f ρ).bind λr=>.ok r.d
theorem DR.de {f:Ro->Out Rv} (h:DR T X e f):DE T X e (rD f):=.mk λG E hp=>by
 rintro pins s σ H Q I ⟨ρ,fr,q⟩
 refine thn (h.run G E hp pins s σ H (λv H1=>∃r,Same H H1/\q5H T X.K H H1 v r/\kE T X.K H Q r.d) I ⟨ρ,fr,Acc.mono (Acc.bind q) λr _ hr v H' s1 r1=>⟨r,s1,r1,hr⟩⟩) λu s1 ⟨v,H1,I1,rv,r,sm,rok,k⟩=>?_
 cases r with
 | sh d=>exact ⟨v,H1,I1,rv,k v H1 sm rok⟩
 | fr ds=>
  obtain ⟨a,vs,rfl,ha',ha,rl⟩:=rok
  obtain ⟨o,I2⟩:=Inv.freeze I1 ha'
  refine ⟨_,_,I2,rv,k _ _ (λb u e=>?_) ⟨a,vs,rfl,.inl ⟨o,q0p⟩,RepL.froz ha' _ _ rl⟩⟩
  rw [q0i (λz=>by rw [z,ha] at e;cases e)];exact sm b u e
 | tf t pre ds post=>
  obtain ⟨a,vp,b,vq,ws,rfl,e2,r1,r2,e3,e4,r3⟩:=rok
  obtain ⟨o,I2⟩:=Inv.freeze I1 e3
  refine ⟨_,_,I2,rv,k _ _ (λc u e=>?_) (e2.rep r1 r2 e3 r3)⟩
  rw [q0i (λz=>by rw [z,e4] at e;cases e)];exact sm c u e
theorem DF.dl {f:Ro->Out (List D)} (h:DF T X e f):DL T X e f:=.mk λG E hp=>
 PE.imp (h.run G E hp) fun σ H Q ⟨ρ,fr,q⟩=>⟨ρ,fr,Acc.mono q λds _ hd a vs H' s1 ha ha' r=>hd a vs H' s1 (SqL.of ha') r⟩
@[simp] noncomputable def D.toL:D->Out (List D)
 | .lst ds=>.ok ds
 | _=>.bad
@[simp] noncomputable def q15 (f:Ev) (ρ:Ro):Out (List D):=(f ρ).bind D.toL
theorem DE.dl {f:Ev} (h:DE T X e f):DL T X e (q15 f):=.mk λG E hp=>
 PE.imp (h.run G E hp) fun σ H Q ⟨ρ,fr,q⟩=>⟨ρ,fr,Acc.mono (Acc.bind q) λd _ hd v H' s1 r=>by
  cases d with
  | lst ds=>
   obtain ⟨a,vs,rfl,e2,r2⟩:=r
   exact hd a vs H' s1 e2.sq r2
  | _=>exact hd.elim⟩
end
section
variable {T:Tb} {X:Cx} {a b:Expr} {rest:List Expr} {pos:Pos} {fa fb:Ro->Out Bool} {f:Ev}
@[simp] noncomputable def D.tru:D->Out Bool
 | .non=>.ok false
 | .bl b=>.ok b
 | .int i=>.ok (i != 0)
 | .str x=>if x.length<=1000000 then .ok ((x.length:Int) != 0) else .bad
 | .tup ds=>.ok (!ds.isEmpty)
 | .lst ds=>.ok (!ds.isEmpty)
 | _=>.bad
theorem line6 {n:Nat} (h:n<=1000000):n<=sizeLine:=by rw [sizeLine_eq];omega
theorem q4f {ds:List D} {vs:List V} (h:vs.length=ds.length):(!vs.isEmpty)=!ds.isEmpty:=by
 cases ds<;>cases vs<;>simp_all
theorem w1E {H:Hp} {d:D} {v:V} {k:Bool} (r:Rep T X.K H d v) (h:d.tru=.ok k):j9m X.K v H k:=by
 cases d with
 | non=>cases r;cases h;exact rfl
 | bl b=>cases r;cases h;exact rfl
 | int i=>cases r;cases h;exact rfl
 | str x=>
  cases r
  have h':(if x.length<=1000000 then Out.ok ((x.length:Int) != 0) else .bad)=.ok k:=h
  by_cases z:x.length<=1000000
  ·rw [if_pos z] at h';cases h';exact ⟨line6 z,rfl⟩
  ·rw [if_neg z] at h';cases h'
 | tup ds=>
  obtain ⟨a,vs,rfl,e,r⟩:=r
  cases h
  exact .inr (.inl ⟨vs,e,(q4f (RepL.length _ _ r)).symm⟩)
 | lst ds=>
  obtain ⟨a,vs,rfl,e,r⟩:=r
  cases h
  exact .inl ⟨vs,e.sq,(q4f (RepL.length _ _ r)).symm⟩
 | ins c ds=>cases h
 | exc c=>cases h
@[simp] noncomputable def q9j (f:Ev) (ρ:Ro):Out Bool:=(f ρ).bind D.tru
theorem q1i (h:DE T X a f) (he:∀whole,isTrue a X.env whole=(do let v <-whole;standAt a.pos;holding [v] (truthy v)):=by intro _;rfl):DT T X a (q9j f):=.mk λG E hp=>by
 refine PT.imp (j0l (X:=X.wish E) (h.run G E hp) he) fun σ H Q ⟨ρ,fr,q⟩=>⟨ρ,fr,Acc.mono (Acc.bind q) λd _ hd v H' s1 r=>?_⟩
 cases e:d.tru with
 | ok k=>rw [e] at hd;exact ⟨k,w1E r e,hd H' s1⟩
 | exc c=>
  cases d with
  | str x=>
   have h':(if x.length<=1000000 then Out.ok ((x.length:Int) != 0) else .bad)=.exc c:=e
   by_cases z:x.length<=1000000
   ·rw [if_pos z] at h';cases h'
   ·rw [if_neg z] at h';cases h'
  | _=>cases e
 | bad=>rw [e] at hd;exact hd.elim
@[simp] noncomputable def q2q (f:Ro->Out Bool) (ρ:Ro):Out Bool:=(f ρ).bind λb=>.ok (!b)
@[simp] noncomputable def q9J (f g:Ro->Out Bool) (ρ:Ro):Out Bool:=(f ρ).bind λb=>if b=true then g ρ else .ok false
@[simp] noncomputable def j55 (f g:Ro->Out Bool) (ρ:Ro):Out Bool:=(f ρ).bind λb=>if b=true then .ok true else g ρ
theorem q1I (h:DT T X a fa):DT T X (.UnaryOp .Not a pos) (q2q fa):=.mk λG E hp=>
 PT.imp (j4S (X:=X.wish E) (h.run G E hp)) fun σ H Q ⟨ρ,fr,q⟩=>⟨ρ,fr,Acc.mono (Acc.bind q) λb _ hb H' s1=>hb H' s1⟩
theorem q43 (ha:DT T X a fa):DW T X (.BoolOp .And [a] pos) fa:=.mk λG E hp=>j3C (ha.run G E hp)
theorem q5W (ha:DT T X a fa):DW T X (.BoolOp .Or [a] pos) fa:=.mk λG E hp=>j5w (ha.run G E hp)
theorem q7Z (ha:DT T X a fa) (hb:DW T X (.BoolOp .And (b::rest) pos) fb):DW T X (.BoolOp .And (a::b::rest) pos) (q9J fa fb):=.mk λG E hp=>
 PW.imp (j6C (ha.run G E hp) (hb.run G E hp)) fun σ H Q ⟨ρ,fr,q⟩=>⟨ρ,fr,Acc.mono (Acc.bind q) λb _ hb H' s1=>by
  cases b with
  | true=>exact ⟨ρ,fr.mono s1,Acc.mono (Acc.heap s1 hb) λc _ hc H2 s2=>hc H2 (s1.trans s2)⟩
  | false=>exact hb H' s1⟩
theorem j0D (ha:DT T X a fa) (hb:DW T X (.BoolOp .Or (b::rest) pos) fb):DW T X (.BoolOp .Or (a::b::rest) pos) (j55 fa fb):=.mk λG E hp=>
 PW.imp (j81 (ha.run G E hp) (hb.run G E hp)) fun σ H Q ⟨ρ,fr,q⟩=>⟨ρ,fr,Acc.mono (Acc.bind q) λb _ hb H' s1=>by
  cases b with
  | false=>exact ⟨ρ,fr.mono s1,Acc.mono (Acc.heap s1 hb) λc _ hc H2 s2=>hc H2 (s1.trans s2)⟩
  | true=>exact hb H' s1⟩
variable {ga gb:Ev}
@[simp] noncomputable def j3f (f g:Ev) (ρ:Ro):Out D:=(f ρ).bind λd=>d.toB.bind λb=>if b=true then g ρ else .ok (.bl false)
@[simp] noncomputable def j5X (f:Ev) (ρ:Ro):Out D:=(f ρ).bind λd=>d.toB.bind λb=>.ok (.bl (!b))
theorem q47 {α:Type} {E:Value->Shared->Prop} {σ:L2.St} {H:Hp} {d:D} {g:Bool->Out α} {k:α->Prop} (h:Acc T X E σ H (d.toB.bind g) k):∃b,d=.bl b/\Acc T X E σ H (g b) k:=by
 cases d with
 | bl b=>exact ⟨b,rfl,h⟩
 | _=>exact h.elim
theorem j6U {op} (h:DE T X a ga):DE T X (.BoolOp op [a] pos) ga:=.mk λG E hp=>j6c (h.run G E hp)
theorem j1Z (ha:DE T X a ga) (hb:DE T X (.BoolOp .And (b::rest) pos) gb):DE T X (.BoolOp .And (a::b::rest) pos) (j3f ga gb):=.mk λG E hp=>
 PE.imp (j5b (ha.run G E hp) (hb.run G E hp)) fun σ H Q ⟨ρ,fr,q⟩=>⟨ρ,fr,Acc.mono (Acc.bind q) λd _ hd v H' s1 r=>by
  obtain ⟨c,rfl,hc⟩:=q47 hd
  refine ⟨c,r,?_⟩
  cases c with
  | true=>exact ⟨ρ,fr.mono s1,Acc.mono (Acc.heap s1 hc) λc _ hc v2 H2 s2 r2=>hc v2 H2 (s1.trans s2) r2⟩
  | false=>exact hc _ H' s1 rfl⟩
theorem j5V (ha:DE T X a ga):DE T X (.UnaryOp .Not a pos) (j5X ga):=.mk λG E hp=>
 PE.imp (j59 (ha.run G E hp)) fun σ H Q ⟨ρ,fr,q⟩=>⟨ρ,fr,Acc.mono (Acc.bind q) λd _ hd v H' s1 r=>by
  obtain ⟨c,rfl,hc⟩:=q47 hd
  exact ⟨c,r,hc _ H' s1 rfl⟩⟩
end
section
variable {T:Tb} {ib:Bool} {X:Cx} {e:Expr} {st:Stmt} {sts:List Stmt} {pos pos':Pos} {f g:Ro->Fl} {fe:Ev}
theorem q0v:DSs T ib X [] Fl.nx:=.mk λG E hp=>PSs.imp j2Z λD σ H ⟨ρ,fr,h⟩=>h σ H fr (Pers.refl H)
theorem q0c (h1:DS T ib X st f) (h2:DSs T ib X sts g):DSs T ib X (st::sts) (fun ρ=>(f ρ).bind g):=.mk λG E hp=>
 PSs.imp (q5U (h1.run G E hp) (h2.run G E hp)) λD σ H ⟨ρ,fr,h⟩=>⟨ρ,fr,by
  have h:AccS T ib X G E H ((f ρ).bind g) D:=h
  cases e:f ρ with
  | nx ρ'=>rw [e] at h;exact fun σ' H' fr' p=>⟨ρ',fr',AccS.heap p h⟩
  | rt r=>rw [e] at h;exact h
  | rm r c ds ks=>rw [e] at h;exact h
  | exc c ρ'=>rw [e] at h;exact h
  | bk ρ'=>rw [e] at h;exact h
  | ct ρ'=>rw [e] at h;exact h
  | bad=>rw [e] at h;exact h⟩
theorem q0h (h1:DS T ib X st f):DSs T ib X [st] f:=.mk λG E hp=>j3p (h1.run G E hp)
@[simp] noncomputable def q1n (i:Nat) (fe:Ev) (ρ:Ro):Fl:=(fe ρ).fl ρ λd=>.nx (ρ.set i (.sh d))
theorem q0w (i:Nat) {x:Str} (hN:X.N.Nodup) (he:DE T X e fe) (hi:X.N[i]?=some x:=by rfl) (hx:Loc X.env.scope x:=by walk_at "v3") (hs:swapsWith e (some (.Name x pos')) pos.line X.env=pure false:=by exact q1k rfl) (hf:X.fn x=true∨X.env.scope.names.lookup x=some .local:=by walk_at "v2")
 (hz:T.me=none∨i≠0:=by walk_at "v1") :
 DS T ib X (.Assign [.Name x pos'] e pos) (q1n i fe):=.mk λG E hp=>
 PS.imp (q55 (X:=X.wish E) hN hi hx (he.run G E hp) hs hf) λD σ H ⟨ρ,fr,h⟩=>⟨ρ,fr,Acc.mono (AccS.fl fr h) λd _ hd v H1 s1 r1=>hd _ _ ((fr.mono s1).set_sh r1 hz) (Pers.of s1)⟩
theorem q5v {K:PySem.W.Frag} {G H H1:Hp} {σ:L2.St} {ρ:Ro} {a:Addr} (fr:FR T K G H σ ρ) (s1:Same H H1) (ha:H a=none) (j:Nat) (s:Sl) (e:ρ[j]?=some s):¬q38 H1 σ[j]? a s:=λz=>by
 obtain ⟨⟨ws,q⟩,_⟩:=(fr.sl j s e).own ((fr.sl j s e).back (λa o q _ _=>s1 a o q) z)
 rw [ha] at q;cases q
@[simp] noncomputable def q5o (i:Nat) (f:Ro->Out Rv) (ρ:Ro):Fl:=(f ρ).fl ρ λr=>.nx (ρ.set i (match r with | .sh d=>.sh d | .fr ds=>.ow ds | .tf t pre ds post=>.ox t pre ds post))
theorem q23 (i:Nat) {x:Str} {f:Ro->Out Rv} (hN:X.N.Nodup) (he:DR T X e f) (hi:X.N[i]?=some x:=by rfl) (hx:Loc X.env.scope x:=by walk_at "v3") (hs:swapsWith e (some (.Name x pos')) pos.line X.env=pure false:=by exact q1k rfl) (hf:X.fn x=true∨X.env.scope.names.lookup x=some .local:=by walk_at "v2")
 (hz:T.me=none∨i≠0:=by walk_at "v1") :
 DS T ib X (.Assign [.Name x pos'] e pos) (q5o i f):=.mk λG E hp=>
 PS.imp (q55 (X:=X.wish E) hN hi hx (he.run G E hp) hs hf) λD σ H ⟨ρ,fr,h⟩=>⟨ρ,fr,Acc.mono (AccS.fl fr h) λr _ hr v H1 s1 r1=>by
  cases r with
  | sh d=>exact hr _ _ ((fr.mono s1).set_sh r1 hz) (Pers.of s1)
  | fr ds=>
   obtain ⟨a,vs,rfl,ha',ha,rl⟩:=r1
   exact hr _ _ ((fr.mono s1).set_ow ha' (fr.same.free ha) rl (λj es _ e=>q5v (H1:=H1) fr s1 ha j es e) hz) (Pers.of s1)
  | tf t pre ds post=>
   obtain ⟨a,vp,b,vq,ws,rfl,e2,q1,q2,e3,e4,q3⟩:=r1
   refine hr _ _ ((fr.mono s1).set_own (.ox t pre ds post) (λ_=>⟨a,vp,b,vq,ws,rfl,e2,q1,q2,e3,fr.same.free e4,q3⟩) (λj s c hj q o1 o2=>?_) (λ_ _ z=>by cases z) hz) (Pers.of s1)
   obtain ⟨a',us,z1,z2,z3⟩:=o1
   cases z1
   have:=e2.uniq z2
   subst this
   rw [<-RepL.length _ _ q1,List.getElem?_append_right (Nat.le_refl _),Nat.sub_self] at z3
   have z3:(some (V.ref b))=some (.ref c):=z3
   cases z3
   exact q5v (H1:=H1) fr s1 e4 j s q o2⟩
@[simp] noncomputable def sIf (t:Ro->Out Bool) (f g:Ro->Fl) (ρ:Ro):Fl:=(t ρ).fl ρ λb=>if b=true then f ρ else g ρ
theorem q0I {c:Expr} {a b:List Stmt} {ft:Ro->Out Bool} (hc:DT T X c ft) (ha:DSs T ib X a f) (hb:DSs T ib X b g):DS T ib X (.If c a b pos) (sIf ft f g):=.mk λG E hp=>
 PS.imp (j9w (hc.run G E hp) (ha.run G E hp) (hb.run G E hp)) λD σ H ⟨ρ,fr,h⟩=>⟨ρ,fr,Acc.mono (AccS.fl fr h) λb _ hb H1 s1=>by
  cases b with
  | true=>exact ⟨ρ,fr.mono s1,AccS.heap (Pers.of s1) hb⟩
  | false=>exact ⟨ρ,fr.mono s1,AccS.heap (Pers.of s1) hb⟩⟩
@[simp] noncomputable def q2G (fe:Ev) (ρ:Ro):Fl:=(fe ρ).fl ρ λd=>.rt (.sh d)
theorem q0O (he:DE T X e fe):DS T ib X (.Return (some e) pos) (q2G fe):=.mk λG E hp=>
 PS.imp (q53 (he.run G E hp)) λD σ H ⟨ρ,fr,h⟩=>⟨ρ,fr,Acc.mono (AccS.fl fr h) λd _ hd v H1 s1 r1=>hd v H1 (fr.same.trans s1) r1⟩
@[simp] noncomputable def q6O (f:Ro->Out Rv) (ρ:Ro):Fl:=(f ρ).fl ρ λr=>.rt r
theorem q3e {f:Ro->Out Rv} (he:DR T X e f):DS T ib X (.Return (some e) pos) (q6O f):=.mk λG E hp=>
 PS.imp (q53 (he.run G E hp)) λD σ H ⟨ρ,fr,h⟩=>⟨ρ,fr,Acc.mono (AccS.fl fr h) λr _ hr v H1 s1 r1=>hr v H1 (fr.same.trans s1) (q4p fr.same r1)⟩
@[simp] noncomputable def q9u (i:Nat) (ρ:Ro):Fl:=match ρ[i]? with
 | some (.ow ds)=>.rt (.fr ds)
 | some (.sh d)=>.rt (.sh d)
 | _=>.bad
theorem q8g (i:Nat) {x:Str} (hN:X.N[i]?=some x:=by rfl) (hv:Vis X.env.scope x:=by walk_at "v0") (hd:(x==("__debug__" : Str))=false:=by decide)
 (hcd:(x==("__classdict__" : Str))=false:=by decide):DS T ib X (.Return (some (.Name x pos')) pos) (q9u i):=.mk λG E hp=>
 PS.imp (q53 (q1V (X:=X.wish E) hN hv hd hcd)) λD σ H ⟨ρ,fr,h⟩=>by
  unfold q9u at h
  split at h
  ·rename_i ds e
   obtain ⟨a,vs,e1,e2,e3,r⟩:=fr.sl i _ e
   exact ⟨_,e1,h _ H fr.same ⟨a,vs,rfl,e2,e3,r⟩⟩
  ·rename_i d e
   obtain ⟨v,e1,r⟩:=fr.sl i _ e
   exact ⟨_,e1,h _ H fr.same r⟩
  ·exact h.elim
@[simp] noncomputable def q0P (fe:Ev) (ρ:Ro):Fl:=(fe ρ).fl ρ λ_=>.nx ρ
theorem q0u (he:DE T X e fe) (hs:swapsWith e none pos.line X.env=pure false:=by exact q1k rfl):DS T ib X (.Expr e pos) (q0P fe):=.mk λG E hp=>
 PS.imp (q8Z (X:=X.wish E) (he.run G E hp) hs) λD σ H ⟨ρ,fr,h⟩=>⟨ρ,fr,Acc.mono (AccS.fl fr h) λd _ hd v H1 s1 r1=>hd σ H1 (fr.mono s1) (Pers.of s1)⟩
theorem q8c {K:PySem.W.Frag} {G H:Hp} {σ:L2.St} {ρ:Ro} {i:Nat} {a:Addr} {vs:List V} {s0:Sl} {d:D} {v:V} {o:Obj} (fr:FR T K G H σ ρ) (e:ρ[i]?=some s0) (oa:q38 H σ[i]? a s0) (e2:H a=some (.lst vs)) (e3:G a=none) (e1:σ[i]?=some (some v)) (r:Rep T K (upd H a (.frz o (.lst vs))) d v) :
 FR T K G (upd H a (.frz o (.lst vs))) σ (ρ.set i (.sh d)):=by
 have hl:i < ρ.length:=(List.getElem?_eq_some_iff.mp e).1
 have lt:∀{m:Nat} {z:Sl},(ρ.set i (.sh d))[m]?=some z->m=i∨(m≠i/\ρ[m]?=some z):=λ{m z} q=>by
  by_cases hm:m=i
  ·exact .inl hm
  ·rw [List.getElem?_set_ne (Ne.symm hm)] at q;exact .inr ⟨hm,q⟩
 refine ⟨λb u q=>?_,by simp [fr.len],λj s q=>?_,λj k s1 s2 b hjk q1 q2 o1 o2=>?_,fr.me,q3D (λ_ _ z=>by cases z) fr.me0⟩
 ·rw [q0i (λz=>by rw [z,e3] at q;cases q)];exact fr.same b u q
 ·rcases lt q with rfl | ⟨hj,q⟩
  ·rw [List.getElem?_set_self hl] at q;cases q
   exact ⟨_,e1,r⟩
  ·have h:=fr.sl j s q
   exact SlOk.off e2 (λ_ _=>RepL.froz e2 _ _) (λo1=>fr.ne j i _ _ a hj q e o1 oa) h
 ·have hj:j≠i:=by
   rintro rfl
   rw [List.getElem?_set_self hl] at q1;cases q1;exact o1
  have hk:k≠i:=by
   rintro rfl
   rw [List.getElem?_set_self hl] at q2;cases q2;exact o2
  rw [List.getElem?_set_ne (Ne.symm hj)] at q1
  rw [List.getElem?_set_ne (Ne.symm hk)] at q2
  have bk:∀(c:Addr) (u:HO),H c=some u->(∀xs,u≠.lst xs)->(∀x dx fs,u≠.ins x dx fs)->upd H a (.frz o (.lst vs)) c=some u:=λc u w n _=>by
   rw [q0i (λy=>by subst y;rw [e2] at w;cases w;exact n _ rfl)];exact w
  exact fr.ne j k s1 s2 b hjk q1 q2 ((fr.sl j s1 q1).back bk o1) ((fr.sl k s2 q2).back bk o2)
theorem j6q {K:PySem.W.Frag} {G H:Hp} {σ:L2.St} {ρ:Ro} {i:Nat} {a:Addr} {vs:List V} {ds:List D} {o:Obj} (fr:FR T K G H σ ρ) (e:ρ[i]?=some (.ow ds)) (e1:σ[i]?=some (some (.ref a))) (e2:H a=some (.lst vs)) (e3:G a=none) (r:RepL T K H ds vs) :
 FR T K G (upd H a (.frz o (.lst vs))) σ (ρ.set i (.sh (.lst ds))):=q8c fr e e1 e2 e3 e1 ⟨a,vs,rfl,.inl ⟨o,q0p⟩,RepL.froz e2 _ _ r⟩
theorem j63 {K:PySem.W.Frag} {H:Hp} {x:Option (Option V)} {t:Bool} {a b:Addr} {vp vq:List V} {pre ds post:List D} (z1:x=some (some (.ref a))) (z2:OutAt H t a (vp++.ref b::vq)) (z3:RepL T K H pre vp):q38 H x b (.ox t pre ds post):=
 ⟨a,_,z1,z2,by rw [<-RepL.length _ _ z3,List.getElem?_append_right (Nat.le_refl _),Nat.sub_self];rfl⟩
theorem j5o {K:PySem.W.Frag} {G H:Hp} {σ:L2.St} {ρ:Ro} {i:Nat} {t:Bool} {a b:Addr} {vp vq ws:List V} {pre ds post:List D} {o:Obj} (fr:FR T K G H σ ρ) (e:ρ[i]?=some (.ox t pre ds post)) (e1:σ[i]?=some (some (.ref a))) (e2:OutAt H t a (vp++.ref b::vq)) (r1:RepL T K H pre vp) (r2:RepL T K H post vq) (e3:H b=some (.lst ws)) (e4:G b=none) (r3:RepL T K H ds ws) :
 FR T K G (upd H b (.frz o (.lst ws))) σ (ρ.set i (.sh (mkO t (pre++.lst ds::post)))):=q8c fr e (j63 e1 e2 r1) e3 e4 e1 (e2.rep r1 r2 e3 r3)
end
noncomputable def q18 (b:Ro->D->Fl):List D->Ro->Fl
 | [],ρ=>.nx ρ
 | d::ds,ρ=>match b ρ d with
  | .nx ρ'=>q18 b ds ρ'
  | .ct ρ'=>q18 b ds ρ'
  | .bk ρ'=>.nx ρ'
  | o=>o
section
variable {T:Tb} {ib:Bool} {X:Cx} {tg iter:Expr} {body:List Stmt} {pos:Pos} {fb:Ro->Fl}
noncomputable def TgD (T:Tb) (X:Cx) (tg:Expr) (g:Ro->D->Out Ro):Prop:=∀(E:Value->Shared->Prop),∃tgr:TG,PG (X.wish E) tg tgr/\∀(G H:Hp) (σ:L2.St) (ρ ρ':Ro) (d:D) (v:V) (Q:L2.St->Hp->Prop),FR T X.K G H σ ρ->Rep T X.K H d v->g ρ d=.ok ρ'->(∀σ',FR T X.K G H σ' ρ'->Q σ' H)->tgr v σ H Q
@[simp] noncomputable def q2E (i:Nat) (ρ:Ro) (d:D):Out Ro:=.ok (ρ.set i (.sh d))
theorem q1E (i:Nat) {x:Str} (hN:X.N.Nodup) (hi:X.N[i]?=some x:=by rfl) (hx:Loc X.env.scope x:=by walk_at "v3") (hf:X.fn x=true∨X.env.scope.names.lookup x=some .local:=by walk_at "v2") (hz:T.me=none∨i≠0:=by walk_at "v1"):TgD T X (.Name x pos) (q2E i):=λE=>
 ⟨_,q3L (X:=X.wish E) (i:=i) hN hi hx hf,λG H σ ρ ρ' d v Q fr r e k=>by cases e;exact k _ (fr.set_sh r hz)⟩
@[simp] noncomputable def q0G (g:Ro->D->Out Ro) (fb:Ro->Fl) (ρ:Ro) (d:D):Fl:=match g ρ d with
 | .ok ρ'=>fb ρ'
 | _=>.bad
theorem j0w {G H:Hp} {E:Value->Shared->Prop} {D:Ends} {o:Fl} {N:L2.St->Hp->Prop} {k:Ro->Fl}
 (h:AccS T ib X G E H (match o with | .nx ρ'=>k ρ' | .ct ρ'=>k ρ' | .bk ρ'=>.nx ρ' | o=>o) D)
 (hN:∀ρ' σ' H',FR T X.K G H' σ' ρ'->Pers T ib H H'->AccS T ib X G E H' (k ρ') D->N σ' H'):AccS T ib X G E H o { D with nx:=N,ct:=N,bk:=D.nx }:=by
 cases o with
 | nx ρ'=>exact fun σ' H' fr p=>hN ρ' σ' H' fr p (AccS.heap p h)
 | ct ρ'=>exact fun σ' H' fr p=>hN ρ' σ' H' fr p (AccS.heap p h)
 | bk ρ'=>exact h
 | rt r=>exact h
 | rm r c ds ks=>exact h
 | exc c ρ'=>exact h
 | bad=>exact h
theorem q82 (b:Ro->D->Fl) (d:D) (ds:List D) (ρ:Ro):q18 b (d::ds) ρ=(match b ρ d with | .nx ρ'=>q18 b ds ρ' | .ct ρ'=>q18 b ds ρ' | .bk ρ'=>.nx ρ' | o=>o):=rfl
theorem q98 {g:Ro->D->Out Ro} {G H:Hp} {E:Value->Shared->Prop} {DD:Ends} {N:L2.St->Hp->Prop} {σ:L2.St} {ρ:Ro} {d:D} {ds:List D} {v:V} {tgr:TG} {tb:TS}
 (hg:∀(G H:Hp) (σ:L2.St) (ρ ρ':Ro) (d:D) (v:V) (Q:L2.St->Hp->Prop),FR T X.K G H σ ρ->Rep T X.K H d v->g ρ d=.ok ρ'->(∀σ',FR T X.K G H σ' ρ'->Q σ' H)->tgr v σ H Q)
 (htb:∀DD σ H,tS T ib X G E fb DD σ H->tb DD σ H)
 (fr:FR T X.K G H σ ρ) (r:Rep T X.K H d v) (h:AccS T ib X G E H (q18 (q0G g fb) (d::ds) ρ) DD)
 (hN:∀ρ' σ' H',FR T X.K G H' σ' ρ'->Pers T ib H H'->AccS T ib X G E H' (q18 (q0G g fb) ds ρ') DD->N σ' H') :
 tgr v σ H fun σ2 H2=>tb { DD with nx:=N,ct:=N,bk:=DD.nx } σ2 H2:=by
 rw [q82] at h
 cases e:g ρ d with
 | ok ρ'=>
  have e2:q0G g fb ρ d=fb ρ':=by unfold q0G;rw [e]
  rw [e2] at h
  exact hg G H σ ρ ρ' d v _ fr r e fun σ' fr'=>htb _ _ _ ⟨ρ',fr',j0w h hN⟩
 | exc c=>
  have e2:q0G g fb ρ d=.bad:=by unfold q0G;rw [e]
  rw [e2] at h;exact h.elim
 | bad=>
  have e2:q0G g fb ρ d=.bad:=by unfold q0G;rw [e]
  rw [e2] at h;exact h.elim
noncomputable def Stb (K:PySem.W.Frag) (G H:Hp) (a:Addr) (vs:List V):Prop:=FzL K H a vs∨G a=some (.lst vs)
theorem Stb.sq {K:PySem.W.Frag} {G H:Hp} {a:Addr} {vs:List V} (h:Stb K G H a vs) (s:Same G H):SqL K H a vs:=by
 rcases h with h | h
 ·exact h.sq
 ·exact SqL.of (s _ _ h)
theorem Stb.pers {K:PySem.W.Frag} {G H H':Hp} {a:Addr} {vs:List V} (h:Stb K G H a vs) (p:Pers T ib H H'):Stb K G H' a vs:=by
 rcases h with h | h
 ·exact .inl (p.fz h)
 ·exact .inr h
noncomputable def tP (T:Tb) (X:Cx) (G:Hp) (E:Value->Shared->Prop) (f:Ro->Out (List D)):TE:=fun σ H Q=>∃ρ,FR T X.K G H σ ρ/\Acc T X E σ H (f ρ) (λds=>∀a vs H',Same H H'->Stb X.K G H' a vs->RepL T X.K H' ds vs->Q (.ref a) H')
structure DP (T:Tb) (X:Cx) (e:Expr) (f:Ro->Out (List D)):Prop where
 mk ::
 run:∀(G:Hp) (E:Value->Shared->Prop),PassesOwn (model X.prog X.w) X.A X.env E->PE (X.wish E) e (tP T X G E f)
theorem DE.dp {e:Expr} {f:Ev} (h:DE T X e f):DP T X e (q15 f):=.mk λG E hp=>
 PE.imp (h.run G E hp) fun σ H Q ⟨ρ,fr,q⟩=>⟨ρ,fr,Acc.mono (Acc.bind q) λd _ hd v H' s1 r=>by
  cases d with
  | lst ds=>
   obtain ⟨a,vs,rfl,e2,r2⟩:=r
   exact hd a vs H' s1 (.inl e2) r2
  | _=>exact hd.elim⟩
@[simp] noncomputable def j6k (i:Nat) (ρ:Ro):Out (List D):=match ρ[i]? with
 | some (.bo ds)=>.ok ds
 | some (.sh (.lst ds))=>.ok ds
 | _=>.bad
theorem j5l (i:Nat) {x:Str} (hN:X.N[i]?=some x:=by rfl) (hv:Vis X.env.scope x:=by walk_at "v0") (hd:(x==("__debug__" : Str))=false:=by decide)
 (hcd:(x==("__classdict__" : Str))=false:=by decide):DP T X (.Name x pos) (j6k i):=.mk λG E hp=>by
 refine PE.imp (q1V (X:=X.wish E) hN hv hd hcd) fun σ H Q ⟨ρ,fr,h⟩=>?_
 unfold j6k at h
 split at h
 ·rename_i ds e
  obtain ⟨a,vs,e1,e2,r⟩:=fr.sl i _ e
  exact ⟨_,e1,h a vs H (Same.refl H) (.inr e2) r⟩
 ·rename_i ds e
  obtain ⟨v,e1,a,vs,rfl,e2,r⟩:=fr.sl i _ e
  exact ⟨_,e1,h a vs H (Same.refl H) (.inl e2) r⟩
 ·exact h.elim
@[simp] noncomputable def q3P (fl:Ro->Out (List D)) (g:Ro->D->Out Ro) (fb:Ro->Fl) (ρ:Ro):Fl:=(fl ρ).fl ρ λds=>q18 (q0G g fb) ds ρ
noncomputable def rgD (lo:Int) (n:Nat):List D:=(List.range n).map λ(k:Nat)=>D.int (lo+(k:Int))
noncomputable def tN (T:Tb) (X:Cx) (G:Hp) (E:Value->Shared->Prop) (f:Ro->Out (Int×Nat)):TI:=fun σ H R=>∃ρ,FR T X.K G H σ ρ/\Acc T X E σ H (f ρ) (λp=>∀H',Same H H'->R (Itr p.1 p.2) H')
structure DN (T:Tb) (X:Cx) (tg e:Expr) (f:Ro->Out (Int×Nat)):Prop where
 mk ::
 run:∀(G:Hp) (E:Value->Shared->Prop),PassesOwn (model X.prog X.w) X.A X.env E->PI (X.wish E) tg e (tN T X G E f)
theorem PI.imp {X:Cx} {tg e:Expr} {t t':TI} (h:PI X tg e t) (k:∀σ H R,t' σ H R->t σ H R):PI X tg e t':=λpins s σ H R I q=>h pins s σ H R I (k σ H R q)
@[simp] noncomputable def n1 (fe:Ev) (ρ:Ro):Out (Int×Nat):=(fe ρ).bind λd=>match d with
 | .int i=>if -(2 ^ 62)<=i/\i < 2 ^ 62 then .ok (0,i.toNat) else .bad
 | _=>.bad
@[simp] noncomputable def n2 (fa fe:Ev) (ρ:Ro):Out (Int×Nat):=(fa ρ).bind λd=>(fe ρ).bind λd'=>match d,d' with
 | .int i,.int j=>if (-(2 ^ 62)<=i/\i < 2 ^ 62)/\-(2 ^ 62)<=j/\j < 2 ^ 62 then .ok (i,(j-i).toNat) else .bad
 | _,_=>.bad
theorem j00 {a:Expr} {fe:Ev} {p:Pos} (hg:Gl X "range") (hm:X.mg "range" = none) (ha:DE T X a fe) (hs:starEach [a] X.env=[(false,eval a X.env)]:=by rfl):DN T X tg (.Call (.Name "range" p) [a] [] pos) (n1 fe):=.mk λG E hp=>by
 refine PI.imp (q8J (X:=X.wish E) hg hm (q0S (X:=X.wish E) (ha.run G E hp) q1U hs) hs) fun σ H R ⟨ρ,fr,h⟩=>⟨ρ,fr,Acc.mono (Acc.bind h) λd _ hd v H1 s1 r=>?_⟩
 cases d with
 | int i=>
  have hd':Acc T X E σ H (if -(2 ^ 62)<=i/\i < 2 ^ 62 then Out.ok ((0:Int),i.toNat) else .bad) (λp=>∀H',Same H H'->R (Itr p.1 p.2) H'):=hd
  by_cases z:-(2 ^ 62)<=i/\i < 2 ^ 62
  ·rw [if_pos z] at hd'
   exact ⟨i,by rw [show v=V.int i from r],z.1,z.2,hd' H1 s1⟩
  ·rw [if_neg z] at hd';exact hd'.elim
 | _=>exact hd.elim
end
section
variable {T:Tb} {X:Cx} {e a b:Expr} {es:List Expr} {pos p:Pos} {fe fa fb:Ev} {fs:Ro->Out (List D)}
@[simp] noncomputable def q0K (ρ:Ro):Out (List D):=.ok []
@[simp] noncomputable def q0q (fe:Ev) (fs:Ro->Out (List D)) (ρ:Ro):Out (List D):=(fe ρ).bind λd=>(fs ρ).bind λds=>.ok (d::ds)
theorem q0n:DA T X [] q0K:=.mk λG E hp=>PA.imp q1U fun σ H Q ⟨ρ,fr,h⟩=>h [] H (Same.refl H) rfl
theorem q0k (ha:DE T X e fe) (hr:DA T X es fs) (hs:starEach (e::es) X.env=(false,eval e X.env)::starEach es X.env:=by exact q0B rfl):DA T X (e::es) (q0q fe fs):=.mk λG E hp=>by
 refine PA.imp (q0S (X:=X.wish E) (ha.run G E hp) (hr.run G E hp) hs) fun σ H Q ⟨ρ,fr,h⟩=>?_
 refine ⟨ρ,fr,Acc.mono (Acc.bind h) λd _ hd v H1 s1 r1=>⟨ρ,fr.mono s1,Acc.mono (Acc.bind (Acc.heap s1 hd)) λds _ hds vs H2 s2 r2=>?_⟩⟩
 exact hds (v::vs) H2 (s1.trans s2) ⟨v,vs,rfl,Rep.mono s2 _ _ r1,r2⟩
noncomputable def CaD (T:Tb) (X:Cx) (f:Value) (g:List D->Out D):Prop:=∀E:Value->Shared->Prop,∃r:List V->Hp->VK->Prop,q2f (X.wish E) f r /\
 ∀(ds:List D) (vs:List V) (σ:L2.St) (H:Hp) (Q:VK),RepL T X.K H ds vs->Acc T X E σ H (g ds) (kE T X.K H Q)->r vs H Q
@[simp] noncomputable def eCB (g:List D->Out D) (fs:Ro->Out (List D)) (ρ:Ro):Out D:=(fs ρ).bind g
theorem q7s {G H:Hp} {E:Value->Shared->Prop} {σ:L2.St} {Q:VK} {g:List D->Out D} {r:List V->Hp->VK->Prop}
 (hg:∀(ds:List D) (vs:List V) (σ:L2.St) (H:Hp) (Q:VK),RepL T X.K H ds vs->Acc T X E σ H (g ds) (kE T X.K H Q)->r vs H Q) {ρ:Ro} (fr:FR T X.K G H σ ρ) (h:Acc T X E σ H (eCB g fs ρ) (kE T X.K H Q)) :
 tCB r (tA T X G E fs) σ H Q:=
 ⟨ρ,fr,Acc.mono (Acc.bind h) λds _ hd vs H1 s1 r1=>hg ds vs σ H1 Q r1 (Acc.mono (Acc.heap s1 hd) λd _ k v H2 s2 r2=>k v H2 (s1.trans s2) r2)⟩
theorem q0s {id:String} {x:Str} {g:List D->Out D} (hc:CaD T X (.builtin id) g) (hg:Gl X x) (hm:X.mg x=none) (hv:bootBuiltins x=some (.builtin id)) (ha:DA T X (e::es) fs) (hn:x≠"__name__":=by decide) (hdb:(x==("__debug__" : Str))=false:=by decide)
 (he:starEach (e::es) X.env=(false,eval e X.env)::starEach es X.env:=by exact q0B rfl) (hpl:(backTo pos (starEach es X.env)).any (·.1)=false:=by exact q0F rfl):DE T X (.Call (.Name x p) (e::es) [] pos) (eCB g fs):=.mk λG E hp=>by
 obtain ⟨r,hr,hg'⟩:=hc E
 exact PE.imp (q5B (X:=X.wish E) hr hg hm hv (ha.run G E hp) hn hdb he hpl) fun σ H Q ⟨ρ,fr,h⟩=>q7s hg' fr h
theorem q2k {TT:String} {x:Str} {g:List D->Out D} (hc:CaD T X (.type TT) g) (hg:Gl X x) (hm:X.mg x=none) (hv:bootBuiltins x=some (.type TT)) (ha:DA T X (e::es) fs) (hn:x≠"__name__":=by decide) (hdb:(x==("__debug__" : Str))=false:=by decide)
 (he:starEach (e::es) X.env=(false,eval e X.env)::starEach es X.env:=by exact q0B rfl) (hpl:(backTo pos (starEach es X.env)).any (·.1)=false:=by exact q0F rfl):DE T X (.Call (.Name x p) (e::es) [] pos) (eCB g fs):=.mk λG E hp=>by
 obtain ⟨r,hr,hg'⟩:=hc E
 exact PE.imp (q3h (X:=X.wish E) hr hg hm hv (ha.run G E hp) hn hdb he hpl) fun σ H Q ⟨ρ,fr,h⟩=>q7s hg' fr h
theorem RepL.one {K:PySem.W.Frag} {H:Hp} {d:D} {vs:List V} (h:RepL T K H [d] vs):∃v,vs=[v]/\Rep T K H d v:=by
 obtain ⟨v,r,rfl,h1,rfl⟩:=h;exact ⟨v,rfl,h1⟩
theorem RepL.two {K:PySem.W.Frag} {H:Hp} {d d':D} {vs:List V} (h:RepL T K H [d,d'] vs):∃v v',vs=[v,v']/\Rep T K H d v/\Rep T K H d' v':=by
 obtain ⟨v,r,rfl,h1,v',r',rfl,h2,rfl⟩:=h;exact ⟨v,v',rfl,h1,h2⟩
@[simp] noncomputable def j9K:List D->Out D
 | [.int i,.int j]=>.ok (.int (if j < i then j else i))
 | _=>.bad
@[simp] noncomputable def j88:List D->Out D
 | [.int i,.int j]=>.ok (.int (if j > i then j else i))
 | _=>.bad
theorem j54 (hc:X.calm=true):CaD T X (.builtin "min") j9K:=λE=>⟨_,q7J hc,λds vs σ H Q r h=>by
 unfold j9K at h
 split at h
 ·rename_i i j
  obtain ⟨v,v',rfl,rv,rv'⟩:=r.two
  exact ⟨i,j,by rw [show v=V.int i from rv,show v'=V.int j from rv'],h _ H (Same.refl H) rfl⟩
 ·exact h.elim⟩
theorem j56 (hc:X.calm=true):CaD T X (.builtin "max") j88:=λE=>⟨_,q8E hc,λds vs σ H Q r h=>by
 unfold j88 at h
 split at h
 ·rename_i i j
  obtain ⟨v,v',rfl,rv,rv'⟩:=r.two
  exact ⟨i,j,by rw [show v=V.int i from rv,show v'=V.int j from rv'],h _ H (Same.refl H) rfl⟩
 ·exact h.elim⟩
@[simp] noncomputable def q2W:List D->Out D
 | [.str x]=>if x.length<=1000000 then .ok (.int x.length) else .bad
 | [.tup ds]=>.ok (.int ds.length)
 | [.lst ds]=>.ok (.int ds.length)
 | _=>.bad
theorem q0T:CaD T X (.builtin "len") q2W:=λE=>⟨_,j0F,λds vs σ H Q r h=>by
 unfold q2W at h
 split at h
 ·rename_i x
  obtain ⟨v,rfl,rv⟩:=r.one
  by_cases z:x.length<=1000000
  ·rw [if_pos z] at h
   exact ⟨v,x.length,rfl,by rw [show v=V.str x from rv];exact ⟨line6 z,rfl⟩,h _ H (Same.refl H) rfl⟩
  ·rw [if_neg z] at h;exact h.elim
 ·rename_i es
  obtain ⟨v,rfl,a,us,rfl,e,rl⟩:=r.one
  exact ⟨_,us.length,rfl,.inr ⟨us,e,rfl⟩,h _ H (Same.refl H) (by rw [RepL.length _ _ rl];exact rfl)⟩
 ·rename_i es
  obtain ⟨v,rfl,a,us,rfl,e,rl⟩:=r.one
  exact ⟨_,us.length,rfl,.inl ⟨us,e.sq,rfl⟩,h _ H (Same.refl H) (by rw [RepL.length _ _ rl];exact rfl)⟩
 ·exact h.elim⟩
noncomputable def j6m (T:Tb):D->Value
 | .non=>.type "NoneType"
 | .bl _=>.type "bool"
 | .int _=>.type "int"
 | .str _=>.type "str"
 | .tup _=>.type "tuple"
 | .lst _=>.type "list"
 | .ins c _=>.ref (T.ca c)
 | .exc c=>.ref (T.ca c)
structure j9Y (K:PySem.W.Frag) (C:Addr):Prop where
 cl:Cls K C
 ha:PySem.W.findIn K (.ref C) "__class__" = some (some (.builtin "object.__class__"))
 hn:PySem.W.specialIn K (.builtin "object.__class__") "__get__" = some (some (.builtin "getset_descriptor.__get__"))
 htk:PySem.W.takesIn K (.builtin "object.__class__")=some true
 hm:PySem.W.mroIn K C (.type "object")=some true
noncomputable def j0u (T:Tb) (K:PySem.W.Frag) (cls:Value) (g:D->Out Bool):Prop:=∀d b,g d=.ok b->PySem.W.kitOne K (j6m T d) cls=some b/\(∀c ds,d=.ins c ds->j9Y K (T.ca c))/\∀c,d=.exc c->j6K K (T.ca c)
theorem j3F {pins:List (Addr×Obj)} {σ:L2.St} {H:Hp} {s:Shared} {A:Around} {E:Value->Shared->Prop} {Q:Value->Shared->Prop} {cls u:Value} {d:D} {v:V} {k:Bool} (I:Inv X pins σ H s) (rv:RelV v u) (r:Rep T X.K H d v)
 (hk:PySem.W.kitOne X.K (j6m T d) cls=some k) (hi:∀c ds,d=.ins c ds->j9Y X.K (T.ca c)) (hx:∀c,d=.exc c->j6K X.K (T.ca c)) (h:∀tk,Q (.bool k) { s with toks:=tk }):wpAny (model X.prog X.w) A (call (.builtin "isinstance") [u,cls]) Q E s:=by
 cases d with
 | non=>cases r;exact q10 I rv .non hk h
 | bl y=>cases r;exact q10 I rv (.bl y) hk h
 | int i=>cases r;exact q10 I rv (.int i) hk h
 | str y=>cases r;exact q10 I rv (.str y) hk h
 | tup ds=>
  obtain ⟨a,vs,rfl,e,_⟩:=r
  cases (show u=Value.ref a from rv)
  obtain ⟨its,_,⟨o,h1,h2,_⟩,_⟩:=I.tuple e
  exact PySem.W.kia_one PySem.W.kitx_tuple I.kIn ⟨o,h1,h2⟩ hk (λz=>nomatch z) h
 | lst ds=>
  obtain ⟨a,vs,rfl,e,_⟩:=r
  cases (show u=Value.ref a from rv)
  obtain ⟨its,_,⟨o,n,h1,h2,_⟩,_⟩:=I.list e.sq
  exact PySem.W.kia_one PySem.W.kitx_list I.kIn ⟨o,h1,h2⟩ hk (λz=>nomatch z) h
 | ins c ds=>
  obtain ⟨a,dx,fs,rfl,e,_⟩:=r
  obtain ⟨cl,ha,hn,htk,hm⟩:=hi c ds rfl
  exact q10 I rv (.ins e cl ha hn htk hm) hk h
 | exc c=>
  obtain ⟨a,o,rfl,e1,e2,e3,e4⟩:=r
  cases (show u=Value.ref a from rv)
  obtain ⟨ho,_⟩:=(show ObjOk X.prog X.w H s.heap a (.frz o _) from I.hok a _ e1)
  exact PySem.W.kia_one (j0y (hx c rfl)) I.kIn ⟨o,ho,e2,e3,by rw [e4];trivial⟩ hk (λz=>nomatch z) h
@[simp] noncomputable def j7e (g:D->Out Bool) (fe:Ev) (ρ:Ro):Out D:=(fe ρ).bind λd=>(g d).bind λb=>.ok (.bl b)
theorem j5S {c:Str} {cv:V} {clsv:Value} {g:D->Out Bool} {p2:Pos} (hg:Gl X "isinstance") (hm:X.mg "isinstance" = none) (ha:DE T X e fe) (hc:∀E,PE (X.wish E) (.Name c p2) (tC cv)) (rc:∀u,RelV cv u->u=clsv) (hi:j0u T X.K clsv g)
 (hng:∀d cc,g d≠.exc cc) (hs1:starEach [e,.Name c p2] X.env=(false,eval e X.env)::starEach [.Name c p2] X.env:=by rfl):DE T X (.Call (.Name "isinstance" p) [e,.Name c p2] [] pos) (j7e g fe):=.mk λG E hp=>by
 rintro pins s σ H Q I ⟨ρ,fr,h⟩
 refine wpAny_Call_Name_kw (q2A (X:=X.wish E) I hg hm (u:=.builtin "isinstance") rfl ?_)
 refine PyProof.Rows.callWith_builtin1 (thn ((q0S (X:=X.wish E) (ha.run G E hp) (q0S (X:=X.wish E) (hc E) q1U rfl) hs1) pos pins s σ H (λvs H1=>∃d v,vs=[v,cv]/\Same H H1/\Rep T X.K H1 d v/\Acc T X E σ H ((g d).bind λb=>.ok (.bl b)) (kE T X.K H Q)) I ⟨ρ,fr,Acc.mono (Acc.bind h) λd _ hd v H1 s1 r1=>⟨d,v,rfl,s1,r1,hd⟩⟩) λus s1 ⟨vs,H1,I1,rvs,d,v,ev,sm,rd,hd⟩=>?_) hs1 rfl
 subst ev
 obtain ⟨u,u',rfl,r1,r2⟩:=Vals.two rvs
 obtain rfl:=rc u' r2
 cases e1:g d with
 | ok k=>
  rw [e1] at hd
  obtain ⟨z1,z2,z3⟩:=hi d k e1
  exact j3F (X:=X.wish E) I1 r1 rd z1 z2 z3 λtk=>⟨.bl k,H1,I1.tok _,rfl,hd _ H1 sm rfl⟩
 | exc cc=>exact absurd e1 (hng d cc)
 | bad=>rw [e1] at hd;exact hd.elim
@[simp] noncomputable def atD (ds:List D) (i:Int):Out D:=match atI ds i with
 | some d=>.ok d
 | none=>.bad
theorem RepL.at {K:PySem.W.Frag} {H:Hp} {ds:List D} {vs:List V} {i:Int} {d:D} (r:RepL T K H ds vs) (h:atI ds i=some d):∃v,atI vs i=some v/\Rep T K H d v:=by
 obtain ⟨j,e1,e2,e3,e4,e5⟩:=q3B h
 obtain ⟨v,e6,e7⟩:=RepL.get _ _ _ _ r e2
 refine ⟨v,?_,e7⟩
 have hl:=RepL.length _ _ r
 unfold atI at h ⊢
 rw [hl]
 cases z:ixN ds.length i with
 | none=>rw [z] at h;cases h
 | some k=>
  have:k=j:=by
   have:=(q4S z).1
   rw [e1] at this;exact (Option.some.inj this).symm
  subst this
  exact e6
@[simp] noncomputable def ixD:D->D->Out D
 | .tup ds,.int i=>atD ds i
 | .lst ds,.int i=>atD ds i
 | .str z,.int i=>if z.length<=1000000 then (match atI z.cps.toList i with | some c=>.ok (.str ⟨#[c]⟩) | none=>.bad) else .bad
 | _,_=>.bad
theorem q0U (ha:DE T X a fa) (hb:DE T X b fb) (hs:q5f b:=by exact λ_ _=>rfl):DE T X (.Subscript a b pos) (e2 ixD fa fb):=.mk λG E hp=>by
 refine PE.imp (j5g (X:=X.wish E) (IxR.or (IxR.or q7i j50) j6v) (ha.run G E hp) (hb.run G E hp) hs) fun σ H Q ⟨ρ,fr,h⟩=>q59 (T:=T) (g:=ixD) (λdx dy x y σ H Q rx ry q=>?_) fr h
 have key:∀(ds:List D) (i:Int) (vs:List V),RepL T X.K H ds vs->Acc T X E σ H (atD ds i) (kE T X.K H Q)->∃v,atI vs i=some v/\Q v H:=λds i vs r q=>by
  unfold atD at q
  split at q
  ·rename_i d e
   obtain ⟨v,e1,rd⟩:=r.at e
   exact ⟨v,e1,q v H (Same.refl H) rd⟩
  ·exact q.elim
 cases dy with
 | int i=>
  cases dx with
  | tup ds=>
   obtain ⟨a,vs,rfl,sq,r⟩:=rx
   obtain ⟨v,e1,q⟩:=key ds i vs r q
   exact .inl (.inr ⟨a,vs,i,v,rfl,ry,sq,e1,q⟩)
  | lst ds=>
   obtain ⟨a,vs,rfl,sq,r⟩:=rx
   obtain ⟨v,e1,q⟩:=key ds i vs r q
   exact .inl (.inl ⟨a,vs,i,v,rfl,ry,sq.sq,e1,q⟩)
  | str z=>
   have q':Acc T X E σ H (if z.length<=1000000 then (match atI z.cps.toList i with | some c=>.ok (.str ⟨#[c]⟩) | none=>.bad) else .bad) (kE T X.K H Q):=q
   by_cases hz:z.length<=1000000
   ·rw [if_pos hz] at q'
    split at q'
    ·rename_i c e
     exact .inr ⟨z,i,c,rx,ry,line6 hz,e,q' _ H (Same.refl H) rfl⟩
    ·exact q'.elim
   ·rw [if_neg hz] at q';exact q'.elim
  | _=>exact q.elim
 | _=>first | exact q.elim | (cases dx<;>exact q.elim)
@[simp] noncomputable def j6b (fl:Ro->Out (List D)) (fb:Ev) (ρ:Ro):Out D:=(fl ρ).bind λds=>(fb ρ).bind λd=>match d with
 | .int i=>atD ds i
 | _=>.bad
theorem q6w {fl:Ro->Out (List D)} (ha:DL T X a fl) (hb:DE T X b fb) (hs:q5f b:=by exact λ_ _=>rfl):DE T X (.Subscript a b pos) (j6b fl fb):=.mk λG E hp=>by
 refine PE.imp (j5g (X:=X.wish E) q7i (ha.run G E hp) (hb.run G E hp) hs) fun σ H Q ⟨ρ,fr,h⟩=>⟨ρ,fr,Acc.mono (Acc.bind h) λds _ hd a vs H1 s1 sq r=>⟨ρ,fr.mono s1,Acc.mono (Acc.bind (Acc.heap s1 hd)) λd _ hd2 v H2 s2 r2=>?_⟩⟩
 cases d with
 | int i=>
  have hd3:Acc T X E σ H1 (atD ds i) (kE T X.K H Q):=hd2
  unfold atD at hd3
  split at hd3
  ·rename_i d e
   obtain ⟨w,e1,rd⟩:=(RepL.mono s2 _ _ r).at e
   exact ⟨a,vs,i,w,rfl,r2,s2.seq sq,e1,hd3 w H2 (s1.trans s2) rd⟩
  ·exact hd3.elim
 | _=>exact hd2.elim
@[simp] noncomputable def j7n (fs:Ro->Out (List D)) (ρ:Ro):Out D:=(fs ρ).bind λds=>if ds.length<=1000000 then .ok (.tup ds) else .bad
theorem q8Q {x1} (h:DA T X es fs):DE T X (.Tuple es x1 pos) (j7n fs):=.mk λG E hp=>
 PE.imp (j6O (X:=X.wish E) (h.run G E hp)) fun σ H Q ⟨ρ,fr,q⟩=>⟨ρ,fr,Acc.mono (Acc.bind q) λds _ hd vs H1 s1 r=>by
  have hl:=RepL.length _ _ r
  by_cases z:ds.length<=1000000
  ·rw [if_pos z] at hd
   exact ⟨by rw [hl];exact line6 z,λp hp'=>hd _ _ (s1.trans (q0E hp')) ⟨p,vs,rfl,SqT.of q0p,RepL.mono (q0E hp') _ _ r⟩⟩
  ·rw [if_neg z] at hd;exact hd.elim⟩
@[simp] noncomputable def q1a (fs:Ro->Out (List D)) (ρ:Ro):Out (List D):=(fs ρ).bind λds=>if ds.length<=1000000 then .ok ds else .bad
theorem q0Q (h:DA T X es fs):DF T X (.List es pos) (q1a fs):=.mk λG E hp=>
 PE.imp (j5B (X:=X.wish E) (h.run G E hp)) fun σ H Q ⟨ρ,fr,q⟩=>⟨ρ,fr,Acc.mono (Acc.bind q) λds _ hd vs H1 s1 r=>by
  have hl:=RepL.length _ _ r
  by_cases z:ds.length<=1000000
  ·rw [if_pos z] at hd
   exact ⟨by rw [hl];exact line6 z,λp hp'=>hd p vs _ (s1.trans (q0E hp')) (s1.free hp') q0p (RepL.mono (q0E hp') _ _ r)⟩
  ·rw [if_neg z] at hd;exact hd.elim⟩
@[simp] noncomputable def j4K:D->D->Out D
 | .int i,.int j=>.ok (.int (i+j))
 | .str x,.str y=>if x.length+y.length<=1000000 then .ok (.str (x++y)) else .bad
 | _,_=>.bad
theorem q0z:OpD T X (binaryOp .Add) j4K:=λE=>⟨_,OpR.or j5P q6W,λdx dy x y σ H Q rx ry q=>by
 cases dx with
 | int i=>
  cases dy with
  | int j=>exact .inl ⟨i,j,rx,ry,q _ H (Same.refl H) rfl⟩
  | _=>exact q.elim
 | str u=>
  cases dy with
  | str v=>
   have q':Acc T X E σ H (if u.length+v.length<=1000000 then .ok (.str (u++v)) else .bad) (kE T X.K H Q):=q
   by_cases z:u.length+v.length<=1000000
   ·rw [if_pos z] at q'
    exact .inr ⟨u,v,rx,ry,line6 z,q' _ H (Same.refl H) rfl⟩
   ·rw [if_neg z] at q';exact q'.elim
  | _=>exact q.elim
 | _=>first | exact q.elim | (cases dy<;>exact q.elim)⟩
@[simp] noncomputable def eqS:D->D->Out Bool
 | .int i,.int j=>.ok (decide (i=j))
 | .bl i,.bl j=>.ok (decide (i=j))
 | .str i,.str j=>.ok (decide (i=j))
 | .non,.non=>.ok true
 | _,_=>.bad
@[simp] noncomputable def bD (neg:Bool) (o:Out Bool):Out D:=o.bind λb=>.ok (.bl (if neg then !b else b))
theorem j1e (neg:Bool) (op:CmpOp) (ho:∀E,OpR (X.wish E) (compareOp op) (λx y H Q=>scal x y=true/\Q (.bl (if neg then !decide (x=y) else decide (x=y))) H)):OpD T X (compareOp op) (λa b=>bD neg (eqS a b)):=λE=>⟨_,ho E,λdx dy x y σ H Q rx ry q=>by
 have key:∀(k:Bool),scal x y=true->decide (x=y)=k->eqS dx dy=.ok k->scal x y=true/\Q (.bl (if neg then !decide (x=y) else decide (x=y))) H:=λk h1 h2 h3=>by
  have q':Acc T X E σ H (bD neg (eqS dx dy)) (kE T X.K H Q):=q
  rw [h3] at q'
  refine ⟨h1,?_⟩
  rw [h2]
  exact q' _ H (Same.refl H) rfl
 cases dx with
 | int i=>
  cases dy with
  | int j=>cases rx;cases ry;exact key _ rfl (by simp) rfl
  | _=>exact q.elim
 | bl i=>
  cases dy with
  | bl j=>cases rx;cases ry;exact key _ rfl (by simp) rfl
  | _=>exact q.elim
 | str i=>
  cases dy with
  | str j=>cases rx;cases ry;exact key _ rfl (by simp) rfl
  | _=>exact q.elim
 | non=>
  cases dy with
  | non=>cases rx;cases ry;exact key true rfl (by simp) rfl
  | _=>exact q.elim
 | _=>first | exact q.elim | (cases dy<;>exact q.elim)⟩
theorem q1b:OpD T X (compareOp .Eq) (λa b=>bD false (eqS a b)):=j1e false .Eq λE=>j8e
theorem j2V:OpD T X (compareOp .NotEq) (λa b=>bD true (eqS a b)):=j1e true .NotEq λE=>j9y
end
section
variable {T:Tb} {X:Cx} {e:Expr} {pos p:Pos} {fe:Ev}
theorem q8a {c:Str} {t:String} {g:D->Out Bool} {p2:Pos} (hg:Gl X "isinstance") (hm:X.mg "isinstance" = none) (ha:DE T X e fe) (hgc:Gl X c) (hmc:X.mg c=none) (hv:bootBuiltins c=some (.type t)) (hi:j0u T X.K (.type t) g)
 (hng:∀d cc,g d≠.exc cc) (hs1:starEach [e,.Name c p2] X.env=(false,eval e X.env)::starEach [.Name c p2] X.env:=by rfl) (hn:c≠"__name__":=by decide) (hd:(c==("__debug__" : Str))=false:=by decide):DE T X (.Call (.Name "isinstance" p) [e,.Name c p2] [] pos) (j7e g fe):=
 j5S (cv:=.ty t) (clsv:=.type t) hg hm ha (λE=>j22 (X:=X.wish E) hgc hmc hv rfl hn hd) (λu r=>r) hi hng hs1
@[simp] noncomputable def j20:D->Out Bool
 | .int _=>.ok true
 | .bl _=>.ok true
 | .non=>.ok false
 | .str _=>.ok false
 | .tup _=>.ok false
 | .lst _=>.ok false
 | _=>.bad
@[simp] noncomputable def q8j:D->Out Bool
 | .bl _=>.ok true
 | .int _=>.ok false
 | .non=>.ok false
 | .str _=>.ok false
 | .tup _=>.ok false
 | .lst _=>.ok false
 | _=>.bad
theorem j3n {K:PySem.W.Frag}:j0u T K (.type "int") j20:=λd b h=>by
 cases d<;>first | (cases h;exact ⟨(by with_unfolding_all rfl),(λ_ _ z=>by cases z),(λ_ z=>by cases z)⟩) | (cases h)
theorem j0e {K:PySem.W.Frag}:j0u T K (.type "bool") q8j:=λd b h=>by
 cases d<;>first | (cases h;exact ⟨(by with_unfolding_all rfl),(λ_ _ z=>by cases z),(λ_ z=>by cases z)⟩) | (cases h)
theorem q6A (d:D) (c:Nat):j20 d≠.exc c:=by cases d<;>(intro h;cases h)
theorem q5h (d:D) (c:Nat):q8j d≠.exc c:=by cases d<;>(intro h;cases h)
end
theorem q9i {a:Int} (h:a.natAbs.log2 < 1920):(Str.ofString (toString a)).length<=1921:=by
 have e:=int_text_length_le (k:=1920) (by decide) h
 rw [PySem.ofString_length];exact e
@[simp] noncomputable def q6R:D->Out Str
 | .int i=>if i.natAbs.log2 < 1920 then .ok (toString i) else .bad
 | .str x=>if x.length<=200000 then .ok x else .bad
 | _=>.bad
@[simp] noncomputable def q8o:D->Out Str
 | .int i=>if i.natAbs.log2 < 1920 then .ok (toString i) else .bad
 | .str x=>if (reprText x).length<=200000 then .ok (reprText x) else .bad
 | _=>.bad
section
variable {T:Tb} {X:Cx} {e v:Expr} {es:List Expr} {pos p:Pos} {fe:Ev} {fs:Ro->Option (List Str)}
theorem j3G {M:Program} {w:World} {A:Around} {E:Value->Shared->Prop} {pins:List (Addr×Obj)} {σ:L2.St} {H:Hp} {s:Shared} {d:D} {x:V} {u:Value} {y:Str} {Q:Value->Shared->Prop} (r:Rep T X.K H d x) (rv:RelV x u) (e:q6R d=.ok y) (k:∀t tk,y.length<=200000->Q (.str y t) { s with toks:=tk }) :
 wpAny (model M w) A (formatField u Str.empty) Q E s:=by
 cases d with
 | int i=>
  obtain rfl:x=V.int i:=r
  obtain ⟨t,rfl⟩:=rv
  have e':(if i.natAbs.log2 < 1920 then Out.ok (toString i:Str) else .bad)=.ok y:=e
  by_cases z:i.natAbs.log2 < 1920
  ·rw [if_pos z] at e'
   cases e'
   exact formatField_int_small z (k _ _ (by have:=q9i z;omega))
  ·rw [if_neg z] at e';cases e'
 | str z=>
  obtain rfl:x=V.str z:=r
  obtain ⟨t,rfl⟩:=rv
  have e':(if z.length<=200000 then Out.ok z else .bad)=.ok y:=e
  by_cases h:z.length<=200000
  ·rw [if_pos h] at e'
   cases e'
   exact formatField_str (λt' tk=>k t' tk h) (by rw [sizeLine_eq];omega)
  ·rw [if_neg h] at e';cases e'
 | _=>cases e
theorem q9K {M:Program} {w:World} {A:Around} {E:Value->Shared->Prop} {σ:L2.St} {H:Hp} {s:Shared} {d:D} {x:V} {u:Value} {y:Str} {Q:Value->Shared->Prop} (r:Rep T X.K H d x) (rv:RelV x u) (e:q8o d=.ok y) (k:∀t tk,y.length<=200000->Q (.str y t) { s with toks:=tk }) :
 wpAny (model M w) A (pyReprObj u) (λr s₂=>wpAny (model M w) A (formatField r Str.empty) Q E s₂) E s:=by
 have fin:∀(y:Str) (t:Tok) (tk:Nat),y.length<=200000->(∀t tk,y.length<=200000->Q (.str y t) { s with toks:=tk })->wpAny (model M w) A (formatField (.str y t) Str.empty) Q E { s with toks:=tk }:=λy t tk hy k=>formatField_str (λt' tk'=>k t' tk' hy) (by rw [sizeLine_eq];omega)
 cases d with
 | int i=>
  obtain rfl:x=V.int i:=r
  obtain ⟨t,rfl⟩:=rv
  have e':(if i.natAbs.log2 < 1920 then Out.ok (toString i:Str) else .bad)=.ok y:=e
  by_cases z:i.natAbs.log2 < 1920
  ·rw [if_pos z] at e'
   cases e'
   exact pyReprObj_int z (fin _ _ _ (by have:=q9i z;omega) k)
  ·rw [if_neg z] at e';cases e'
 | str z=>
  obtain rfl:x=V.str z:=r
  obtain ⟨t,rfl⟩:=rv
  have e':(if (reprText z).length<=200000 then Out.ok (reprText z) else .bad)=.ok y:=e
  by_cases h:(reprText z).length<=200000
  ·rw [if_pos h] at e'
   cases e'
   exact pyReprObj_str (fin _ _ _ h k) (by rw [sizeLine_eq];omega)
  ·rw [if_neg h] at e';cases e'
 | _=>cases e
structure DJ (T:Tb) (X:Cx) (es:List Expr) (f:Ro->Option (List Str)):Prop where
 mk ::
 run:∀(G:Hp) (E:Value->Shared->Prop),PassesOwn (model X.prog X.w) X.A X.env E->∀(pins:List (Addr×Obj)) (s:Shared) (σ:L2.St) (H:Hp) (acc:Str) (Q:Str->Shared->Prop),Inv (X.wish E) pins σ H s ->
 (∃ρ xs,FR T X.K G H σ ρ/\f ρ=some xs/\acc.length+200000*xs.length<=sizeLine/\∀H' s',Same H H'->Inv (X.wish E) pins σ H' s'->(xs.foldl (·++·) acc).length<=acc.length+200000*xs.length->Q (xs.foldl (·++·) acc) s') ->
 Joins (model X.prog X.w) X.A E (evalEach es X.env) acc Q s
@[simp] noncomputable def jN0 (ρ:Ro):Option (List Str):=some []
@[simp] noncomputable def q5z (x:Str) (fs:Ro->Option (List Str)) (ρ:Ro):Option (List Str):=if x.length<=200000 then (match fs ρ with | some xs=>some (x::xs) | none=>none) else none
@[simp] noncomputable def q4c (g:D->Out Str) (fe:Ev) (fs:Ro->Option (List Str)) (ρ:Ro):Option (List Str):=match (fe ρ).bind g with
 | .ok x=>(match fs ρ with | some xs=>some (x::xs) | none=>none)
 | _=>none
theorem q2D:DJ T X [] jN0:=.mk λG E hp pins s σ H acc Q I ⟨ρ,xs,fr,e,_,h⟩=>by
 cases e
 exact h H s (Same.refl H) I (by simp)
theorem q3H {G:Hp} {E:Value->Shared->Prop} (hp:PassesOwn (model X.prog X.w) X.A X.env E) {pins:List (Addr×Obj)} {s:Shared} {σ:L2.St} {H H1:Hp} {acc x:Str} {Q:Str->Shared->Prop} {t:Tok} {ρ:Ro} {xs:List Str} (hr:DJ T X es fs) (I:Inv (X.wish E) pins σ H1 s) (fr:FR T X.K G H1 σ ρ) (s1:Same H H1) (hx:x.length<=200000)
 (ef:fs ρ=some xs) (z:acc.length+200000*(x::xs).length<=sizeLine) (k:∀H' s',Same H H'->Inv (X.wish E) pins σ H' s'->((x::xs).foldl (·++·) acc).length<=acc.length+200000*(x::xs).length->Q ((x::xs).foldl (·++·) acc) s') :
 ∃y t',(Value.str x t)=.str y t'/\(acc++y).length<=sizeLine/\Joins (model X.prog X.w) X.A E (evalEach es X.env) (acc++y) Q s:=by
 have hl:(acc++x).length=acc.length+x.length:=strLen_append acc x
 rw [List.length_cons] at z k
 refine ⟨x,t,rfl,by rw [hl];omega,hr.run G E hp pins s σ H1 (acc++x) Q I ⟨ρ,xs,fr,ef,by rw [hl];omega,λH' s' s2 I' hz=>?_⟩⟩
 have hz':(List.foldl (·++·) acc (x::xs)).length<=acc.length+200000*(xs.length+1):=by
  rw [List.foldl_cons];rw [hl] at hz;omega
 exact k H' s' (s1.trans s2) I' hz'
theorem q1J {x:Str} {j:Nat} (hr:DJ T X es fs):DJ T X (.Constant (.str x) j pos::es) (q5z x fs):=.mk λG E hp pins s σ H acc Q I ⟨ρ,ys,fr,e,z,k⟩=>by
 simp only [q5z] at e
 by_cases hx:x.length<=200000
 ·rw [if_pos hx] at e
  cases ef:fs ρ with
  | none=>rw [ef] at e;cases e
  | some xs=>
   rw [ef] at e
   cases e
   exact Calls.Constant_str (q3H hp hr (I.tok _) fr (Same.refl H) hx ef z k)
 ·rw [if_neg hx] at e;cases e
theorem q56 {g:D->Out Str} {ρ:Ro} {ys:List Str} (e:q4c g fe fs ρ=some ys):∃d x xs,fe ρ=.ok d/\g d=.ok x/\fs ρ=some xs/\ys=x::xs:=by
 simp only [q4c] at e
 cases ed:fe ρ with
 | ok d=>
  rw [ed] at e
  cases eg:g d with
  | ok x=>
   simp only [Out.ok_bind,eg] at e
   cases ef:fs ρ with
   | some xs=>rw [ef] at e;cases e;exact ⟨d,x,xs,rfl,eg,rfl,rfl⟩
   | none=>rw [ef] at e;cases e
  | exc c=>simp only [Out.ok_bind,eg] at e;cases e
  | bad=>simp only [Out.ok_bind,eg] at e;cases e
 | exc c=>rw [ed] at e;cases e
 | bad=>rw [ed] at e;cases e
theorem q1X (he:DE T X v fe) (hr:DJ T X es fs):DJ T X (.FormattedValue v (-1) none pos::es) (q4c q6R fe fs):=.mk λG E hp pins s σ H acc Q I ⟨ρ,ys,fr,e,z,k⟩=>by
 obtain ⟨d,x,xs,ed,eg,ef,rfl⟩:=q56 e
 refine FormattedValue_plain (thn (he.run G E hp pins s σ H (λw H1=>Same H H1/\Rep T X.K H1 d w) I ⟨ρ,fr,?_⟩) λu s1 ⟨w,H1,I1,rv,sm,rd⟩=>?_)
 ·rw [ed];exact λw H1 sm rd=>⟨sm,rd⟩
 ·exact j3G (X:=X) (pins:=pins) (σ:=σ) rd rv eg λt tk hx=>q3H hp hr (I1.tok _) (fr.mono sm) sm hx ef z k
theorem q48 (he:DE T X v fe) (hr:DJ T X es fs):DJ T X (.FormattedValue v 114 none pos::es) (q4c q8o fe fs):=.mk λG E hp pins s σ H acc Q I ⟨ρ,ys,fr,e,z,k⟩=>by
 obtain ⟨d,x,xs,ed,eg,ef,rfl⟩:=q56 e
 refine wpAny_FormattedValue_repr (thn (he.run G E hp pins s σ H (λw H1=>Same H H1/\Rep T X.K H1 d w) I ⟨ρ,fr,?_⟩) λu s1 ⟨w,H1,I1,rv,sm,rd⟩=>?_)
 ·rw [ed];exact λw H1 sm rd=>⟨sm,rd⟩
 ·exact q9K (X:=X) (σ:=σ) rd rv eg λt tk hx=>q3H hp hr (I1.tok _) (fr.mono sm) sm hx ef z k
@[simp] noncomputable def eJ (fs:Ro->Option (List Str)) (ρ:Ro):Out D:=match fs ρ with
 | some xs=>if xs.length<=20 then .ok (.str (xs.foldl (·++·) Str.empty)) else .bad
 | none=>.bad
theorem q1Q {v1 v2:Expr} (h:DJ T X (v1::v2::es) fs):DE T X (.JoinedStr (v1::v2::es) pos) (eJ fs):=.mk λG E hp=>by
 rintro pins s σ H Q I ⟨ρ,fr,q⟩
 simp only [eJ] at q
 cases ef:fs ρ with
 | none=>rw [ef] at q;exact q.elim
 | some xs=>
  rw [ef] at q
  by_cases hx:xs.length<=20
  ·simp only [if_pos hx] at q
   refine wpAny_JoinedStr (h.run G E hp pins s σ H Str.empty _ I ⟨ρ,xs,fr,ef,by rw [sizeLine_eq];show 0+_<=_;omega,λH' s' sm I' hz=>⟨?_,?_⟩⟩)
   ·have z0:Str.empty.length=0:=rfl
    rw [sizeLine_eq];omega
   ·exact ⟨.str _,H',I'.tok _,⟨_,rfl⟩,q _ H' sm rfl⟩
  ·simp only [if_neg hx] at q;exact q.elim
@[simp] noncomputable def w0j (fe:Ev) (ρ:Ro):Out D:=(fe ρ).bind λd=>match d with
 | .int i=>.ok (.int (-i))
 | _=>.bad
theorem j5v (he:DE T X e fe):DE T X (.UnaryOp .USub e pos) (w0j fe):=.mk λG E hp=>
 PE.imp (j8P (X:=X.wish E) j6X (he.run G E hp)) fun σ H Q ⟨ρ,fr,q⟩=>⟨ρ,fr,Acc.mono (Acc.bind q) λd _ hd v H1 s1 r=>by
  cases d with
  | int i=>exact ⟨i,r,hd _ H1 s1 rfl⟩
  | _=>exact hd.elim⟩
end
noncomputable abbrev j40:List Value:=[.type "ValueError",.type "Exception",.type "BaseException",.type "object"]
noncomputable def q3S (K:PySem.W.Frag) (C:Addr):Prop:=PySem.W.excIn K C j40 "ValueError.__new__" = true
theorem j3d {K:PySem.W.Frag} {h:Heap} {C:Addr} (X:K.In h) (q:q3S K C) :
 ∃bm N nm qn bs hd sn sub ab col dd k0 k1 k2 k3 k5 mN,h.get? C=some (excClassObj nm qn C N bs bm hd sn sub ab col dd k0 k1 k2 k3 k5 "ValueError.__new__")/\h.Ns N mN/\mN "__init__" = none/\OwnTail h j40 bm:=by
 have q2:=q
 unfold q3S PySem.W.excIn at q2
 split at q2
 ·rename_i dd cd sl lk
  split at q2
  ·rename_i C2 bm k0 k1 k2 k3 n k5 em es
   simp only [Bool.and_eq_true,beq_iff_eq,Bool.not_eq_true'] at q2
   obtain ⟨⟨⟨⟨⟨eC,en⟩,nd⟩,tl⟩,okN⟩,ni⟩:=q2
   subst eC en
   cases cd with
   | mk nm bs mro ns qn hd sn sub ab col del=>
    simp only at em nd okN ni
    subst em nd
    have e3:sl=#[k0,k1,k2,k3,some (.builtin "ValueError.__new__"),k5]:=Array.toList_inj.mp es
    subst e3
    exact ⟨bm,ns,nm,qn,bs,hd,sn,sub,ab,col,dd,k0,k1,k2,k3,k5,_,X _ _ lk,.of_isNs (PySem.W.isNs_of_in X okN),PySem.W.nsMap_none_of_in X okN ni,PySem.W.tail_of_in X tl⟩
  ·cases q2
 ·cases q2
theorem q45 {X:Cx} {pins:List (Addr×Obj)} {σ:L2.St} {H:Hp} {s:Shared} (I:Inv X pins σ H s) {b:Addr} (hb:s.heap.get? b=none):Free X pins b:=by
 refine ⟨?_,λz=>?_,λx cc e z=>?_,λq hq z=>?_⟩
 ·by_cases hx:b∈X.ex
  ·exact .inl hx
  ·refine .inr ?_
   cases q:X.s₀.heap.get? b with
   | none=>rfl
   | some o=>
    obtain ⟨o',e⟩:=I.base.there b o q hx
    rw [hb] at e;cases e
 ·obtain ⟨m,⟨o,_,_,ho,_⟩,_⟩:=I.loc
  rw [<-z,hb] at ho;cases ho
 ·obtain ⟨v,o,ho,_⟩:=I.cell x cc e
  rw [z,hb] at ho;cases ho
 ·obtain ⟨e,_⟩:=I.pin q hq
  rw [z,hb] at e;cases e
section
variable {T:Tb} {ib:Bool} {X:Cx} {e:Expr} {es:List Expr} {pos np cpos:Pos} {fe:Ev} {fs:Ro->Out (List D)} {x:Str} {c:Nat}
@[simp] noncomputable def q2j (c:Nat) (fs:Ro->Out (List D)) (ρ:Ro):Fl:=(fs ρ).fl ρ λ_=>.exc c ρ
theorem q1v (hc:X.calm=true) (hx:q3S X.K (T.ca c)) (hg:Gl X x) (hm:X.mg x=some (.ref (T.ca c))) (ha:DA T X (e::es) fs) (hsh:∀ρ ds,fs ρ=.ok ds->ds.length<=1000) (hdb:(x==("__debug__" : Str))=false:=by decide)
 (he:starEach (e::es) X.env=(false,eval e X.env)::starEach es X.env:=by exact q0B rfl) (hpl:(backTo cpos (starEach (e::es) X.env)).any (·.1)=false:=by exact q0F rfl):DS T ib X (.Raise (some (.Call (.Name x np) (e::es) [] cpos)) none pos) (q2j c fs):=.mk λG E hp=>by
 rintro pins s σ H D I ⟨ρ,fr,h⟩
 have IX:Inv X pins σ H s:=I.unwish
 obtain ⟨bm,N,nm,qn,bs,hd,sn,sub,ab,col,dd,k0,k1,k2,k3,k5,mN,hC,hN,hni,TL⟩:=j3d I.ok.mod.kin hx
 refine wpAny_Raise_call_subU (C:=T.ca c) (nm:=nm) (q:=qn) (N:=N) (bs:=bs) (bm:=bm) (hdct:=hd) (sn:=sn) (sub:=sub) (ab:=ab) (col:=col) (dd:=dd) (k0:=k0) (k1:=k1) (k2:=k2) (k3:=k3) (k5:=k5)
  PySem.F.excBase_ValueError (by decide) PySem.F.excBase_ValueError (mN:=mN) (TL.hasType (by decide)) (I.ok.hd hc) hpl hni (q2o (X:=X.wish E) I hg hm ⟨rfl,?_⟩ hdb)
 have hA:=ha.run G E hp cpos pins s σ H (λvs H1=>∃ds,fs ρ=.ok ds/\Same H H1/\vs.length=ds.length) I ⟨ρ,fr,Acc.mono (AccS.fl fr h) λds e1 _ vs H1 s1 r=>⟨ds,e1,s1,RepL.length _ _ r⟩⟩
 rw [he] at hA ⊢
 refine Calls.evalArgs_plain (thn hA λus s1 ⟨vs,H1,I1,rv,ds,e1,sm,hl⟩=>?_)
 have I1X:Inv X pins σ H1 s1:=I1.unwish
 have hlen:us.length<=sizeLine:=by
  have:=hsh ρ ds e1
  rw [<-rv.length,hl,sizeLine_eq];omega
 refine ⟨rfl,hlen,I1X.bk _ _ hC,hN.keeps I1X.bk,TL.keeps I1X.bk,λh' ea hm'=>?_⟩
 have h2:=AccS.fl fr h
 rw [e1] at h2
 refine h2 σ H fr (Pers.refl H) pins { s1 with heap:=h' } (.ref ea) H1 (I1X.kept (t':=s1.toks) hm'.keeps) sm ⟨ea,rfl,?_,q45 I1X hm'.new,?_,?_⟩
 ·cases q:H1 ea with
  | none=>rfl
  | some o=>
   obtain ⟨u,eu⟩:=q3V (I1X.hok ea o q)
   rw [hm'.new] at eu;cases eu
 ·obtain ⟨t,ht,_⟩:=hm'.there
  exact ⟨_,_,ht,rfl,rfl,rfl⟩
 ·obtain ⟨t,ht,_⟩:=hm'.there
  exact ⟨_,_,_,ht,rfl,rfl,rfl,.inl rfl⟩
end
theorem j9T {X:Cx} {pins:List (Addr×Obj)} {σ:L2.St} {H H':Hp} {s:Shared} {h':Heap} {g':Array GenState} {t':Nat} {d':Drawn} {ch:List Addr} (I:Inv X pins σ H s)
 (hch:∀b∈ch,Free X pins b)
 (keep:∀b o,b≠X.env.locals->b∉X.fs->b∉ch->s.heap.get? b=some o->H b=none->h'.get? b=some o)
 (slot:∀b o,b≠X.env.locals->b∈X.fs->b∉ch->s.heap.get? b=some o->H b=none->∃sl,h'.get? b=some { o with slots:=sl }) (free:∀b o,b∉ch->s.heap.get? b=some o->H b=none->H' b=none)
 (there:∀b o,b∉ch->s.heap.get? b=some o->∃o',h'.get? b=some o')
 (tups:∀b xs,H b=some (.tup xs)->H' b=some (.tup xs)) (frzs:∀b o u,H b=some (.frz o u)->H' b=some (.frz o u)) (tbls:∀b ps,H b=some (.tbl ps)->∃more,H' b=some (.tbl (ps++more)))
 (ns:∀m,s.heap.Ns X.env.locals m->h'.Ns X.env.locals m) (hok:HOk X.prog X.w H' h') (hg:AllBare g') :
 Inv X pins σ H' { s with heap:=h',gens:=g',drawn:=d',toks:=t' }:=by
 have neL:∀b o,X.s₀.heap.get? b=some o->b≠X.env.locals:=λb o e=>Nat.ne_of_lt (Nat.lt_of_lt_of_le (Heap.lt_size e) I.ok.above)
 have neC:∀b o,X.s₀.heap.get? b=some o->b∉X.ex->b∉ch:=λb o e hx hb=>by
  rcases (hch b hb).1 with z | z
  ·exact hx z
  ·rw [e] at z;cases z
 have cellK:∀x c,X.env.cells.lookup x=some c->∀v,s.heap.IsCell c v->h'.IsCell c v:=λx c e v ⟨o,ho,hd⟩=>by
  have nch:c∉ch:=λz=>(hch c z).2.2.1 x c e rfl
  by_cases hc:c∈X.fs
  ·obtain ⟨sl,q⟩:=slot c o (I.cne x c e) hc nch ho (I.freeC x c e)
   exact ⟨_,q,hd⟩
  ·exact ⟨o,keep c o (I.cne x c e) hc nch ho (I.freeC x c e),hd⟩
 refine ⟨I.ok,I.os,hg,⟨λb o e n hb hx=>?_,λb o e n hb hx=>?_,λb o e n hx=>?_,λb o e hx=>?_,λb xs e=>tups b xs (I.base.tups b xs e),λb o xs e=>frzs b o xs (I.base.frzs b o xs e),λb ps e=>?_⟩,?_,λx c e=>?_,?_,λx c e=>?_,λp hp=>?_,hok,I.len⟩
 ·exact keep b o (neL b o e) hb (neC b o e hx) (I.base.keep b o e n hb hx) (I.base.free b o e n hx)
 ·obtain ⟨sl,e1⟩:=I.base.slot b o e n hb hx
  obtain ⟨sl',e2⟩:=slot b _ (neL b o e) hb (neC b o e hx) e1 (I.base.free b o e n hx)
  exact ⟨sl',e2⟩
 ·obtain ⟨o',e1⟩:=I.base.there b o e hx
  exact free b o' (neC b o e hx) e1 (I.base.free b o e n hx)
 ·obtain ⟨o',e1⟩:=I.base.there b o e hx
  exact there b o' (neC b o e hx) e1
 ·obtain ⟨m1,e1⟩:=I.base.tbls b ps e
  obtain ⟨m2,e2⟩:=tbls b _ e1
  exact ⟨m1++m2,by rw [e2,Array.append_assoc]⟩
 ·obtain ⟨m,hn,hl⟩:=I.loc
  refine ⟨m,ns m hn,λi x v e1 e2 e3=>?_⟩
  obtain ⟨u,r,l⟩:=hl i x v e1 e2 e3
  refine ⟨u,r,?_⟩
  rcases l with l | ⟨k,c,e,z⟩
  ·exact .inl l
  ·exact .inr ⟨k,c,e,cellK x c e _ z⟩
 ·obtain ⟨v,z⟩:=I.cell x c e
  exact ⟨v,cellK x c e v z⟩
 ·obtain ⟨m,⟨o,_,_,ho,_⟩,_⟩:=I.loc
  exact free _ o (λz=>(hch _ z).2.1 rfl) ho I.free
 ·obtain ⟨v,o,ho,hd⟩:=I.cell x c e
  exact free c o (λz=>(hch c z).2.2.1 x c e rfl) ho (I.freeC x c e)
 ·obtain ⟨e,n,ne,nf,d⟩:=I.pin p hp
  have nch:p.1∉ch:=λz=>(hch p.1 z).2.2.2 p hp rfl
  exact ⟨keep p.1 p.2 ne nf nch e n,free p.1 p.2 nch e n,ne,nf,d⟩
section
variable {T:Tb} {ib:Bool} {X:Cx} {pins:List (Addr×Obj)} {σ:L2.St} {H:Hp} {s:Shared} {c:Nat} {u:Value}
theorem q4q {L ch:List Addr} {h':Heap} (I:Inv X pins σ H s) (kb:∀b o,s.heap.get? b=some o->b∉L->h'.get? b=some o) (up:s.heap.UpToSlots h') (hch:∀b∈ch,Free X pins b/\H b=none) (hL:∀b∈L,b∈ch∨b∈frs X.stack):Inv X pins σ H { s with heap:=h' }:=by
 have nofl:∀b∈frs X.stack,∀o,s.heap.get? b=some o->∀vs,o.data≠.fields vs:=λb hb o e=>by
  obtain ⟨_,o',e',d⟩:=I.stack.mem hb
  rw [e] at e';cases e';exact d
 have hok:HOk X.prog X.w H h':=q4d I ⟨kb,up⟩ λb hb=>by
  rcases hL b hb with z | z
  ·exact (hch b z).2
  ·exact I.stkFree b z
 exact j9T (g':=s.gens) (d':=s.drawn) (t':=s.toks) (ch:=ch) I (λb hb=>(hch b hb).1)
  (λb o n1 n2 n3 e _=>kb b o e λhm=>by
   rcases hL b hm with z | z
   ·exact n3 z
   ·exact (List.mem_cons.mp (I.stkSub b z)).elim n1 n2)
  (λb o _ hb n3 e n=>by
   by_cases hm:b∈L
   ·rcases hL b hm with z | z
    ·exact absurd z n3
    ·exact up b o e (nofl b z o e)
   ·exact ⟨o.slots,kb b o e hm⟩)
  (λ_ _ _ _ n=>n)
  (λb o n3 e=>by
   by_cases hm:b∈L
   ·rcases hL b hm with z | z
    ·exact absurd z n3
    ·obtain ⟨sl,q⟩:=up b o e (nofl b z o e)
     exact ⟨_,q⟩
   ·exact ⟨o,kb b o e hm⟩)
  (λ_ _ e=>e) (λ_ _ _ e=>e) (λb ps e=>⟨#[],by rw [e];simp⟩) (λm hm=>up.ns hm) hok I.bare
noncomputable def Landed (T:Tb) (X:Cx) (pins:List (Addr×Obj)) (c:Nat) (ea:Addr) (H:Hp) (h:Heap):Prop:=
 H ea=none/\Free X pins ea/\Nc ea h/\∃(B:Heap) (a0:Value) (L ch:List Addr),Heap.FlyingW B X.stack ea (.ref (T.ca c)) a0 h/\(∀b o,h.get? b=some o->b∉L->B.get? b=some o)/\(∀b∈ch,Free X pins b/\H b=none)/\(∀b∈L,b∈ch∨b∈frs X.stack)
theorem q9f {B h h':Heap} {L ch:List Addr} {ea:Addr} {a0 fl:Value} (I:Inv X pins σ H s) (hn:H ea=none) (fe:Free X pins ea) (hst:X.stack=X.env::X.outer) (hB:B=PySem.W.hideAll s.heap L) (hch:∀b∈ch,Free X pins b/\H b=none) (hL:∀b∈L,b∈ch∨b∈frs X.stack) (hea:ea∈L)
 (fly:Heap.FlyingW B X.stack ea (.ref (T.ca c)) a0 h') (up:s.heap.UpToSlots h') (nc:Nc ea h'):Inv X pins σ H { s with heap:=h' }/\Landed T X pins c ea H h':=by
 subst hB
 have kb:∀b o,s.heap.get? b=some o->b∉L->h'.get? b=some o:=λb o e n=>fly.1 b o (PySem.W.hideAll_get _ e n)
 have I':=q4q I kb up hch hL
 refine ⟨I',hn,fe,nc,?_⟩
 obtain ⟨f1,f2,f3,f4⟩:=id fly
 obtain ⟨oe,vs,tb,ot,ts,he,hc,hd,h1,hnT,hTe,hT,hdT,h3⟩:=id f4
 have notfr:tb∉frs X.stack:=λhm=>by
  obtain ⟨_,o,e,d⟩:=f3.mem hm
  rw [hT] at e;cases e;exact d ts hdT
 have ftb:Free X pins tb/\H tb=none:=by
  cases q:s.heap.get? tb with
  | none=>
   refine ⟨q45 I q,?_⟩
   cases z:H tb with
   | none=>rfl
   | some o=>
    obtain ⟨w,ew⟩:=q3V (I.hok tb o z)
    rw [q] at ew;cases ew
  | some o=>
   have hm:tb∈L:=Classical.byContradiction λn=>by
    rw [PySem.W.hideAll_get _ q n] at hnT;cases hnT
   rcases hL tb hm with z | z
   ·exact hch tb z
   ·exact absurd z notfr
 refine ⟨PySem.W.hideAll h' (ea::tb::frs X.stack),a0,ea::tb::frs X.stack,[ea,tb],⟨λb o q=>PySem.W.of_hideAll _ q,PySem.W.hideAll_none _ List.mem_cons_self,?_,oe,vs,tb,ot,ts,he,hc,hd,h1,PySem.W.hideAll_none _ (by simp),hTe,hT,hdT,h3⟩,λb o e n=>PySem.W.hideAll_get _ e n,λb hb=>?_,λb hb=>?_⟩
 ·exact PySem.W.funFrames_hide f3 λenv he b hb=>List.mem_cons_of_mem _ (List.mem_cons_of_mem _ (List.mem_filterMap.mpr ⟨env,he,hb⟩))
 ·rcases List.mem_cons.mp hb with z | z
  ·rw [z];exact ⟨fe,hn⟩
  ·rw [List.mem_singleton.mp z];exact ftb
 ·rcases List.mem_cons.mp hb with z | z
  ·exact .inl (by simp [z])
  ·rcases List.mem_cons.mp z with z | z
   ·exact .inl (by simp [z])
   ·exact .inr z
theorem j0z {E:Value->Shared->Prop} {P:Shared->Prop} (I:Inv X pins σ H s) (hst:X.stack=X.env::X.outer) (hf:X.env.frame=some X.env.locals) (fl:Flying T X pins c u H s)
 (k:∀ea h',u=.ref ea->Inv X pins σ H { s with heap:=h' }->Landed T X pins c ea H h'->P { s with heap:=h' }) :
 wpAny (model X.prog X.w) X.A (noteFrame u X.env) (λ_ s₂=>wpAny (model X.prog X.w) X.A (setFlight u none) (λ_ s₃=>P s₃) E s₂) E s:=by
 obtain ⟨ea,rfl,hn,fe,nc,oe,vs,a0,he,hc,hd,h0,h1⟩:=fl
 refine wpAny_mono (Kp.any (Q:=λ_ s₂=>Nc ea s₂.heap->wpAny (model X.prog X.w) X.A (setFlight (.ref ea) none) (λ_ s₃=>P s₃) E s₂) (E:=E) Nc.push q2B nc ?_) (λ_ _ z=>z.1 z.2) λ_ _ z=>z.1
 have hfr:X.A.frames=some (X.env::X.outer):=by rw [I.ok.frames,hst]
 have FF:s.heap.FunFrames X.base (X.env::X.outer):=by rw [<-hst];exact I.stack
 have infr:∀(L:List Addr),(∀b∈frs X.stack,b∈L)->s.heap.FunFrames (PySem.W.hideAll s.heap L) (X.env::X.outer):=λL hL=>PySem.W.funFrames_hide FF λenv he b hb=>hL b (by
  rw [hst];exact List.mem_filterMap.mpr ⟨env,he,hb⟩)
 have fin:∀(L ch:List Addr),ea∈L->(∀b∈ch,Free X pins b/\H b=none)->(∀b∈L,b∈ch∨b∈frs X.stack)->∀h',Heap.NotedW (PySem.W.hideAll s.heap L) (X.env::X.outer) ea (.ref (T.ca c)) a0 (rawInt X.env.locals) s.heap h'->Nc ea h' ->
  wpAny (model X.prog X.w) X.A (setFlight (.ref ea) none) (λ_ s₃=>P s₃) E { s with heap:=h' }:=λL ch hea hch hL h' ⟨k1,k2,k3,k4⟩ nc1=>by
  refine wpAny_mono (Kp.any (Q:=λ_ s₂=>Nc ea s₂.heap->P s₂) (E:=E) Nc.push q1P nc1 ?_) (λ_ _ z=>z.1 z.2) λ_ _ z=>z.1
  refine wpAny_setFlight_noneW k1 k2 k3 λh2 m1 m2 m3 m4 nc2=>?_
  have fly:Heap.FlyingW (PySem.W.hideAll s.heap L) X.stack ea (.ref (T.ca c)) a0 h2:=⟨m1,PySem.W.hideAll_none _ hea,by rw [hst];exact m2,m3⟩
  have up:s.heap.UpToSlots h2:=λb o e nd=>by
   obtain ⟨sl,e1⟩:=k4 b o e nd
   exact ⟨sl,m4 b _ e1 nd⟩
  obtain ⟨I2,ld⟩:=q9f (fl:=.none) (h:=h') I hn fe hst rfl hch hL hea fly up nc2
  exact k ea h2 rfl I2 ld
 rcases h1 with h1 | ⟨tb,ot,ts,h1,hne,ht,hdt,h3,hnt,ft⟩
 ·have hsz:1 < vs.size:=(Array.getElem?_eq_some_iff.mp h1).1
  unfold noteFrame
  simp only [hf]
  refine wpAny_bind (wpAny_field he hd h1 ?_)
  rw [if_neg (by decide)]
  refine wpAny_entryW (base:=PySem.W.hideAll s.heap (ea::frs X.stack)) hfr (infr _ λb hb=>List.mem_cons_of_mem _ hb) hf he (λb o q=>PySem.W.of_hideAll _ q) (PySem.W.hideAll_none _ List.mem_cons_self) hd hsz h0 λh' nw=>?_
  rw [hc] at nw
  refine fin (ea::frs X.stack) [ea] List.mem_cons_self (λb hb=>?_) (λb hb=>?_) h' nw
  ·rw [List.mem_singleton.mp hb];exact ⟨fe,hn⟩
  ·rcases List.mem_cons.mp hb with z | z
   ·exact .inl (by simp [z])
   ·exact .inr z
 ·refine wpAny_noteFrame_onW (base:=PySem.W.hideAll s.heap (ea::tb::frs X.stack)) (cls:=.ref (T.ca c)) (a0:=a0) hfr (infr _ λb hb=>List.mem_cons_of_mem _ (List.mem_cons_of_mem _ hb)) hf ⟨oe,vs,tb,ot,ts,he,⟨hc,h0⟩,hd,h1,PySem.W.hideAll_none _ (by simp),hne,ht,hdt,h3⟩ (λb o q=>PySem.W.of_hideAll _ q) (PySem.W.hideAll_none _ List.mem_cons_self) λh' nw=>?_
  refine fin (ea::tb::frs X.stack) [ea,tb] List.mem_cons_self (λb hb=>?_) (λb hb=>?_) h' nw
  ·rcases List.mem_cons.mp hb with z | z
   ·rw [z];exact ⟨fe,hn⟩
   ·rw [List.mem_singleton.mp z];exact ⟨ft,hnt⟩
  ·rcases List.mem_cons.mp hb with z | z
   ·exact .inl (by simp [z])
   ·rcases List.mem_cons.mp z with z | z
    ·exact .inl (by simp [z])
    ·exact .inr z
end
noncomputable abbrev mk (X:Cx) (u:Value):Cx:={ X with A:=X.A.mark (some u),calm:=false }
noncomputable abbrev pinX (X:Cx) (pn:List (Addr×Obj)):Cx:={ X with pn:=pn }
section
variable {T:Tb} {ib:Bool} {X:Cx} {pins:List (Addr×Obj)} {σ:L2.St} {H:Hp} {s:Shared} {c:Nat} {u:Value}
theorem Inv.mk (I:Inv X pins σ H s) (u:Value):Inv (mk X u) pins σ H s:=
 ⟨⟨I.ok.mod,I.ok.kind,I.ok.glob,I.ok.blt,I.ok.above,I.ok.inj,I.ok.has,I.ok.cab,(λz=>by cases z),I.ok.frames,I.ok.stk,I.ok.exf,I.ok.bs,I.ok.bsz,I.ok.noex,I.ok.exfs,I.ok.funs,I.ok.frf⟩,I.os,I.bare,I.base,I.loc,I.cell,I.free,I.freeC,I.pin,I.hok,I.len⟩
theorem Inv.unmk (ok:X.Ok) {E:Value->Shared->Prop} (I:Inv ((L3.mk X u).wish E) pins σ H s):Inv X pins σ H s:=⟨ok,I.os,I.bare,I.base,I.loc,I.cell,I.free,I.freeC,I.pin,I.hok,I.len⟩
theorem Inv.pinX (I:Inv X pins σ H s):Inv (L3.pinX X (X.pn++pins)) [] σ H s:=
 ⟨⟨I.ok.mod,I.ok.kind,I.ok.glob,I.ok.blt,I.ok.above,I.ok.inj,I.ok.has,I.ok.cab,I.ok.hd,I.ok.frames,I.ok.stk,I.ok.exf,I.ok.bs,I.ok.bsz,I.ok.noex,I.ok.exfs,I.ok.funs,I.ok.frf⟩,I.os,I.bare,I.base,I.loc,I.cell,I.free,I.freeC,λp hp=>I.pin p (by simpa using hp),I.hok,I.len⟩
theorem Inv.unpinX (ok:X.Ok) {pins':List (Addr×Obj)} {E:Value->Shared->Prop} (I:Inv ((L3.pinX X (X.pn++pins)).wish E) pins' σ H s):Inv X pins σ H s:=
 ⟨ok,I.os,I.bare,I.base,I.loc,I.cell,I.free,I.freeC,λp hp=>I.pin p (List.mem_append_left _ hp),I.hok,I.len⟩
@[simp] noncomputable def j6S:Fl->Fl
 | .exc _ _=>.bad
 | o=>o
theorem j3W {G H:Hp} {E E':Value->Shared->Prop} {o:Fl} {D:Ends} (h:AccS T ib X G E H (j6S o) D):AccS T ib (L3.mk X u) G E' H o D:=by
 cases o with
 | exc c ρ=>exact h.elim
 | _=>exact h
theorem SP.unmk {E:Value->Shared->Prop} {D:Ends} {f:Flow} {s':Shared} (ok:X.Ok) (h:SP ((L3.mk X u).wish E) pins D f s'):SP X pins D f s':=by
 cases f with
 | next=>obtain ⟨σ',H',I,q⟩:=h;exact ⟨σ',H',Inv.unmk ok I,q⟩
 | brk=>obtain ⟨σ',H',I,q⟩:=h;exact ⟨σ',H',Inv.unmk ok I,q⟩
 | cont=>obtain ⟨σ',H',I,q⟩:=h;exact ⟨σ',H',Inv.unmk ok I,q⟩
 | ret u=>obtain ⟨v,σ',H',I,r,q⟩:=h;exact ⟨v,σ',H',Inv.unmk ok I,r,q⟩
noncomputable def DH (T:Tb) (ib:Bool) (X:Cx) (hs:List ExceptHandler) (f:Nat->Ro->Fl):Prop:=∀(G:Hp) (E:Value->Shared->Prop) (pins:List (Addr×Obj)) (s:Shared) (σ:L2.St) (H:Hp) (D:Ends) (c:Nat) (ea:Addr),Inv X pins σ H s->Landed T X pins c ea H s.heap ->
 (∃ρ,FR T X.K G H σ ρ/\AccS T ib X G E H (f c ρ) D)->wpAny (model X.prog X.w) X.A (handleBy (.ref ea) X.env hs) (SP X pins D) E s
theorem j0Q:DH T ib X [] (λ_ _=>.bad):=λG E pins s σ H D c ea I ld ⟨ρ,fr,h⟩=>h.elim
theorem q79 {M:Model} {ea:Addr} {h:Heap} (ld:Landed T X pins c ea H h):PySem.W.Looks M h (typeOf (.ref ea)) (.ref (T.ca c)):=by
 obtain ⟨_,_,_,B,a0,L,ch,fly,_⟩:=ld
 obtain ⟨ob,hob,hc⟩:=fly.there
 exact hc ▸ (PySem.W.Looks.ld hob).andThen .now
theorem q6C {M:Model} {A:Around} {E:Value->Shared->Prop} {Q:Unit->Shared->Prop} {ea:Addr} (I:Inv X pins σ H s) (ld:Landed T X pins c ea H s.heap) (k:∀h',Inv X pins σ H { s with heap:=h' }->(∃ob,h'.get? ea=some ob/\ob.cls=.ref (T.ca c))->Nc ea h'->Q () { s with heap:=h' }) :
 wpAny M A (setFlight (.ref ea) none) Q E s:=by
 obtain ⟨hn,fe,nc,B,a0,L,ch,fly,hB,hch,hL⟩:=ld
 refine wpAny_mono (Kp.any (Q:=λu s₂=>Nc ea s₂.heap->Q u s₂) (E:=E) Nc.push q1P nc ?_) (λ_ _ z=>z.1 z.2) λ_ _ z=>z.1
 exact lands_againW fly λh' fly' up nc'=>k h' (q4q I (λb o e n=>fly'.1 b o (hB b o e n)) up hch hL) fly'.there nc'
section
variable {x n:Str} {k i:Nat} {m:Nat->Option Bool} {np pos:Pos} {b₀:Stmt} {suite:List Stmt} {hs:List ExceptHandler} {fh:Ro->Fl} {fr':Nat->Ro->Fl}
@[simp] noncomputable def q2s (m:Nat->Option Bool) (fh:Ro->Fl) (fr:Nat->Ro->Fl) (c:Nat) (ρ:Ro):Fl:=match m c with
 | some true=>j6S (fh ρ)
 | some false=>fr c ρ
 | none=>.bad
theorem q1O (hg:Gl X x) (hm:X.mg x=some (.ref (T.ca k))) (hdec:∀c b,m c=some b->PySem.W.exmOne X.K (.ref (T.ca c)) (.ref (T.ca k))=some b) (hsu:∀u,DSs T ib (L3.mk X u) (b₀::suite) fh) (hr:DH T ib X hs fr') (hdb:(x==("__debug__" : Str))=false:=by decide) :
 DH T ib X (.ExceptHandler (some (.Name x np)) none (b₀::suite) pos::hs) (q2s m fh fr'):=λG E pins s σ H D c ea I ld ⟨ρ,fr,h⟩=>by
 refine wpAny_handleBy_cons (codeAny_handlers_test (q2o (X:=L3.mk X (.ref ea)) (Inv.mk I _) hg hm ?_ hdb)) (by intro q;cases q)
 cases em:m c with
 | none=>
  have h':AccS T ib X G E H (q2s m fh fr' c ρ) D:=h
  simp only [q2s,em] at h';exact h'.elim
 | some b=>
  have h':AccS T ib X G E H (q2s m fh fr' c ρ) D:=h
  simp only [q2s,em] at h'
  refine PySem.W.exm_one I.kIn (q79 ld) (hdec c b em) _ _ _ _ (λ_ _ z=>z) ?_
  cases b with
  | false=>exact hr G E pins s σ H D c ea I ld ⟨ρ,fr,h'⟩
  | true=>
   refine codeAny_handlers_suite (q6C I ld λh2 I2 _ _=>?_)
   refine wpAny_mono ((hsu (.ref ea)).run G (λ_ _=>False) PassesOwn.never pins _ σ H D ((Inv.mk I2 _).wish _) ⟨ρ,fr,j3W h'⟩) (λf s3 q=>?_) λ_ _ z=>z.elim
   exact SP.unmk I.ok q
end
@[simp] noncomputable def q8K (fb:Ro->Fl) (fh:Nat->Ro->Fl) (ρ:Ro):Fl:=match fb ρ with
 | .exc c ρ'=>fh c ρ'
 | o=>o
theorem j2R {body:List Stmt} {h₀:ExceptHandler} {hs:List ExceptHandler} {pos:Pos} {fb:Ro->Fl} {fh:Nat->Ro->Fl} (hst:X.stack=X.env::X.outer) (hf:X.env.frame=some X.env.locals) (hb:∀pn,DSs T ib (L3.pinX X pn) body fb) (hh:DH T ib X (h₀::hs) fh) :
 DS T ib X (.Try body (h₀::hs) [] [] pos) (q8K fb fh):=.mk λG E hp=>by
 rintro pins s σ H D I ⟨ρ,fr,h⟩
 have IX:Inv X pins σ H s:=I.unwish
 have ok:=IX.ok
 have h:AccS T ib X G E H (q8K fb fh ρ) D:=h
 refine wpAny_Try_except ?_
 let E':Value->Shared->Prop:=λe s₁=>wpAny (model X.prog X.w) X.A (noteFrame e X.env) (λ_ s₂=>wpAny (model X.prog X.w) X.A (setFlight e none) (λ_ s₃=>wpAny (model X.prog X.w) X.A (handleBy e X.env (h₀::hs)) (SP (X.wish E) pins D) E s₃) E s₂) E s₁
 have hp':PassesOwn (model X.prog X.w) X.A X.env E':=PassesOwn.looking
 have acc:AccS T ib (L3.pinX X (X.pn++pins)) G E' H (fb ρ) D:=by
  cases eo:fb ρ with
  | exc c ρ'=>
   simp only [q8K,eo] at h
   intro σ' H' fr' pr pins' s' u H'' I' sm fl
   have I2:Inv X pins σ' H'' s':=Inv.unpinX (E:=(L3.pinX X (X.pn++pins)).xe) ok I'
   have fl2:Flying T X pins c u H'' s':=by
    obtain ⟨ea,e1,q1,q2,nc,oe,vs,a0,e2,e3,e4,e5,e6⟩:=fl
    have fre:∀b,Free (L3.pinX X (X.pn++pins)) pins' b->Free X pins b:=λb ⟨z1,z2,z3,z4⟩=>⟨z1,z2,z3,λp hp=>z4 p (List.mem_append_left _ hp)⟩
    refine ⟨ea,e1,q1,fre ea q2,nc,oe,vs,a0,e2,e3,e4,e5,?_⟩
    rcases e6 with e6 | ⟨tb,ot,ts,t1,t2,t3,t4,t5,t6,t7⟩
    ·exact .inl e6
    ·exact .inr ⟨tb,ot,ts,t1,t2,t3,t4,t5,t6,fre tb t7⟩
   refine j0z I2 hst hf fl2 λea h2 eu I3 ld=>?_
   subst eu
   refine wpAny_mono (hh G E pins _ σ' H'' D c ea I3 ld ⟨ρ',fr'.mono sm,AccS.heap (pr.trans (Pers.of sm)) h⟩) (λf s4 q=>?_) λ_ _ z=>z
   cases f with
   | next=>obtain ⟨σ4,H4,I4,q⟩:=q;exact ⟨σ4,H4,I4.wish E,q⟩
   | brk=>obtain ⟨σ4,H4,I4,q⟩:=q;exact ⟨σ4,H4,I4.wish E,q⟩
   | cont=>obtain ⟨σ4,H4,I4,q⟩:=q;exact ⟨σ4,H4,I4.wish E,q⟩
   | ret v=>obtain ⟨x4,σ4,H4,I4,r,q⟩:=q;exact ⟨x4,σ4,H4,I4.wish E,r,q⟩
  | nx ρ'=>simp only [q8K,eo] at h;exact h
  | bk ρ'=>simp only [q8K,eo] at h;exact h
  | ct ρ'=>simp only [q8K,eo] at h;exact h
  | rt r=>simp only [q8K,eo] at h;exact h
  | rm r c ds ks=>simp only [q8K,eo] at h;exact h
  | bad=>simp only [q8K,eo] at h;exact h
 refine wpAny_mono ((hb (X.pn++pins)).run G E' hp' [] s σ H D ((Inv.pinX IX).wish E') ⟨ρ,fr,acc⟩) (λf s4 q=>?_) λe s4 z=>z
 cases f with
 | next=>obtain ⟨σ4,H4,I4,q⟩:=q;exact wpAny_execs_nil ⟨σ4,H4,(Inv.unpinX ok I4).wish E,q⟩
 | brk=>obtain ⟨σ4,H4,I4,q⟩:=q;exact ⟨σ4,H4,(Inv.unpinX ok I4).wish E,q⟩
 | cont=>obtain ⟨σ4,H4,I4,q⟩:=q;exact ⟨σ4,H4,(Inv.unpinX ok I4).wish E,q⟩
 | ret v=>obtain ⟨x4,σ4,H4,I4,r,q⟩:=q;exact ⟨x4,σ4,H4,(Inv.unpinX ok I4).wish E,r,q⟩
end
section
variable {T:Tb} {z u:Option Addr} {K:PySem.W.Frag}
theorem q05 {H:Hp} {c:Nat} {a:Addr} {ds:List D}:InsAt { T with me:=z,mo:=u } K H c a ds↔InsAt T K H c a ds:=
 ⟨λ⟨dx,fs,e1,e2,e3,r⟩=>⟨dx,fs,e1,e2,e3,(repL_me _ _).mp r⟩,λ⟨dx,fs,e1,e2,e3,r⟩=>⟨dx,fs,e1,e2,e3,(repL_me _ _).mpr r⟩⟩
theorem q1W {H:Hp}:∀(ss:List Sl) (vs:List V),ArgsOk { T with me:=z,mo:=u } K H vs ss↔ArgsOk T K H vs ss
 | [],_=>Iff.rfl
 | s::ss,vs=>by
  have one:∀v,ArgOk { T with me:=z,mo:=u } K H v s↔ArgOk T K H v s:=λv=>by
   cases s with
   | sh d=>exact q1h d v
   | bo ds=>exact ⟨λ⟨a,us,e1,e2,r⟩=>⟨a,us,e1,e2,(repL_me ds us).mp r⟩,λ⟨a,us,e1,e2,r⟩=>⟨a,us,e1,e2,(repL_me ds us).mpr r⟩⟩
   | bi c ds=>exact ⟨λ⟨a,e,r⟩=>⟨a,e,q05.mp r⟩,λ⟨a,e,r⟩=>⟨a,e,q05.mpr r⟩⟩
   | _=>exact Iff.rfl
  exact ⟨λ⟨v,r,e,h1,h2⟩=>⟨v,r,e,(one v).mp h1,(q1W ss r).mp h2⟩,λ⟨v,r,e,h1,h2⟩=>⟨v,r,e,(one v).mpr h1,(q1W ss r).mpr h2⟩⟩
theorem q70 {G H:Hp} {v:V} (r:Rv):q5H { T with me:=z,mo:=u } K G H v r↔q5H T K G H v r:=by
 cases r with
 | sh d=>exact q1h d v
 | fr ds=>exact ⟨λ⟨a,us,e1,e2,e3,r⟩=>⟨a,us,e1,e2,e3,(repL_me ds us).mp r⟩,λ⟨a,us,e1,e2,e3,r⟩=>⟨a,us,e1,e2,e3,(repL_me ds us).mpr r⟩⟩
 | tf t pre ds post=>exact ⟨λ⟨a,vp,b,vq,ws,e1,e2,r1,r2,e3,e4,r3⟩=>⟨a,vp,b,vq,ws,e1,e2,(repL_me _ _).mp r1,(repL_me _ _).mp r2,e3,e4,(repL_me _ _).mp r3⟩,λ⟨a,vp,b,vq,ws,e1,e2,r1,r2,e3,e4,r3⟩=>⟨a,vp,b,vq,ws,e1,e2,(repL_me _ _).mpr r1,(repL_me _ _).mpr r2,e3,e4,(repL_me _ _).mpr r3⟩⟩
theorem j2d {n:Nat} {F:Fn} {vs:List V} {H:Hp} {Q:VK} {E:XK} (h:spD { T with me:=z,mo:=u } K n F vs H Q E):spD T K n F vs H Q E:=by
 obtain ⟨ss,h1,h2,h3⟩:=h
 refine ⟨ss,(q1W ss vs).mp h1,h2,?_⟩
 cases e:F ss with
 | ok r=>rw [e] at h3;exact λv H' sm ro=>h3 v H' sm ((q70 r).mpr ro)
 | exc c=>rw [e] at h3;exact h3
 | bad=>rw [e] at h3;exact h3
theorem q1K {P:Program} {w:World} {mg:Str->Option Value} {base:Heap} {k:Nat} {f:Addr} {fd:FuncData} {ps:List Str} {n:Nat} {F:Fn} (h:q0M P w K mg base (CXE T P w) k f fd ps (spD T K n F)):q0M P w K mg base (CXE { T with me:=z,mo:=u } P w) k f fd ps (spD { T with me:=z,mo:=u } K n F):=
 ⟨λvs H Q E q=>h.len vs H Q E (j2d q),λA outer s H args us vs Q E hr he hb hv hs=>h.run A outer s H args us vs Q E hr he hb hv (j2d hs)⟩
end
noncomputable def spI (T:Tb) (K:PySem.W.Frag) (c n:Nat) (F:Fn):Sp:=λvs H Q E=>∃(x dx:Addr) (rest:List V) (ss:List Sl) (G:Hp),vs=.ref x::rest/\H=upd (upd G dx (.own x)) x (.ins (T.ca c) dx [])/\G x=none/\G dx=none/\dx≠x/\ArgsOk T K G rest ss/\vs.length=n /\
 (match F ss with
 | .ok (.sh d)=>∀H',Same G H'->Rep T K H' d (.ref x)->Q .non H'
 | .exc c=>∀H',Same G H'->E (.ref (T.ca c)) none H'
 | _=>False)
@[simp] noncomputable def q3m (n c ar:Nat) (f:Ro->Fl) (ss:List Sl):Out Rv:=match f (.me c []::ss++List.replicate (n-(ss.length+1)) .no) with
 | .nx ρ=>(match (ρ[0]?:Option Sl) with
  | some (.me c' ds)=>if c'=c/\ds.length=ar then .ok (.sh (.ins c ds)) else .bad
  | _=>.bad)
 | .exc c _=>.exc c
 | _=>.bad
section
variable {P:Program} {w:World} {K:PySem.W.Frag} {mg:Str->Option Value} {base:Heap} {T:Tb}
theorem j3J {H G:Hp} {N:List Str} {x dx:Addr} {rest:List V} {ss:List Sl} {c:Nat} (hH:H=upd (upd G dx (.own x)) x (.ins (T.ca c) dx [])) (hx:G x=none) (hdx:G dx=none) (hne:dx≠x) (h:ArgsOk T K G rest ss) (hN:rest.length+1<=N.length) :
 FR { T with me:=some x } K G H (L2.start N (.ref x::rest)) (.me c []::ss++List.replicate (N.length-(ss.length+1)) .no):=by
 have hl:=ArgsOk.length ss rest h
 have sm:Same G H:=λb o e=>by
  rw [hH,q0i (λz=>by rw [z,hx] at e;cases e),q0i (λz=>by rw [z,hdx] at e;cases e)];exact e
 have st:∀(i:Nat) (v:V),(V.ref x::rest)[i]?=some v->(L2.start N (.ref x::rest))[i]?=some (some v):=λi v e=>by
  unfold L2.start
  have hi:i < (V.ref x::rest).length:=(List.getElem?_eq_some_iff.mp e).1
  rw [List.getElem?_append_left (by simpa using hi),List.getElem?_map,e];rfl
 have cases_:∀(i:Nat) (s:Sl),(Sl.me c []::ss++List.replicate (N.length-(ss.length+1)) Sl.no)[i]?=some s->(i=0/\s=.me c [])∨(∃j,i=j+1/\ss[j]?=some s)∨s=.no:=λi s e=>by
  cases i with
  | zero=>exact .inl ⟨rfl,by simpa using e.symm⟩
  | succ j=>
   rw [List.cons_append,List.getElem?_cons_succ] at e
   by_cases hj:j < ss.length
   ·rw [List.getElem?_append_left hj] at e;exact .inr (.inl ⟨j,rfl,e⟩)
   ·rw [List.getElem?_append_right (by omega),List.getElem?_replicate] at e
    split at e
    ·cases e;exact .inr (.inr rfl)
    ·cases e
 have noow:∀(i:Nat) (s:Sl) (x:Option (Option V)) (b:Addr),(Sl.me c []::ss++List.replicate (N.length-(ss.length+1)) Sl.no)[i]?=some s->¬q38 H x b s:=λi s x b z o=>by
  rcases cases_ i _ z with ⟨_,y⟩ | ⟨j,_,y⟩ | y
  ·subst y;exact o
  ·obtain ⟨v,_,r⟩:=ArgsOk.get ss rest j _ h y
   cases s with
   | sh d=>exact o
   | bo ds=>exact o
   | bi c ds=>exact o
   | _=>exact r
  ·subst y;exact o
 refine ⟨sm,?_,λi s e=>?_,λi j s t b _ z _ o _=>noow i s _ b z o,λy e=>?_,λi c' es z=>?_⟩
 ·unfold L2.start;simp;omega
 ·rcases cases_ i s e with ⟨rfl,rfl⟩ | ⟨j,rfl,y⟩ | rfl
  ·exact ⟨x,dx,[],rfl,st 0 _ rfl,by rw [hH];exact q0p,hx,rfl,rfl⟩
  ·obtain ⟨v,e1,r⟩:=ArgsOk.get ss rest j s h y
   rw [st (j+1) v (by simpa using e1)]
   cases s with
   | sh d=>exact ⟨v,rfl,(q1h d v).mpr (Rep.mono sm _ _ r)⟩
   | bo ds=>
    obtain ⟨a,us,rfl,r2,r3⟩:=r
    exact ⟨a,us,rfl,r2,(repL_me ds us).mpr (RepL.mono sm _ _ r3)⟩
   | bi c ds=>
    obtain ⟨a,rfl,dx,fs,r2,r3,r4,r5⟩:=r
    exact ⟨a,dx,fs,rfl,r2,r3,r4,(repL_me ds _).mpr (RepL.mono sm _ _ r5)⟩
   | _=>exact r.elim
  ·trivial
 ·cases e;exact st 0 _ rfl
 ·rcases cases_ i _ z with ⟨y,_⟩ | ⟨j,_,y⟩ | y
  ·exact y
  ·obtain ⟨v,_,r⟩:=ArgsOk.get ss rest j _ h y;exact r.elim
  ·cases y
theorem j4y {c ar:Nat} {x qual:Str} {st:Stmt} {fa:Addr} {fd:FuncData} {N ps:List Str} {k:Nat} {f:Ro->Fl} (hT:T.me=none) (har:(T.fl c).length=ar) (F:∃(oc:Value) (od:Option Addr) (dV kV doc pm:Value) (an:Option Addr) (cdv ct:Value) (osl:Array (Option Value)),
 fd=PySem.W.fnOf x qual (q1r st) (q0Z st) (q0g st) dV kV doc pm an cdv ct/\K.lookup fa=some ⟨oc,od,.func fd,osl⟩/\PySem.W.codeIn K cdv qual=true) (S:q0l N ps (q0g st))
 (hb:∀(y:Addr) (cdv:Value) (A:Around) (outer:List Env) (s:Shared) (H:Hp) (E:XK),Room k (A.deeper (envOfC qual (q0g st) s.heap.objs.size fa cdv))->DSs { T with me:=some y } true (CxD T P w K mg base N qual (q0g st) fa cdv A outer s H E) (q0Z st) f) :
 q0M P w K mg base (CXE T P w) (k+1) fa fd ps (spI T K c ps.length (q3m N.length c ar f)):=by
 obtain ⟨oc,od,dV,kV,doc,pm,an,cdv,ct,osl,rfl,lk,hcd⟩:=F
 refine j4n lk hcd S (λvs H Q E ⟨_,_,_,_,_,_,_,_,_,_,_,e,_⟩=>e) λA outer s H vs Q E hr ⟨y,dx,rest,ss,G,ev,hH,hx,hdx,hne,ha,hl,ho⟩=>?_
 subst ev
 have hpl:ps.length<=N.length:=by have:=congrArg List.length S.pre;rw [List.length_take] at this;omega
 have fr:=j3J (T:=T) (K:=K) (N:=N) hH hx hdx hne ha (by simp at hl;omega)
 refine ⟨_,(hb y cdv A outer s H E hr).run G (CxD T P w K mg base N qual (q0g st) fa cdv A outer s H E).xe PassesOwn.leaving,_,fr,?_⟩
 unfold q3m at ho
 cases e:f (.me c []::ss++List.replicate (N.length-(ss.length+1)) .no) with
 | nx ρ=>
  rw [e] at ho
  intro σ H' fr' _
  cases e0:ρ[0]? with
  | none=>simp only [e0] at ho
  | some sl=>
   cases sl with
   | me c' ds=>
    simp only [e0] at ho
    by_cases hc:c'=c/\ds.length=ar
    ·rw [if_pos hc] at ho
     obtain ⟨rfl,hd⟩:=hc
     obtain ⟨a,dx',fs,m0,e1,e2,e3,e4,r⟩:=fr'.sl 0 _ e0
     cases m0
     exact ho H' fr'.same ⟨y,dx',fs,rfl,e2,by rw [e4];exact List.take_of_length_le (by show (T.fl c').length<=_;omega),(repL_me ds _).mp r⟩
    ·rw [if_neg hc] at ho;exact ho.elim
   | _=>simp only [e0] at ho
 | exc c' ρ=>
  rw [e] at ho
  intro σ' H' fr' _ pins s' u H'' I hs fl
  exact q2g I rfl rfl rfl fl (ho H'' (fr'.same.trans hs))
 | rt r=>rw [e] at ho;exact ho.elim
 | rm r c ds ks=>rw [e] at ho;exact ho.elim
 | bk ρ=>rw [e] at ho;exact ho.elim
 | ct ρ=>rw [e] at ho;exact ho.elim
 | bad=>rw [e] at ho;exact ho.elim
end
section
variable {T:Tb} {ib:Bool} {X:Cx} {e o:Expr} {es:List Expr} {pos pos' p apos:Pos} {fe fo:Ev} {fs:Ro->Out (List Sl)} {k n c:Nat} {f:Addr} {fd:FuncData} {ps:List Str} {F:Fn} {ds:List Value} {dvs:List V} {dss:List Sl} {x:Str}
theorem q2i {a:Str} {v:V}:∀{fs:List (Str×V)},a∉fs.map (·.1)->q2F a v fs=fs++[(a,v)]
 | [],_=>rfl
 | (b,u)::r,h=>by
  have hb:¬b=a:=λz=>h (by simp [z])
  have hr:a∉r.map (·.1):=λz=>h (by simp at z ⊢; exact .inr z)
  show (if b=a then _ else _)=_
  rw [if_neg hb,q2i hr];rfl
mutual
theorem Rep.wr {K:PySem.W.Frag} {H:Hp} {y dx:Addr} {c:Nat} {fs:List (Str×V)} {o:HO} (h:H y=some (.ins (T.ca c) dx fs)) (hn:fs.map (·.1)≠T.fl c):∀(d:D) (v:V),Rep T K H d v->Rep T K (upd H y o) d v
 | .non,_,q=>q
 | .bl _,_,q=>q
 | .int _,_,q=>q
 | .str _,_,q=>q
 | .tup ds,_,q=>by
  obtain ⟨b,ws,r1,r2,r3⟩:=q
  refine ⟨b,ws,r1,?_,RepL.wr h hn ds ws r3⟩
  rcases r2 with (r2 | ⟨o',r2⟩) | r2
  ·exact .inl (.inl (by rw [q0i (λz=>by rw [z,h] at r2;cases r2)];exact r2))
  ·exact .inl (.inr ⟨o',by rw [q0i (λz=>by rw [z,h] at r2;cases r2)];exact r2⟩)
  ·exact .inr r2
 | .lst ds,_,q=>by
  obtain ⟨b,ws,r1,r2,r3⟩:=q
  refine ⟨b,ws,r1,?_,RepL.wr h hn ds ws r3⟩
  rcases r2 with ⟨o',r2⟩ | r2
  ·exact .inl ⟨o',by rw [q0i (λz=>by rw [z,h] at r2;cases r2)];exact r2⟩
  ·exact .inr r2
 | .ins c2 ds,_,q=>by
  obtain ⟨b,dx2,fs2,r1,r2,r3,r4⟩:=q
  refine ⟨b,dx2,fs2,r1,?_,r3,RepL.wr h hn ds _ r4⟩
  rw [q0i (λz=>?_)]
  ·exact r2
  ·rw [z,h] at r2
   injection r2 with r2
   injection r2 with q1 q2 q3
   subst q3
   exact hn (by rw [r3];unfold Tb.fl;rw [q1])
 | .exc c,_,q=>by
  obtain ⟨b,o',r1,r2,r3⟩:=q
  exact ⟨b,o',r1,by rw [q0i (λz=>by rw [z,h] at r2;cases r2)];exact r2,r3⟩
theorem RepL.wr {K:PySem.W.Frag} {H:Hp} {y dx:Addr} {c:Nat} {fs:List (Str×V)} {o:HO} (h:H y=some (.ins (T.ca c) dx fs)) (hn:fs.map (·.1)≠T.fl c):∀(ds:List D) (us:List V),RepL T K H ds us->RepL T K (upd H y o) ds us
 | [],_,q=>q
 | d::ds,_,q=>by
  obtain ⟨v,r,r1,r2,r3⟩:=q
  exact ⟨v,r,r1,Rep.wr h hn d v r2,RepL.wr h hn ds r r3⟩
end
@[simp] noncomputable def q0N (c j:Nat) (fe:Ev) (ρ:Ro):Fl:=match (ρ[0]?:Option Sl) with
 | some (.me c' ds)=>if c'=c/\ds.length=j then (fe ρ).fl ρ λd=>.nx (ρ.set 0 (.me c (ds++[d]))) else .bad
 | _=>.bad
theorem q0W {a:Str} (j:Nat) (cl:Cls X.K (T.ca c)) (na:NoAttr X.K (T.ca c) a) (hj:(T.fl c)[j]?=some a) (hnd:(T.fl c).Nodup) (h1000:j < 1000) (he:DE T X e fe) (hN:X.N[0]?=some x:=by rfl) (hv:Vis X.env.scope x:=by walk_at "v0")
 (hs:swapsWith e (some (.Attribute (.Name x p) a pos')) pos.line X.env=pure false:=by exact q1k rfl) (hd:(x==("__debug__" : Str))=false:=by decide) (hcd:(x==("__classdict__" : Str))=false:=by decide) :
 DS T true X (.Assign [.Attribute (.Name x p) a pos'] e pos) (q0N c j fe):=.mk λG E hp=>by
 refine PS.imp (j2u (X:=X.wish E) (q1V (X:=X.wish E) hN hv hd hcd) (he.run G E hp) hs) λD σ H ⟨ρ,fr,h⟩=>?_
 have h:AccS T true X G E H (q0N c j fe ρ) D:=h
 unfold q0N at h
 cases e0:ρ[0]? with
 | none=>simp only [e0] at h;exact h.elim
 | some sl=>
  cases sl with
  | me c' ds=>
   simp only [e0] at h
   by_cases hc:c'=c/\ds.length=j
   ·rw [if_pos hc] at h
    obtain ⟨rfl,hl⟩:=hc
    refine ⟨ρ,fr,Acc.mono (AccS.fl fr h) λd _ hd2 v H1 s1 rd=>?_⟩
    obtain ⟨y,dx,fs,m0,e1,e2,e3,e4,r⟩:=(fr.mono s1).sl 0 _ e0
    have hjl:j < (T.fl c').length:=(List.getElem?_eq_some_iff.mp hj).1
    have hnm:a∉fs.map (·.1):=λz=>by
     rw [e4,hl] at z
     obtain ⟨i,hi⟩:=List.getElem?_of_mem z
     obtain ⟨hi1,_⟩:=List.getElem?_eq_some_iff.mp hi
     rw [List.length_take] at hi1
     rw [List.getElem?_take_of_lt (by omega)] at hi
     have:=q2J hnd hi hj
     omega
    have hfl:fs.length=ds.length:=by
     have:=RepL.length _ _ r;simpa using this
    have hnf:fs.map (·.1)≠T.fl c':=λz=>by
     have:=congrArg List.length z
     simp at this;omega
    refine ⟨_,e1,y,T.ca c',dx,fs,rfl,e2,cl,na,by omega,?_⟩
    have fr1:=fr.mono s1
    have h0:0 < ρ.length:=(List.getElem?_eq_some_iff.mp e0).1
    refine hd2 σ _ ⟨λb u q=>?_,by simp [fr1.len],λi s q=>?_,λi k s1 s2 b hik q1 q2 o1 o2=>?_,fr1.me,λi c2 es q=>?_⟩ (λb u q st=>?_)
    ·rw [q0i (λz=>by rw [z,e3] at q;cases q)];exact fr1.same b u q
    ·by_cases hi:i=0
     ·subst hi
      rw [List.getElem?_set_self h0] at q
      cases q
      refine ⟨y,dx,q2F a v fs,m0,e1,q0p,e3,?_,?_⟩
      ·rw [q2i hnm,List.map_append,e4,List.length_append,List.length_cons,List.length_nil,hl]
       rw [List.take_succ,hj];rfl
      ·rw [q2i hnm,List.map_append]
       exact RepL.append _ _ _ _ (RepL.wr e2 hnf _ _ r) ⟨v,[],rfl,Rep.wr e2 hnf _ _ rd,rfl⟩
     ·rw [List.getElem?_set_ne (Ne.symm hi)] at q
      have hs:=fr1.sl i s q
      cases s with
      | no=>trivial
      | sh d'=>obtain ⟨w,z1,z2⟩:=hs;exact ⟨w,z1,Rep.wr e2 hnf _ _ z2⟩
      | ow es=>
       obtain ⟨b,ws,z1,z2,z3,z4⟩:=hs
       exact ⟨b,ws,z1,by rw [q0i (λz=>by rw [z,e2] at z2;cases z2)];exact z2,z3,RepL.wr e2 hnf _ _ z4⟩
      | bo es=>obtain ⟨b,ws,z1,z2,z4⟩:=hs;exact ⟨b,ws,z1,z2,RepL.wr e2 hnf _ _ z4⟩
      | me c2 es=>
       exact absurd (fr1.me0 i c2 es q) hi
      | mo es=>
       obtain ⟨b,ws,z0,z1,z2,z3,z4⟩:=hs
       exact ⟨b,ws,z0,z1,by rw [q0i (λz=>by rw [z,e2] at z2;cases z2)];exact z2,z3,RepL.wr e2 hnf _ _ z4⟩
      | od kvs=>
       obtain ⟨b,xs,z1,z2,z3,z4,z5,z6⟩:=hs
       exact ⟨b,xs,z1,by rw [q0i (λz=>by rw [z,e2] at z2;cases z2)];exact z2,z3,z4,z5,λq hq=>Rep.wr e2 hnf _ _ (z6 q hq)⟩
      | bi c2 es=>obtain ⟨b,dx2,fs2,z1,z2,z3,z4,z5⟩:=hs;exact ⟨b,dx2,fs2,z1,z2,z3,z4,RepL.wr e2 hnf _ _ z5⟩
      | lm ms=>
       obtain ⟨c2,us,z1,z2,z3,z4,z5⟩:=hs
       refine ⟨c2,us,z1,z2.keep (λu w _ n=>by rw [q0i (λz=>by subst z;rw [e2] at w;cases w;exact n _ _ _ rfl)];exact w),z3,λi' m v' q1 q2=>?_,z5⟩
       have z:=z4 i' m v' q1 q2
       match m,z with
       | (none,ks),⟨b,ws,y1,y2,y3,y4⟩=>exact ⟨b,ws,y1,by rw [q0i (λz=>by rw [z,e2] at y2;cases y2)];exact y2,y3,RepL.wr e2 hnf _ _ y4⟩
       | (some k,ks),⟨b,y1,y2,y3,dx3,fs3,w1,w2,w3,w4⟩=>exact ⟨b,y1,y2,y3,dx3,fs3,by rw [q0i (λz=>by subst z;exact y2 m0)];exact w1,w2,w3,RepL.wr e2 hnf _ _ w4⟩
      | ox t pre es post=>
       obtain ⟨c2,vp,b,vq,ws,z1,z2,z3,z4,z5,z6,z7⟩:=hs
       exact ⟨c2,vp,b,vq,ws,z1,z2.keep (λu w _ n=>by rw [q0i (λz=>by subst z;rw [e2] at w;cases w;exact n _ _ _ rfl)];exact w),RepL.wr e2 hnf _ _ z3,RepL.wr e2 hnf _ _ z4,by rw [q0i (λz=>by rw [z,e2] at z5;cases z5)];exact z5,z6,RepL.wr e2 hnf _ _ z7⟩
    ·have ni:i≠0:=by rintro rfl;rw [List.getElem?_set_self h0] at q1;cases q1;exact o1
     have nk:k≠0:=by rintro rfl;rw [List.getElem?_set_self h0] at q2;cases q2;exact o2
     rw [List.getElem?_set_ne (Ne.symm ni)] at q1
     rw [List.getElem?_set_ne (Ne.symm nk)] at q2
     have bk:∀(x:Addr) (u:HO),H1 x=some u->(∀xs,u≠.lst xs)->(∀x dx fs,u≠.ins x dx fs)->upd H1 y (.ins (T.ca c') dx (q2F a v fs)) x=some u:=λx u w _ n=>by
      rw [q0i (λz=>by subst z;rw [e2] at w;cases w;exact n _ _ _ rfl)];exact w
     exact fr1.ne i k s1 s2 b hik q1 q2 ((fr1.sl i s1 q1).back bk o1) ((fr1.sl k s2 q2).back bk o2)
    ·by_cases hi:i=0
     ·exact hi
     ·rw [List.getElem?_set_ne (Ne.symm hi)] at q;exact fr1.me0 i c2 es q
    ·have hb:b≠y:=λz=>by rw [z] at q;rw [s1 _ _ q] at e2;cases e2;cases st
     rw [q0i hb];exact s1 _ _ q
   ·rw [if_neg hc] at h;exact h.elim
  | _=>simp only [e0] at h;exact h.elim
end
section
variable {T:Tb} {ib:Bool} {X:Cx} {e o a b:Expr} {es:List Expr} {pos pos' p apos:Pos} {fe fo fa fb:Ev} {fs:Ro->Out (List Sl)} {k n c:Nat} {f:Addr} {fd:FuncData} {ps:List Str} {F:Fn} {ds:List Value} {dvs:List V} {dss:List Sl} {x:Str}
theorem j89 {pins:List (Addr×Obj)} {σ:L2.St} {H:Hp} {s:Shared} {E:Value->Shared->Prop} {Q:VK} {us:List Value} {vs:List V} {ss:List Sl} (M:Mk X.K (T.ca c) f) (FO:q0M X.prog X.w X.K X.mg X.base (CXE T X.prog X.w) k f fd ps (spI T X.K c ps.length F)) (hr:Room (k+1) X.A) (hb:Binds X.K fd ps ds) (hd:Vals dvs ds)
 (I:Inv (X.wish E) pins σ H s) (r:Vals vs us) (ha:ArgsOk T X.K H (vs++dvs) ss) (hl:(us++ds).length+1=ps.length)
 (h:Acc T X E σ H (F ss) (λr=>∀v H',Same H H'->q5H T X.K H H' v r->Q v H')) (hsh:∀r,F ss=.ok r->∃d,r=.sh d) :
 wpAny (model X.prog X.w) X.A (call (.ref (T.ca c)) us) (EP (X.wish E) pins σ Q) E s:=by
 have IX:Inv X pins σ H s:=I.unwish
 have I2:=Inv.made (C:=T.ca c) IX
 have hx:=IX.hok.fresh (a:=s.heap.objs.size+1) (Nat.le_succ _)
 have hdx:=IX.hok.fresh (a:=s.heap.objs.size) (Nat.le_refl _)
 have r2:Vals (V.ref (s.heap.objs.size+1)::(vs++dvs)) (Value.ref (s.heap.objs.size+1)::(us++ds)):=.cons rfl (r.append hd)
 let EX:XK:=λcls _ H'=>∃c',cls=.ref (T.ca c')/\F ss=.exc c'/\Same H H'
 have hsp:spI T X.K c ps.length F (V.ref (s.heap.objs.size+1)::(vs++dvs)) (upd (upd H s.heap.objs.size (.own (s.heap.objs.size+1))) (s.heap.objs.size+1) (.ins (T.ca c) s.heap.objs.size [])) (λv H2=>v=.non/\Q (.ref (s.heap.objs.size+1)) H2) EX:=by
  refine ⟨_,s.heap.objs.size,vs++dvs,ss,H,rfl,rfl,hx,hdx,Nat.ne_of_lt (Nat.lt_succ_self _),ha,?_,?_⟩
  ·have:=r2.length;rw [this];simpa using hl
  ·cases ef:F ss with
   | ok rr=>
    obtain ⟨d,rfl⟩:=hsh rr ef
    rw [ef] at h;exact λH' sm rd=>⟨rfl,h _ H' sm rd⟩
   | exc c'=>exact λH' sm=>⟨c',rfl,ef,sm⟩
   | bad=>rw [ef] at h;exact h.elim
 have hl2:(Value.ref (s.heap.objs.size+1)::us++ds).length=ps.length:=by simpa using hl
 refine wpAny_call (q5u (f:=f) IX.kIn M.makes M.init (beq_iff_eq.mp M.fn) (codeAny_mono (FO.run _ X.stack _ _ ⟨Value.ref (s.heap.objs.size+1)::us,[]⟩ (Value.ref (s.heap.objs.size+1)::(us++ds)) _ _ EX (hr.make (T.ca c) us [])
  (I2.env0.make (T.ca c) us []) (hb _ (Value.ref (s.heap.objs.size+1)::us) I2.kIn hl2) r2 hsp) λres s' hq=>?_))
 cases res with
 | error ev=>
  obtain ⟨c1,H',I',fl,c',ec,eF,sm⟩:=Inv.flown I2 hq
  rw [eF] at h
  refine h pins s' ev H' I' sm ?_
  obtain ⟨ea,rfl,h1,h2,nc,oe,vs',a0,he,hc,rest⟩:=fl
  exact ⟨ea,rfl,h1,h2,nc,oe,vs',a0,he,hc.trans ec,rest⟩
 | ok fl=>
  cases fl with
  | ret u=>
   obtain ⟨v,H',I3,rv,ev,q3⟩:=I2.after hq
   subst ev
   exact ⟨rv,⟨V.ref (s.heap.objs.size+1),H',I3.wish E,rfl,q3⟩⟩
  | next=>exact False.elim hq
  | brk=>exact False.elim hq
  | cont=>exact False.elim hq
theorem q17 (M:Mk X.K (T.ca c) f) (FO:q0M X.prog X.w X.K X.mg X.base (CXE T X.prog X.w) k f fd ps (spI T X.K c ps.length F)) (hsh:∀ss r,F ss=.ok r->∃d,r=.sh d) (hr:Room (k+1) X.A) (hg:Gl X x) (hm:X.mg x=some (.ref (T.ca c))) (hb:Binds X.K fd ps ds) (hd:Vals dvs ds)
 (hds:∀H,ArgsOk T X.K H dvs dss) (hn:n+1=ps.length) (ha:DG T X (e::es) fs) (hdb:(x==("__debug__" : Str))=false:=by decide) (he:starEach (e::es) X.env=(false,eval e X.env)::starEach es X.env:=by exact q0B rfl) (hpl:(backTo pos (starEach es X.env)).any (·.1)=false:=by exact q0F rfl) :
 DR T X (.Call (.Name x p) (e::es) [] pos) (j0G (n:=n) F dss fs):=.mk λG E hp=>by
 rintro pins s σ H Q I ⟨ρ,fr,h⟩
 refine wpAny_Call_Name_kw (q2o (X:=X.wish E) I hg hm ?_ hdb)
 refine PySem.W.callWith_K (h₀:=X.base) I.ok.mod.kin M.kp (thn (ha.run G E hp pos pins s σ H (λvs H1=>∃ss,ArgsOk T X.K H1 vs ss/\ss.length+dss.length=n/\Same H H1/\Acc T X E σ H1 (F (ss++dss)) (λr=>∀v H',Same H1 H'->q5H T X.K H1 H' v r->Q v H')) I ⟨ρ,fr,?_⟩) λus s1 ⟨vs,H1,I1,r,ss,ha1,hl1,s1',q⟩=>⟨I1.kIn,?_⟩) he hpl
 ·have h:Acc T X E σ H ((fs ρ).bind λss=>if ss.length+dss.length=n then F (ss++dss) else .bad) _:=h
  refine Acc.mono (Acc.bind h) λss _ hss vs H1 s1 r1=>?_
  by_cases hl:ss.length+dss.length=n
  ·rw [if_pos hl] at hss
   exact ⟨ss,r1,hl,s1,Acc.mono (Acc.heap s1 hss) λr _ hr' v H' s2 r2=>hr' v H' (s1.trans s2) (q4p s1 r2)⟩
  ·rw [if_neg hl] at hss;exact hss.elim
 ·have la:=ArgsOk.length ss vs ha1
  have lr:=r.length
  have ld:=ArgsOk.length dss dvs (hds H1)
  have lv:=hd.length
  exact j89 (X:=X) M FO hr hb hd I1 r (ArgsOk.append _ _ _ _ ha1 (hds H1)) (by simp only [List.length_append,List.nil_append];omega) q (hsh _)
theorem q1G {n c ar:Nat} {f:Ro->Fl} (ss:List Sl) (r:Rv) (h:q3m n c ar f ss=.ok r):∃d,r=.sh d:=by
 unfold q3m at h
 split at h
 ·split at h
  ·split at h
   ·cases h;exact ⟨_,rfl⟩
   ·cases h
  ·cases h
 ·cases h
 ·cases h
@[simp] noncomputable def w1c (cps:List (Nat×Nat)):D->Out D
 | .ins c ds=>(match cps.lookup c with
  | some j=>(match ds[j]? with | some d=>.ok d | none=>.bad)
  | none=>.bad)
 | _=>.bad
@[simp] noncomputable def q37 (cps:List (Nat×Nat)) (fo:Ev) (ρ:Ro):Out D:=(fo ρ).bind (w1c cps)
theorem q3g {a:Str} {j:Nat} {v:V}:∀{fs:List (Str×V)},(fs.map (·.1)).Nodup->(fs.map (·.1))[j]?=some a->(fs.map (·.2))[j]?=some v->fs.lookup a=some v
 | [],_,h,_=>by simp at h
 | (b,u)::r,nd,h1,h2=>by
  cases j with
  | zero=>
   simp at h1 h2
   subst h1 h2
   simp [List.lookup]
  | succ j=>
   rw [List.map_cons,List.getElem?_cons_succ] at h1 h2
   rw [List.map_cons,List.nodup_cons] at nd
   have hne:(a==b)=false:=by
    rw [beq_eq_false_iff_ne]
    rintro rfl
    exact nd.1 (List.mem_of_getElem? h1)
   rw [List.lookup_cons,hne]
   exact q3g nd.2 h1 h2
theorem q3n {cps:List (Nat×Nat)} {c j:Nat} (h:cps.lookup c=some j):(c,j)∈cps:=by
 induction cps with
 | nil=>cases h
 | cons q r ih=>
  obtain ⟨a,b⟩:=q
  rw [List.lookup_cons] at h
  by_cases z:c=a
  ·subst z
   simp at h;subst h;exact List.mem_cons_self
  ·have:(c==a)=false:=beq_eq_false_iff_ne.mpr z
   rw [this] at h
   exact List.mem_cons_of_mem _ (ih h)
theorem q1u {at_:Str} {cps:List (Nat×Nat)} (he:DE T X o fo) (hc:∀q∈cps,Cls X.K (T.ca q.1)/\NoAttr X.K (T.ca q.1) at_/\(T.fl q.1).Nodup/\(T.fl q.1)[q.2]?=some at_) (hb:attributeBase o at_ X.env (eval o X.env)=eval o X.env:=by rfl):DE T X (.Attribute o at_ pos) (q37 cps fo):=.mk λG E hp=>
 PE.imp (j1c (X:=X.wish E) (he.run G E hp) hb) fun σ H Q ⟨ρ,fr,q⟩=>⟨ρ,fr,Acc.mono (Acc.bind q) λd _ hd v H1 s1 r=>by
  cases d with
  | ins c ds=>
   obtain ⟨y,dx,fs,rfl,e2,e3,r4⟩:=r
   have hd:Acc T X E σ H (match cps.lookup c with | some j=>(match ds[j]? with | some d=>.ok d | none=>.bad) | none=>.bad) _:=hd
   cases el:cps.lookup c with
   | none=>simp only [el] at hd;exact hd.elim
   | some j=>
    simp only [el] at hd
    cases ed:ds[j]? with
    | none=>simp only [ed] at hd;exact hd.elim
    | some d=>
     simp only [ed] at hd
     obtain ⟨h1,h2,h3,h4⟩:=hc (c,j) (q3n el)
     obtain ⟨w,ew,rw'⟩:=RepL.get _ _ _ _ r4 ed
     exact ⟨y,T.ca c,dx,fs,w,rfl,e2,h1,h2,q3g (by rw [e3];exact h3) (by rw [e3];exact h4) ew,hd w H1 s1 rw'⟩
  | _=>exact hd.elim⟩
@[simp] noncomputable def D.isNon:D->Bool
 | .non=>true
 | _=>false
theorem j3R {H:Hp} {d:D} {v:V} (r:Rep T X.K H d v):decide (v=.non)=d.isNon:=by
 cases d with
 | non=>cases r;rfl
 | bl b=>cases r;rfl
 | int i=>cases r;rfl
 | str z=>cases r;rfl
 | tup ds=>obtain ⟨a,vs,rfl,_⟩:=r;rfl
 | lst ds=>obtain ⟨a,vs,rfl,_⟩:=r;rfl
 | ins c ds=>obtain ⟨a,dx,fs,rfl,_⟩:=r;rfl
 | exc c=>obtain ⟨a,o,rfl,_⟩:=r;rfl
@[simp] noncomputable def q8Y (g g':D->D->Out D) (fa fb fc:Ev) (ρ:Ro):Out D:=(fa ρ).bind λx=>(fb ρ).bind λy=>(g x y).bind λz=>z.toB.bind λk=>if k=true then (fc ρ).bind λw=>g' y w else .ok (.bl false)
theorem q80 {G H:Hp} {E:Value->Shared->Prop} {σ:L2.St} {Q:VK} {g g':D->D->Out D} {r r':R2} {fc:Ev}
 (hg:∀(dx dy:D) (x y:V) (σ:L2.St) (H:Hp) (Q:VK),Rep T X.K H dx x->Rep T X.K H dy y->Acc T X E σ H (g dx dy) (kE T X.K H Q)->r x y H Q)
 (hg':∀(dx dy:D) (x y:V) (σ:L2.St) (H:Hp) (Q:VK),Rep T X.K H dx x->Rep T X.K H dy y->Acc T X E σ H (g' dx dy) (kE T X.K H Q)->r' x y H Q) {ρ:Ro} (fr:FR T X.K G H σ ρ) (h:Acc T X E σ H (q8Y g g' fa fb fc ρ) (kE T X.K H Q)) :
 j1i r r' (tE T X G E fa) (tE T X G E fb) (tE T X G E fc) σ H Q:=by
 have h:Acc T X E σ H ((fa ρ).bind λx=>(fb ρ).bind λy=>(g x y).bind λz=>z.toB.bind λk=>if k=true then (fc ρ).bind λw=>g' y w else .ok (.bl false)) (kE T X.K H Q):=h
 refine ⟨ρ,fr,Acc.mono (Acc.bind h) λdx _ hx v H1 s1 r1=>⟨ρ,fr.mono s1,Acc.mono (Acc.bind (Acc.heap s1 hx)) λdy _ hy u H2 s2 r2=>?_⟩⟩
 refine hg dx dy v u σ H2 _ (Rep.mono s2 _ _ r1) r2 (Acc.mono (Acc.bind (Acc.heap s2 hy)) λdz _ hz w H3 s3 r3=>?_)
 obtain ⟨kk,rfl,hk⟩:=q47 hz
 refine ⟨kk,r3,?_⟩
 cases kk with
 | true=>
  refine ⟨ρ,((fr.mono s1).mono s2).mono s3,Acc.mono (Acc.bind (Acc.heap s3 hk)) λdw _ hw t H4 s4 r4=>?_⟩
  exact hg' dy dw u t σ H4 Q (Rep.mono s4 _ _ (Rep.mono s3 _ _ r2)) r4 (Acc.mono (Acc.heap s4 hw) λd _ hd z H5 s5 r5=>hd z H5 ((((s1.trans s2).trans s3).trans s4).trans s5) r5)
 | false=>exact hk _ H3 ((s1.trans s2).trans s3) rfl
theorem q2L {op op':CmpOp} {g g':D->D->Out D} {cc:Expr} {fc:Ev} (ho:OpD T X (compareOp op) g) (ho':OpD T X (compareOp op') g') (ha:DE T X a fa) (hb:DE T X b fb) (hc:DE T X cc fc) (hm:lastMarks [op,op'] [b,cc]=false:=by with_unfolding_all rfl) :
 DT T X (.Compare a [op,op'] [b,cc] pos) (fun ρ=>(q8Y g g' fa fb fc ρ).bind D.toB):=.mk λG E hp=>by
 obtain ⟨r,hr,hg⟩:=ho E
 obtain ⟨r',hr',hg'⟩:=ho' E
 refine PT.imp (j0N (X:=X.wish E) hr hr' (ha.run G E hp) (hb.run G E hp) (hc.run G E hp) hm) fun σ H Q ⟨ρ,fr,h⟩=>q80 hg hg' fr (Acc.mono (Acc.bind h) λd _ hd v H1 s1 r1=>?_)
 cases d with
 | bl kk=>exact ⟨kk,r1,hd H1 s1⟩
 | _=>exact hd.elim
end
section
variable {T:Tb} {ib:Bool} {X:Cx} {e o a b:Expr} {es:List Expr} {pos pos' p apos:Pos} {fe fo fa fb:Ev} {x:Str}
@[simp] noncomputable def isD (neg:Bool):D->D->Out D
 | .bl i,.bl j=>.ok (.bl (if neg then !decide (i=j) else decide (i=j)))
 | d,.non=>.ok (.bl (if neg then !d.isNon else d.isNon))
 | _,_=>.bad
theorem j5J:OpR X (compareOp .Is) (λx y H Q=>∃i j,x=.bl i/\y=.bl j/\Q (.bl (decide (i=j))) H):=by
 intro pins s σ H x y v u Q I rx ry h
 obtain ⟨i,j,rfl,rfl,q⟩:=h
 cases rx
 cases ry
 exact is_bool (q0C I q (by cases i<;>cases j<;>rfl))
theorem j8Y:OpD T X (compareOp .Is) (isD false):=λE=>⟨_,OpR.or j5p j5J,λdx dy x y σ H Q rx ry q=>by
 cases dy with
 | non=>
  have q2:Acc T X E σ H (.ok (.bl dx.isNon)) (kE T X.K H Q):=by cases dx<;>exact q
  exact .inl ⟨ry,q2 _ H (Same.refl H) (congrArg V.bl (j3R rx))⟩
 | bl j=>
  cases dx with
  | bl i=>exact .inr ⟨i,j,rx,ry,q _ H (Same.refl H) rfl⟩
  | _=>exact q.elim
 | _=>first | exact q.elim | (cases dx<;>exact q.elim)⟩
@[simp] noncomputable def q8p:List Nat->Ro->List D->Out Ro
 | [],ρ,[]=>.ok ρ
 | i::is,ρ,d::ds=>q8p is (ρ.set i (.sh d)) ds
 | _,_,_=>.bad
noncomputable def j7F (T:Tb) (X:Cx) (ts:List Expr) (is:List Nat):Prop:=∀E:Value->Shared->Prop,∃tg:TGs,PGs (X.wish E) ts tg/\∀(G H:Hp) (σ:L2.St) (ρ ρ':Ro) (ds:List D) (vs:List V) (Q:L2.St->Hp->Prop),FR T X.K G H σ ρ->RepL T X.K H ds vs->q8p is ρ ds=.ok ρ'->(∀σ',FR T X.K G H σ' ρ'->Q σ' H)->tg vs σ H Q
theorem q3U:j7F T X [] []:=λE=>⟨_,j3Z,λG H σ ρ ρ' ds vs Q fr r e k=>by
 cases ds with
 | nil=>cases e;cases r;exact ⟨rfl,k σ fr⟩
 | cons d ds=>cases e⟩
theorem q1m (i:Nat) {is:List Nat} {ts:List Expr} (hN:X.N.Nodup) (hr:j7F T X ts is) (hi:X.N[i]?=some x:=by rfl) (hx:Loc X.env.scope x:=by walk_at "v3") (hf:X.fn x=true∨X.env.scope.names.lookup x=some .local:=by walk_at "v2") (hz:T.me=none∨i≠0:=by walk_at "v1")
 (hs:(assignEach (.Name x p::ts) X.env).map (·.2)=assign (.Name x p) X.env::(assignEach ts X.env).map (·.2):=by rfl):j7F T X (.Name x p::ts) (i::is):=λE=>by
 obtain ⟨tg,h1,h2⟩:=hr E
 refine ⟨_,q9L (X:=X.wish E) (q3L (X:=X.wish E) (i:=i) hN hi hx hf) h1 (by first | exact hs | rfl),λG H σ ρ ρ' ds vs Q fr r e k=>?_⟩
 cases ds with
 | nil=>cases e
 | cons d ds=>
  obtain ⟨v,us,rfl,r1,r2⟩:=r
  exact ⟨v,us,rfl,h2 G H _ _ ρ' ds us Q (fr.set_sh r1 hz) r2 e k⟩
@[simp] noncomputable def q7N (is:List Nat) (ρ:Ro) (d:D):Out Ro:=match d with
 | .tup ds=>q8p is ρ ds
 | _=>.bad
theorem q4B:∀(is:List Nat) (ρ ρ':Ro) (ds:List D),q8p is ρ ds=.ok ρ'->ds.length=is.length
 | [],_,_,[],_=>rfl
 | [],_,_,_::_,e=>by cases e
 | _::_,_,_,[],e=>by cases e
 | i::is,ρ,ρ',d::ds,e=>by
  have:=q4B is _ ρ' ds e
  simp [this]
theorem q5s {ts:List Expr} {is:List Nat} {kk:Nat} (hc:X.calm=true) (h:j7F T X ts is) (hn:(assignEach ts X.env).length=is.length:=by rfl) (hst:(assignEach ts X.env).findIdx? (·.1)=none:=by rfl):TgD T X (.Tuple ts kk pos) (q7N is):=λE=>by
 obtain ⟨tg,h1,h2⟩:=h E
 refine ⟨_,j5h (X:=X.wish E) (n:=is.length) hc h1 hn hst,λG H σ ρ ρ' d v Q fr r e k=>?_⟩
 cases d with
 | tup ds=>
  obtain ⟨a,vs,rfl,sq,rl⟩:=r
  exact ⟨a,vs,rfl,sq,(RepL.length _ _ rl).trans (q4B is ρ ρ' ds e),h2 G H σ ρ ρ' ds vs Q fr rl e k⟩
 | _=>cases e
end
section
variable {T:Tb} {X:Cx} {pos:Pos} {x:Str}
theorem q0D {i:Int} (hg:Gl X x) (h:∃t,X.mg x=some (.int i t)) (hd:(x==("__debug__" : Str))=false:=by decide):DE T X (.Name x pos) (eC (.int i)):=by
 obtain ⟨t,h⟩:=h
 exact q49 (v:=.int i) hg h ⟨t,rfl⟩ (λ_=>rfl) hd
theorem q9C {z:Str} (hg:Gl X x) (h:∃t,X.mg x=some (.str z t)) (hd:(x==("__debug__" : Str))=false:=by decide):DE T X (.Name x pos) (eC (.str z)):=by
 obtain ⟨t,h⟩:=h
 exact q49 (v:=.str z) hg h ⟨t,rfl⟩ (λ_=>rfl) hd
theorem hsh1 {fe:Ev} (ρ:Ro) (ds:List D) (h:q0q fe q0K ρ=.ok ds):ds.length<=1000:=by
 simp only [q0q,q0K] at h
 cases e:fe ρ with
 | ok d=>rw [e] at h;cases h;show 1<=1000;decide
 | exc c=>rw [e] at h;cases h
 | bad=>rw [e] at h;cases h
theorem q1Z {K:PySem.W.Frag} {k:Nat} {tab:List (Nat×Bool)} (h:∀q∈tab,PySem.W.exmOne K (.ref (T.ca q.1)) (.ref (T.ca k))=some q.2) (c:Nat) (b:Bool) (e:tab.lookup c=some b):PySem.W.exmOne K (.ref (T.ca c)) (.ref (T.ca k))=some b:=by
 have hm:(c,b)∈tab:=by
  induction tab with
  | nil=>cases e
  | cons q r ih=>
   obtain ⟨a,d⟩:=q
   rw [List.lookup_cons] at e
   by_cases z:c=a
   ·subst z
    simp at e;subst e;exact List.mem_cons_self
   ·have:(c==a)=false:=beq_eq_false_iff_ne.mpr z
    rw [this] at e
    exact List.mem_cons_of_mem _ (ih (λq hq=>h q (List.mem_cons_of_mem _ hq)) e)
 exact h _ hm
end
theorem q2T {K:PySem.W.Frag} {x qual:Str} {st:Stmt} {f:Addr} {fd:FuncData} (F:L2.Fun K x qual st f fd):∃(oc:Value) (od:Option Addr) (dV kV doc pm:Value) (an:Option Addr) (cdv ct:Value) (osl:Array (Option Value)),
 fd=PySem.W.fnOf x qual (q1r st) (q0Z st) (q0g st) dV kV doc pm an cdv ct/\K.lookup f=some ⟨oc,od,.func fd,osl⟩/\PySem.W.codeIn K cdv qual=true:=by
 obtain ⟨oc,od,kV,doc,pm,an,cdv,ct,osl,e1,e2,e3⟩:=F.ex
 exact ⟨oc,od,.none,kV,doc,pm,an,cdv,ct,osl,e1,e2,e3⟩
section
variable {T:Tb} {ib:Bool} {X:Cx} {e o a:Expr} {es:List Expr} {pos p apos cpos:Pos} {fe fo:Ev} {fs:Ro->Out (List D)}
noncomputable def MtD (T:Tb) (X:Cx) (t id:String) (g:D->List D->Out D):Prop:=∀E:Value->Shared->Prop,∃r:V->List V->Hp->VK->Prop,MtR (X.wish E) id r /\
 ∀(d:D) (ds:List D) (v:V) (vs:List V) (σ:L2.St) (H:Hp) (Q:VK),Rep T X.K H d v->RepL T X.K H ds vs->Acc T X E σ H (g d ds) (kE T X.K H Q)->r v vs H Q
@[simp] noncomputable def eMt (ty:D->Bool) (g:D->List D->Out D) (fo:Ev) (fs:Ro->Out (List D)) (ρ:Ro):Out D:=(fo ρ).bind λd=>if ty d=true then (fs ρ).bind λds=>g d ds else .bad
@[simp] noncomputable def q5G:D->Bool
 | .str _=>true
 | _=>false
theorem j6L {name:Str} {id:String} {g:D->List D->Out D} (hm:MtD T X "str" id g) (slot:Slot "str" name id) (hty:typeOf (.builtin id)=pure (.type "method_descriptor")) (ho:DE T X o fo) (ha:DA T X (e::es) fs)
 (hbase:attributeBase o name X.env (eval o X.env)=eval o X.env:=by rfl)
 (hfew:((backTo cpos (starEach (e::es) X.env)).all (λx=>!x.1) && (backToKw cpos (keywordEach [] X.env)).all (λx=>x.1.isSome)
  && decide ((e::es).length+([]:List Keyword).length+(if ([]:List Keyword).isEmpty then 0 else 1) < 30))=true:=by exact j1l rfl rfl)
 (hline:(apos.endLine==cpos.line)=true:=by rfl) (hs:starEach (e::es) X.env=(false,eval e X.env)::starEach es X.env:=by exact q0B rfl) (hplain:(backTo cpos (starEach es X.env)).any (·.1)=false:=by exact q0F rfl) :
 DE T X (.Call (.Attribute o name apos) (e::es) [] cpos) (eMt q5G g fo fs):=.mk λG E hp=>by
 obtain ⟨r,hr,hg⟩:=hm E
 refine PE.imp (j6j (X:=X.wish E) PySem.F.plainAttrs_str slot hty hr (ho.run G E hp) (ha.run G E hp) hbase hfew hline hs hplain) fun σ H Q ⟨ρ,fr,q⟩=>?_
 have q:Acc T X E σ H ((fo ρ).bind λd=>if q5G d=true then (fs ρ).bind λds=>g d ds else .bad) (kE T X.K H Q):=q
 refine ⟨ρ,fr,Acc.mono (Acc.bind q) λd _ hd v H1 s1 rd=>?_⟩
 by_cases z:q5G d=true
 ·rw [if_pos z] at hd
  cases d with
  | str x=>
   refine ⟨by rw [show v=V.str x from rd];exact rfl,ρ,fr.mono s1,Acc.mono (Acc.bind (Acc.heap s1 hd)) λds _ hds vs H2 s2 rl=>?_⟩
   exact hg _ ds v vs σ H2 Q (Rep.mono s2 _ _ rd) rl (Acc.mono (Acc.heap s2 hds) λd' _ k w H3 s3 r3=>k w H3 ((s1.trans s2).trans s3) r3)
  | _=>cases z
 ·rw [if_neg z] at hd;exact hd.elim
end
noncomputable def q6Y:Expr->Option D
 | .Constant (.int i) _ _=>some (.int i)
 | .Constant (.str x) _ _=>some (.str x)
 | .Constant (.bool b) _ _=>some (.bl b)
 | .Constant .none _ _=>some .non
 | _=>none
noncomputable def litsOf:List Expr->Option (List D)
 | []=>some []
 | e::es=>match q6Y e,litsOf es with
  | some d,some ds=>some (d::ds)
  | _,_=>none
@[simp] noncomputable def j41 (ds:List D) (ρ:Ro):Out (List D):=.ok ds
section
variable {T:Tb} {X:Cx}
theorem j5f:∀{e:Expr} {d:D},q6Y e=some d->DE T X e (eC d):=by
 intro e d h
 unfold q6Y at h
 split at h<;>cases h
 ·exact q0b
 ·exact q4I
 ·exact j5Z
 ·exact j05
theorem q3G:∀{e:Expr} {d:D},q6Y e=some d->q2n e=true:=by
 intro e d h
 unfold q6Y at h
 split at h<;>first | rfl | cases h
theorem q7O:∀{es:List Expr} {ds:List D},litsOf es=some ds->DA T X es (j41 ds)
 | [],ds,h=>by
  cases h
  exact q0n
 | e::es,ds,h=>by
  unfold litsOf at h
  cases e1:q6Y e with
  | none=>rw [e1] at h;cases h
  | some d=>
   cases e2:litsOf es with
   | none=>rw [e1,e2] at h;cases h
   | some rs=>
    rw [e1,e2] at h
    cases h
    exact q0k (j5f e1) (q7O e2) (q0B (q3G e1))
end
noncomputable def Walk (T:Tb) (K:PySem.W.Frag) (G:Hp) (J:It) (ds:List D) (H0:Hp):Prop:=∀(i:Nat) (H:Hp),Pers T false H0 H->Same G H ->
 (∀d,ds[i]?=some d->J.go i H/\∀x H1,J.yld i H x H1->Same H H1/\Rep T K H1 d x)/\(ds.length<=i->J.stop i H)
noncomputable def tI (T:Tb) (X:Cx) (G:Hp) (E:Value->Shared->Prop) (f:Ro->Out (List D)):TI:=fun σ H R=>∃ρ,FR T X.K G H σ ρ/\Acc T X E σ H (f ρ) (λds=>∀J H',Same H H'->Walk T X.K G J ds H'->R J H')
structure DI (T:Tb) (X:Cx) (tg e:Expr) (f:Ro->Out (List D)):Prop where
 mk ::
 run:∀(G:Hp) (E:Value->Shared->Prop),PassesOwn (model X.prog X.w) X.A X.env E->PI (X.wish E) tg e (tI T X G E f)
section
variable {T:Tb} {X:Cx} {tg iter e a b:Expr} {body:List Stmt} {pos p:Pos} {fb:Ro->Fl} {fl fm:Ro->Out (List D)} {fe fa fc:Ev}
theorem q04 {g:Ro->D->Out Ro} (hc:X.calm=true) (hi:DI T X tg iter fl) (hg:TgD T X tg g) (hb:DSs T false X body fb)
 (hs:∀x,foldedSetIterable iter X.env x=pure x:=by intro _;rfl):DS T false X (.For tg iter body [] pos) (q3P fl g fb):=.mk λG E hp=>by
 obtain ⟨tgr,hpg,hgr⟩:=hg E
 refine PS.imp (j6t (X:=X.wish E) hp hc (hi.run G E hp) hpg (hb.run G E hp) hs) λDD σ H ⟨ρ,fr,h⟩=>⟨ρ,fr,Acc.mono (AccS.fl fr h) λds _ hd J H1 s1 wk=>?_⟩
 refine ⟨λi m σ' H'=>m=ds.length-i/\i<=ds.length/\∃ρ',FR T X.K G H' σ' ρ'/\Pers T false H1 H'/\AccS T false X G E H' (q18 (q0G g fb) (ds.drop i) ρ') DD,⟨ds.length,rfl,Nat.zero_le _,ρ,fr.mono s1,Pers.refl _,AccS.heap (Pers.of s1) hd⟩,?_⟩
 rintro i m σ' H' ⟨rfl,hi,ρ',fr',p',ha⟩
 obtain ⟨w1,w2⟩:=wk i H' p' fr'.same
 by_cases hlt:i < ds.length
 ·obtain ⟨d,e1⟩:∃d,ds[i]?=some d:=⟨ds[i],by simp [hlt]⟩
  obtain ⟨go,yl⟩:=w1 d e1
  refine .inr ⟨go,fun σ2 H2=>∃ρ2,FR T X.K G H2 σ2 ρ2/\Pers T false H1 H2/\AccS T false X G E H2 (q18 (q0G g fb) (ds.drop (i+1)) ρ2) DD,fun σ2 H2 q=>⟨ds.length-(i+1),by omega,rfl,hlt,q⟩,λx H2 y=>?_⟩
  obtain ⟨s2,rd⟩:=yl x H2 y
  have e2:ds.drop i=d::ds.drop (i+1):=by
   obtain ⟨hi',e3⟩:=List.getElem?_eq_some_iff.mp e1
   rw [List.drop_eq_getElem_cons hi',e3]
  rw [e2] at ha
  exact q98 (ib:=false) hgr (λ_ _ _ q=>q) (fr'.mono s2) rd (AccS.heap (Pers.of s2) ha) fun ρ2 σ2 H3 fr2 p2 h2=>⟨ρ2,fr2,(p'.trans (Pers.of s2)).trans p2,h2⟩
 ·have e:i=ds.length:=by omega
  subst e
  rw [List.drop_length] at ha
  exact .inl ⟨w2 (Nat.le_refl _),ha σ' H' fr' (Pers.refl _)⟩
theorem q7l {G H1:Hp} {E:Value->Shared->Prop} {l:Addr} {vs:List V} {ds:List D} (st:Stb X.K G H1 l vs) (r:RepL T X.K H1 ds vs):Walk T X.K G (Itl X.K l) ds H1:=λi H p sm=>by
 have st':Stb X.K G H l vs:=st.pers p
 have sq:=st'.sq sm
 have r':=RepL.pers p _ _ r
 refine ⟨λd e=>?_,λh=>⟨vs,sq,by rw [RepL.length _ _ r'];exact h⟩⟩
 obtain ⟨v,e1,rd⟩:=RepL.get _ _ _ _ r' e
 refine ⟨⟨vs,v,sq,e1⟩,λx H2 ⟨e2,y⟩=>?_⟩
 subst e2
 have:=y vs sq
 rw [e1] at this;cases this
 exact ⟨Same.refl _,rd⟩
theorem q1s (hl:DP T X iter fl):DI T X tg iter fl:=.mk λG E hp=>
 PI.imp (j3K (hl.run G E hp)) fun σ H R ⟨ρ,fr,h⟩=>⟨ρ,fr,Acc.mono h λds _ hd l vs H1 s1 st r=>
  ⟨l,rfl,⟨vs,st.sq (fr.same.trans s1)⟩,hd _ H1 s1 (q7l (E:=E) st r)⟩⟩
@[simp] noncomputable def D.toT:D->Out (List D)
 | .tup ds=>.ok ds
 | _=>.bad
@[simp] noncomputable def j3w (f:Ev) (ρ:Ro):Out (List D):=(f ρ).bind D.toT
theorem q5X {K:PySem.W.Frag} {H H':Hp} {l:Addr} {vs:List V} (p:Pers T false H H') (h:SqT K H l vs):SqT K H' l vs:=by
 rcases h with (r2 | ⟨o,r2⟩) | r2
 ·exact .inl (.inl (p _ _ r2 rfl))
 ·exact .inl (.inr ⟨o,p _ _ r2 rfl⟩)
 ·exact .inr r2
theorem j1J (hl:DE T X iter fe):DI T X tg iter (j3w fe):=.mk λG E hp=>
 PI.imp (j4L (hl.run G E hp)) fun σ H R ⟨ρ,fr,h⟩=>⟨ρ,fr,Acc.mono (Acc.bind h) λd _ hd v H1 s1 r=>by
  cases d with
  | tup ds=>
   obtain ⟨l,vs,rfl,sq,rl⟩:=r
   refine ⟨l,rfl,⟨vs,sq⟩,hd _ H1 s1 λi H2 p sm=>?_⟩
   have sq':=q5X p sq
   have r':=RepL.pers p _ _ rl
   refine ⟨λd e=>?_,λh=>⟨vs,sq',by rw [RepL.length _ _ r'];exact h⟩⟩
   obtain ⟨v,e1,rd⟩:=RepL.get _ _ _ _ r' e
   refine ⟨⟨vs,v,sq',e1⟩,λx H3 ⟨e2,y⟩=>?_⟩
   subst e2
   have:=y vs sq'
   rw [e1] at this;cases this
   exact ⟨Same.refl _,rd⟩
  | _=>exact hd.elim⟩
noncomputable def rgS (lo step:Int) (n:Nat):List D:=(List.range n).map λ(k:Nat)=>D.int (lo+(k:Int)*step)
noncomputable def Its (lo step:Int) (n:Nat):It:=⟨λi _=>i < n,λi H x H'=>H'=H/\x=.int (lo+i*step),λi _=>n<=i⟩
theorem q4P {P:Program} {w:World} {K:PySem.W.Frag} {tg:Expr} (it:Addr) (lo step:Int) (n:Nat):Turn P w K tg (Its lo step n) [it] it (λi h=>IsRangeIter h it (lo+(i:Nat)*step) ((n:Int)-(i:Nat)) step) where
 mem:=by simp
 obj:=λi h st b hb=>by
  have e:b=it:=by simpa using hb
  subst e
  exact ⟨_,st,λv z=>by
   have z':Data.fields _=Data.cell v:=z
   cases z'⟩
 keep:=λi h h' st k=>k it (by simp) _ st
 item:=by
  intro X hP hw hK hc i pins s σ H E I hf st hg
  subst hP hw hK
  obtain ⟨f0,f1,f2,f3,f4,f5⟩:=hf it (by simp)
  have W:=Walks.range (prog:=X.prog) (w:=X.w) (I.ok.hd hc) it lo step n
  refine W.item i s _ _ hg st λv h' tk hv st' kk=>?_
  obtain ⟨t,rfl⟩:=hv
  have I1:Inv X pins σ H { s with heap:=h',toks:=tk }:=I.turned (λb o hb e=>kk b o (by simpa using hb) e) f0 f1 f3 f4 f5
  exact ⟨_,rfl,q7q (s:={ s with heap:=h',toks:=tk }) (n:="range_iterator") st' rfl rfl (by decide) ⟨.int (lo+i*step),H,I1,⟨t,rfl⟩,⟨rfl,rfl⟩,st',λb hb=>(hf b hb).1⟩⟩
 done:=by
  intro X hP hw hK hc i pins s σ H E I hf st hg
  subst hP hw hK
  obtain ⟨f0,f1,f2,f3,f4,f5⟩:=hf it (by simp)
  exact wpAny_pyNext_range_end (I.ok.hd hc) st (by have:n<=i:=hg;omega) λh' eb=>⟨rfl,I.turned (t':=s.toks) (λb o hb e=>eb b o hb e) f0 f1 f3 f4 f5⟩
 self:=λ_ _ _ _ _ st h=>wpAny_pyIter_rangeiter st h
theorem q3z {lo hi step:Int} (h1:-(2 ^ 40)<=lo) (h2:lo < 2 ^ 40) (h3:-(2 ^ 40)<=hi) (h4:hi < 2 ^ 40) (hs:step≠0):0<=Builtin.Range.rangeSize lo hi step/\Builtin.Range.rangeSize lo hi step < 2 ^ 42:=by
 have key:∀(u c:Int),0<=u->0 < c->0<=u / c/\u / c<=u:=λu c hu hc=>⟨Int.ediv_nonneg hu (by omega),Int.ediv_le_self _ hu⟩
 unfold Builtin.Range.rangeSize
 split
 ·split
  ·obtain ⟨k1,k2⟩:=key (hi-lo-1) step (by omega) (by omega)
   omega
  ·omega
 ·split
  ·obtain ⟨k1,k2⟩:=key (lo-hi-1) (-step) (by omega) (by omega)
   omega
  ·omega
theorem q9p {lo hi step:Int} (h1:-(2 ^ 40)<=lo) (h2:lo < 2 ^ 40) (h3:-(2 ^ 40)<=hi) (h4:hi < 2 ^ 40) (h5:-(2 ^ 40)<=step) (h6:step < 2 ^ 40) (hs:step≠0):Builtin.Range.small lo hi step=true:=by
 obtain ⟨k1,k2⟩:=q3z h1 h2 h3 h4 hs
 unfold Builtin.Range.small
 simp only [Builtin.Range.rangeFitsLong,Bool.and_eq_true,Bool.or_eq_true,decide_eq_true_eq,beq_iff_eq]
 refine ⟨⟨⟨⟨by omega,by omega⟩,by omega⟩,by omega⟩,.inr ?_⟩
 split<;>simp only [Builtin.Range.rangeFitsLong,Bool.and_eq_true,decide_eq_true_eq]<;>omega
theorem q87 {pins:List (Addr×Obj)} {σ:L2.St} {H:Hp} {s:Shared} {R:It->Hp->Prop} {E:Value->Shared->Prop} {lo hi step:Int} {t u v:Tok} {tk:Nat} (I:Inv X pins σ H s) (h1:-(2 ^ 40)<=lo) (h2:lo < 2 ^ 40) (h3:-(2 ^ 40)<=hi) (h4:hi < 2 ^ 40) (h5:-(2 ^ 40)<=step) (h6:step < 2 ^ 40) (hs:step≠0)
 (q:R (Its lo step (Builtin.Range.rangeSize lo hi step).toNat) H):wpAny (model X.prog X.w) X.A (pyIter (.ref s.heap.objs.size)) (PIE X pins σ tg R) E { s with heap:=s.heap.push { cls:=.type "range",data:=.fields #[.int lo t,.int hi u,.int step v] },toks:=tk }:=by
 refine wpAny_pyIter_range (IsRange.new ..) (q9p h1 h2 h3 h4 h5 h6 hs) ?_
 obtain ⟨k1,k2⟩:=q3z h1 h2 h3 h4 hs
 have I1:Inv X pins σ H { s with heap:=s.heap.push { cls:=.type "range",data:=.fields #[.int lo t,.int hi u,.int step v] },toks:=tk }:=I.kept λb o e=>Heap.get?_push_of_some _ e
 refine ⟨(s.heap.push { cls:=.type "range",data:=.fields #[.int lo t,.int hi u,.int step v] }).objs.size,[(s.heap.push { cls:=.type "range",data:=.fields #[.int lo t,.int hi u,.int step v] }).objs.size],_,_,H,rfl,
  I1.kept (t':=tk) λb o e=>Heap.get?_push_of_some _ e,q4P _ lo step (Builtin.Range.rangeSize lo hi step).toNat,?_,λb hb=>?_,q⟩
 ·have e1:lo+((0:Nat):Int)*step=lo:=by simp
  have e2:(((Builtin.Range.rangeSize lo hi step).toNat:Nat):Int)-((0:Nat):Int)=Builtin.Range.rangeSize lo hi step:=by omega
  show IsRangeIter _ _ (lo+((0:Nat):Int)*step) ((((Builtin.Range.rangeSize lo hi step).toNat:Nat):Int)-((0:Nat):Int)) step
  rw [e1,e2]
  exact Heap.get?_push_size _ rfl
 ·have e:b=(s.heap.push { cls:=.type "range",data:=.fields #[.int lo t,.int hi u,.int step v] }).objs.size:=by simpa using hb
  subst e
  exact I1.fpOk (Nat.le_refl _) (I1.hok.fresh (Nat.le_refl _))
theorem q6V {G H1:Hp} {lo step:Int} {n:Nat}:Walk T X.K G (Its lo step n) (rgS lo step n) H1:=λi H p sm=>by
 refine ⟨λd e=>?_,λh=>by show n<=i;simpa [rgS] using h⟩
 have hi:i < n:=by
  have:=(List.getElem?_eq_some_iff.mp e).1
  simpa [rgS] using this
 have ed:d=.int (lo+(i:Int)*step):=by
  rw [rgS,List.getElem?_map,List.getElem?_range hi] at e
  exact (Option.some.inj e).symm
 subst ed
 refine ⟨hi,λx H2 ⟨e2,y⟩=>?_⟩
 subst e2 y
 exact ⟨Same.refl _,rfl⟩
theorem q41 {G H1:Hp} {lo:Int} {n:Nat}:Walk T X.K G (Itr lo n) (rgD lo n) H1:=λi H p sm=>by
 refine ⟨λd e=>?_,λh=>by show n<=i;simpa [rgD] using h⟩
 have hi:i < n:=by
  have:=(List.getElem?_eq_some_iff.mp e).1
  simpa [rgD] using this
 have ed:d=.int (lo+(i:Int)):=by
  rw [rgD,List.getElem?_map,List.getElem?_range hi] at e
  exact (Option.some.inj e).symm
 subst ed
 refine ⟨hi,λx H2 ⟨e2,y⟩=>?_⟩
 subst e2 y
 exact ⟨Same.refl _,rfl⟩
@[simp] noncomputable def q5d (fn:Ro->Out (Int×Nat)) (ρ:Ro):Out (List D):=(fn ρ).bind λp=>.ok (rgD p.1 p.2)
theorem q2w {fn:Ro->Out (Int×Nat)} (hn:DN T X tg iter fn):DI T X tg iter (q5d fn):=.mk λG E hp=>
 PI.imp (hn.run G E hp) fun σ H R ⟨ρ,fr,h⟩=>⟨ρ,fr,Acc.mono (Acc.bind h) λp _ hd H1 s1=>hd _ H1 s1 q41⟩
noncomputable def q4h (i j k:Int):Bool:=decide (-(2 ^ 40)<=i) && decide (i < 2 ^ 40) && decide (-(2 ^ 40)<=j) && decide (j < 2 ^ 40) && decide (-(2 ^ 20)<=k) && decide (k < 2 ^ 20) && decide (k≠0)
@[simp] noncomputable def j0L (fa fb fc:Ev) (ρ:Ro):Out (List D):=(fa ρ).bind λd=>(fb ρ).bind λd'=>(fc ρ).bind λd''=>match d,d',d'' with
 | .int i,.int j,.int k=>if q4h i j k=true then .ok (rgS i k (Builtin.Range.rangeSize i j k).toNat) else .bad
 | _,_,_=>.bad
theorem j3u {c:Expr} (hg:Gl X "range") (hm:X.mg "range" = none) (ha:DE T X a fa) (hb:DE T X b fe) (hc:DE T X c fc) (hs:starEach [a,b,c] X.env=(false,eval a X.env)::starEach [b,c] X.env:=by exact q0B rfl) (hs2:starEach [b,c] X.env=(false,eval b X.env)::starEach [c] X.env:=by exact q0B rfl) (hs3:starEach [c] X.env=(false,eval c X.env)::starEach [] X.env:=by exact q0B rfl)
 (hpl:(backTo pos (starEach [b,c] X.env)).any (·.1)=false:=by exact q0F rfl):DI T X tg (.Call (.Name "range" p) [a,b,c] [] pos) (j0L fa fe fc):=.mk λG E hp=>by
 rintro pins s σ H R I ⟨ρ,fr,h⟩
 refine Call_ (q2A (X:=X.wish E) I hg hm boot_range (PyProof.Rows.callWith_type1 (thn ((q0S (X:=X.wish E) (ha.run G E hp) (q0S (X:=X.wish E) (hb.run G E hp) (q0S (X:=X.wish E) (hc.run G E hp) q1U hs3) hs2) hs) pos pins s σ H (λvs H1=>∃i j k,vs=[.int i,.int j,.int k]/\q4h i j k=true/\R (Its i k (Builtin.Range.rangeSize i j k).toNat) H1) I ⟨ρ,fr,?_⟩) λus s1 ⟨vs,H1,I1,r1,i,j,k,e,ok,q⟩=>?_) hs hpl))
 ·refine Acc.mono (Acc.bind h) λd _ hd v H1 s1 r=>⟨ρ,fr.mono s1,Acc.mono (Acc.bind (Acc.heap s1 hd)) λd' _ hd' v' H2 s2 r'=>⟨ρ,(fr.mono s1).mono s2,Acc.mono (Acc.bind (Acc.heap s2 hd')) λd'' _ hd'' v'' H3 s3 r''=>?_⟩⟩
  cases d with
  | int i=>
   cases d' with
   | int j=>
    cases d'' with
    | int k=>
     have hd2:Acc T X E σ H2 (if q4h i j k=true then Out.ok (rgS i k (Builtin.Range.rangeSize i j k).toNat) else .bad) (λds=>∀J H',Same H H'->Walk T X.K G J ds H'->R J H'):=hd''
     by_cases z:q4h i j k=true
     ·rw [if_pos z] at hd2
      exact ⟨i,j,k,by rw [show v=V.int i from r,show v'=V.int j from r',show v''=V.int k from r''],z,hd2 _ H3 ((s1.trans s2).trans s3) q6V⟩
     ·rw [if_neg z] at hd2;exact hd2.elim
    | _=>exact hd''.elim
   | _=>first | exact hd''.elim | (cases d''<;>exact hd''.elim)
  | _=>first | exact hd''.elim | (cases d'<;>first | exact hd''.elim | (cases d''<;>exact hd''.elim))
 ·subst e
  cases r1 with
  | cons r rr=>
   cases rr with
   | cons r' rr=>
    cases rr with
    | cons r'' rr=>
     cases rr
     obtain ⟨t,rfl⟩:=r
     obtain ⟨t',rfl⟩:=r'
     obtain ⟨t'',rfl⟩:=r''
     simp only [q4h,Bool.and_eq_true,decide_eq_true_eq] at ok
     obtain ⟨⟨⟨⟨⟨⟨o1,o2⟩,o3⟩,o4⟩,o5⟩,o6⟩,o7⟩:=ok
     exact call_range_3 o7 (q87 (X:=X.wish E) I1 o1 o2 o3 o4 (by omega) (by omega) o7 q) (.inl (PyProof.noPylong_small (by omega)))
end
section
variable {T:Tb} {K:PySem.W.Frag} {G H:Hp} {σ:L2.St} {ρ:Ro}
theorem q2I {b:Bool} {a:Addr} {vs ws:List V} (h:H a=some (.lst vs)):Pers T b H (upd H a (.lst ws)):=λc o e st=>by
 rw [q0i (λz=>by rw [z,h] at e;cases e;cases st)];exact e
theorem FR.own_upd {i:Nat} {ds es:List D} {a:Addr} {vs ws:List V} (fr:FR T K G H σ ρ) (e:ρ[i]?=some (.ow ds)) (e1:σ[i]?=some (some (.ref a))) (e2:H a=some (.lst vs)) (e3:G a=none) (r:RepL T K H es ws) :
 FR T K G (upd H a (.lst ws)) σ (ρ.set i (.ow es)):=by
 have p:Pers T false H (upd H a (.lst ws)):=q2I e2
 have hl:i < ρ.length:=(List.getElem?_eq_some_iff.mp e).1
 have lt:∀{m:Nat} {z:Sl},(ρ.set i (.ow es))[m]?=some z->(m=i/\z=.ow es)∨(m≠i/\ρ[m]?=some z):=λ{m z} q=>by
  by_cases hm:m=i
  ·subst hm
   rw [List.getElem?_set_self hl] at q
   exact .inl ⟨rfl,(Option.some.inj q).symm⟩
  ·rw [List.getElem?_set_ne (Ne.symm hm)] at q;exact .inr ⟨hm,q⟩
 refine ⟨λb u q=>?_,by simp [fr.len],λj s q=>?_,λj k s1 s2 b hjk q1 q2 o1 o2=>?_,fr.me,q3D (λ_ _ z=>by cases z) fr.me0⟩
 ·rw [q0i (λz=>by rw [z,e3] at q;cases q)];exact fr.same b u q
 ·rcases lt q with ⟨rfl,rfl⟩ | ⟨hj,q⟩
  ·exact ⟨a,ws,e1,q0p,e3,RepL.pers p _ _ r⟩
  ·have h:=fr.sl j s q
   exact SlOk.off e2 (λ_ _=>RepL.pers p _ _) (λo1=>fr.ne j i _ _ a hj q e o1 e1) h
 ·have bk:∀(c:Addr) (u:HO),H c=some u->(∀xs,u≠.lst xs)->(∀x dx fs,u≠.ins x dx fs)->upd H a (.lst ws) c=some u:=λc u w n _=>by
   rw [q0i (λy=>by subst y;rw [e2] at w;cases w;exact n _ rfl)];exact w
  have own:∀(m:Nat) (z:Sl),(ρ.set i (.ow es))[m]?=some z->q38 (upd H a (.lst ws)) σ[m]? b z->∃z',ρ[m]?=some z'/\q38 H σ[m]? b z':=λm z q o=>by
   rcases lt q with ⟨rfl,rfl⟩ | ⟨_,q⟩
   ·exact ⟨_,e,o⟩
   ·exact ⟨_,q,(fr.sl m z q).back bk o⟩
  obtain ⟨_,p1,w1⟩:=own j _ q1 o1
  obtain ⟨_,p2,w2⟩:=own k _ q2 o2
  exact fr.ne j k _ _ b hjk p1 p2 w1 w2
end
section
variable {T:Tb} {ib:Bool} {X:Cx} {e e' o a b:Expr} {pos p p2 p3:Pos} {fe fa fb:Ev} {fl fm:Ro->Out (List D)} {x:Str}
@[simp] noncomputable def j7f (i:Nat) (fe:Ev) (ρ:Ro):Fl:=match ρ[i]? with
 | some (.ow ds)=>(fe ρ).fl ρ λd=>if ds.length < 1000000 then .nx (ρ.set i (.ow (ds++[d]))) else .bad
 | _=>.bad
theorem j0Z (i:Nat) (he:DE T X e fe) (hN:X.N[i]?=some x:=by rfl) (hv:Vis X.env.scope x:=by walk_at "v0") (hd:(x==("__debug__" : Str))=false:=by decide)
 (hcd:(x==("__classdict__" : Str))=false:=by decide) (hs:starEach [e] X.env=(false,eval e X.env)::starEach [] X.env:=by exact q0B rfl) (hpl:(backTo p3 (starEach ([]:List Expr) X.env)).any (·.1)=false:=by exact q0F rfl) (hst:([e]:List Expr).all q2n=true:=by rfl)
 (hline:(p2.endLine==p3.line)=true:=by rfl) :
 DS T ib X (.Expr (.Call (.Attribute (.Name x p) "append" p2) [e] [] p3) pos) (j7f i fe):=.mk λG E hp=>
 PS.imp (q8Z (X:=X.wish E) (j6j (X:=X.wish E) PySem.F.plainAttrs_list PySem.F.slot_list_append PySem.F.type_list_append q4J (q1V (X:=X.wish E) hN hv hd hcd) (q0S (X:=X.wish E) (he.run G E hp) q1U hs) rfl (j1l hst rfl) hline hs hpl) (q1k rfl)) λD σ H ⟨ρ,fr,h⟩=>by
  unfold j7f at h
  split at h
  ·rename_i ds e0
   obtain ⟨l,vs,e1,e2,e3,r⟩:=fr.sl i _ e0
   refine ⟨_,e1,.inl ⟨rfl,vs,SqL.of e2⟩,ρ,fr,Acc.mono (AccS.fl fr h) λd _ hd v H1 s1 r1=>?_⟩
   by_cases z:ds.length < 1000000
   ·rw [if_pos z] at hd
    have r':=RepL.mono s1 _ _ r
    refine ⟨l,vs,v,rfl,rfl,s1 _ _ e2,?_,hd σ _ ((fr.mono s1).own_upd e0 e1 (s1 _ _ e2) e3 (RepL.append _ _ _ _ r' ⟨v,[],rfl,r1,rfl⟩)) ((Pers.of s1).trans (q2I (s1 _ _ e2)))⟩
    rw [RepL.length _ _ r]
    have:=line6 (n:=1000000) (by omega)
    omega
   ·rw [if_neg z] at hd;exact hd.elim
  ·exact h.elim
theorem j3U {t e:Expr} {n:Nat} {env:Env} (h:q7A e=true):swapsWithSole [t] e n env=pure false:=by
 rw [swapsWithSole];exact q1k h
@[simp] noncomputable def j5G (ds:List D) (k:Int) (d:D):Option (List D):=(ixN ds.length k).map λj=>ds.set j d
@[simp] noncomputable def j3B (i:Nat) (fb fe:Ev) (ρ:Ro):Fl:=(fe ρ).fl ρ λd=>match ρ[i]? with
 | some (.ow ds)=>(fb ρ).fl ρ λk=>(match k with
  | .int k=>(match j5G ds k d with | some ds'=>.nx (ρ.set i (.ow ds')) | none=>.bad)
  | _=>.bad)
 | _=>.bad
theorem q8D (i:Nat) (he:DE T X e fe) (hb:DE T X b fb) (hN:X.N[i]?=some x:=by rfl) (hv:Vis X.env.scope x:=by walk_at "v0") (hd:(x==("__debug__" : Str))=false:=by decide)
 (hcd:(x==("__classdict__" : Str))=false:=by decide) (hs:swapsWithSole [.Subscript (.Name x p) b p2] e pos.line X.env=pure false:=by first | exact j3U rfl | rfl) (hw:swappedStores [.Subscript (.Name x p) b p2] e X.env=pure none:=by rfl)
 (ha:∀v,assign (.Subscript (.Name x p) b p2) X.env v=(do
  let ov <-holding [v] (eval (.Name x p) X.env)
  let iv <-holding [v,ov] (eval b X.env)
  standAt p2
  holding [v,ov,iv] (setItem ov iv v)
  release [v,ov,iv] []):=by intro _;rfl) :
 DS T ib X (.Assign [.Subscript (.Name x p) b p2] e pos) (j3B i fb fe):=.mk λG E hp=>
 PS.imp (j66 (X:=X.wish E) (he.run G E hp) (j6n (X:=X.wish E) (q1V (X:=X.wish E) hN hv hd hcd) (hb.run G E hp) q9Y ha) hs hw rfl) λD σ H ⟨ρ,fr,h⟩=>by
  refine ⟨ρ,fr,Acc.mono (AccS.fl fr h) λd _ hd v H1 s1 r1=>?_⟩
  have fr1:=fr.mono s1
  split at hd
  ·rename_i ds e0
   obtain ⟨l,vs,e1,e2,e3,r⟩:=fr1.sl i _ e0
   refine ⟨_,e1,ρ,fr1,Acc.mono (AccS.fl fr1 (AccS.heap (Pers.of s1) hd)) λk _ hk u H2 s2 r2=>?_⟩
   cases k with
   | int k=>
    have hk':AccS T ib X G E H1 (match j5G ds k d with | some ds'=>.nx (ρ.set i (.ow ds')) | none=>.bad) D:=hk
    unfold j5G at hk'
    have hl:=RepL.length _ _ r
    cases ej:ixN ds.length k with
    | none=>rw [ej] at hk';exact hk'.elim
    | some j=>
     rw [ej] at hk'
     have r3:=RepL.set _ _ j _ _ (RepL.mono s2 _ _ r) (Rep.mono s2 _ _ r1)
     exact ⟨l,vs,k,j,rfl,r2,s2 _ _ e2,by rw [hl];exact ej,hk' σ _ ((fr1.mono s2).own_upd e0 e1 (s2 _ _ e2) e3 r3) ((Pers.of s2).trans (q2I (s2 _ _ e2)))⟩
   | _=>exact hk.elim
  ·exact hd.elim
noncomputable def tOI (T:Tb) (X:Cx) (G:Hp) (E:Value->Shared->Prop) (f:Ro->Out (Option Int)):TO:=fun σ H Q=>∃ρ,FR T X.K G H σ ρ/\Acc T X E σ H (f ρ) (λo=>∀H',Same H H'->Q o H')
structure DO (T:Tb) (X:Cx) (e:Option Expr) (f:Ro->Out (Option Int)):Prop where
 mk ::
 run:∀(G:Hp) (E:Value->Shared->Prop),PassesOwn (model X.prog X.w) X.A X.env E->PO (X.wish E) e (tOI T X G E f)
theorem PO.imp {X:Cx} {e:Option Expr} {t t':TO} (h:PO X e t) (k:∀σ H Q,t' σ H Q->t σ H Q):PO X e t':=λpins s σ H Q I q=>h pins s σ H Q I (k σ H Q q)
@[simp] noncomputable def oNo (ρ:Ro):Out (Option Int):=.ok none
@[simp] noncomputable def oSo (fe:Ev) (ρ:Ro):Out (Option Int):=(fe ρ).bind λd=>match d with
 | .int i=>.ok (some i)
 | _=>.bad
theorem q62:DO T X none oNo:=.mk λG E hp=>PO.imp j3o fun σ H Q ⟨ρ,fr,h⟩=>h H (Same.refl H)
theorem q6S (he:DE T X e fe):DO T X (some e) (oSo fe):=.mk λG E hp=>PO.imp (j4d (he.run G E hp)) fun σ H Q ⟨ρ,fr,h⟩=>⟨ρ,fr,Acc.mono (Acc.bind h) λd _ hd v H1 s1 r=>by
 cases d with
 | int i=>exact ⟨i,r,hd H1 s1⟩
 | _=>exact hd.elim⟩
noncomputable def j4B {α:Type} (ds:List α) (lo hi:Option Int):List α:=(ds.drop (HT.sIx ds.length 0 lo)).take (HT.sIx ds.length ds.length hi-HT.sIx ds.length 0 lo)
@[simp] noncomputable def w0F (fl:Ro->Out (List D)) (fo fu:Ro->Out (Option Int)) (ρ:Ro):Out (List D):=(fl ρ).bind λds=>(fo ρ).bind λlo=>(fu ρ).bind λhi=>.ok (j4B ds lo hi)
theorem RepL.cut {K:PySem.W.Frag} {H:Hp} {ds:List D} {vs:List V} (r:RepL T K H ds vs) (lo hi:Option Int):RepL T K H (j4B ds lo hi) (j4z vs lo hi):=by
 unfold j4B j4z
 rw [RepL.length _ _ r]
 exact RepL.take _ _ _ (RepL.drop _ _ _ r)
theorem j5C {lo hi:Option Expr} {fo fu:Ro->Out (Option Int)} (hl:DL T X e fl) (ho:DO T X lo fo) (hu:DO T X hi fu):DF T X (.Subscript e (.Slice lo hi none p2) pos) (w0F fl fo fu):=.mk λG E hp=>
 PE.imp (q6f (X:=X.wish E) j37 (hl.run G E hp) (ho.run G E hp) (hu.run G E hp)) fun σ H Q ⟨ρ,fr,h⟩=>⟨ρ,fr,Acc.mono (Acc.bind h) λds _ hd l vs H1 s1 sq r=>⟨ρ,fr.mono s1,Acc.mono (Acc.bind (Acc.heap s1 hd)) λlo _ hlo H2 s2=>⟨ρ,(fr.mono s1).mono s2,Acc.mono (Acc.bind (Acc.heap s2 hlo)) λhi _ hhi H3 s3=>
  ⟨l,vs,rfl,s3.seq (s2.seq sq),λq hq=>hhi q _ _ (((s1.trans s2).trans s3).trans (q0E hq)) (((s1.trans s2).trans s3).free hq) q0p (RepL.mono (q0E hq) _ _ (RepL.cut (RepL.mono (s2.trans s3) _ _ r) lo hi))⟩⟩⟩⟩
theorem j3H:OpR X (binaryOp .Add) (λx y H Q=>∃l m xs zs,x=.ref l/\y=.ref m/\SqL X.K H l xs/\SqL X.K H m zs/\xs.length+zs.length<=sizeLine/\∀p,H p=none->Q (.ref p) (upd H p (.lst (xs++zs)))):=by
 intro pins s σ H x y v u Q I rx ry h
 obtain ⟨l,m,xs,zs,rfl,rfl,hH,hB,hz,q⟩:=h
 cases rx
 cases ry
 obtain ⟨its,r,pl,z1⟩:=I.list hH
 obtain ⟨its2,r2,pl2,z2⟩:=I.list hB
 have l1:=r.length
 have l2:=r2.length
 obtain ⟨⟨cls,dd,data,sl⟩,ho,hc,n,hd⟩:=pl.isList
 obtain ⟨⟨cls2,dd2,data2,sl2⟩,ho2,hc2,n2,hd2⟩:=pl2.isList
 simp only at hc hd hc2 hd2
 subst hc hd hc2 hd2
 have ea:its.toArray++its2.toArray=(its++its2).toArray:=by simp
 refine concat_meets ⟨_,ho,rfl⟩ ⟨_,ho2,rfl⟩ noFill_list_add seq_list_add PySem.F.slot_list_add PySem.F.entry_list_add (PySem.F.args_list_add_2 _ _) (list_addW l m its.toArray its2.toArray n n2 dd dd2 sl sl2 (by rw [List.size_toArray,List.size_toArray];omega)) ⟨ho,ho2,?_⟩
 rw [ea]
 exact ⟨.ref _,_,I.lnew (t':=s.toks) (r.append r2) (by rw [List.length_append];omega),rfl,q _ I.fresh⟩
@[simp] noncomputable def j9g (fl fm:Ro->Out (List D)) (ρ:Ro):Out (List D):=(fl ρ).bind λds=>(fm ρ).bind λes=>if ds.length+es.length<=1000000 then .ok (ds++es) else .bad
theorem j2H (ha:DL T X a fl) (hb:DL T X b fm):DF T X (.BinOp a .Add b pos) (j9g fl fm):=.mk λG E hp=>
 PE.imp (j24 (X:=X.wish E) j3H (ha.run G E hp) (hb.run G E hp)) fun σ H Q ⟨ρ,fr,h⟩=>⟨ρ,fr,Acc.mono (Acc.bind h) λds _ hd l vs H1 s1 sq r=>⟨ρ,fr.mono s1,Acc.mono (Acc.bind (Acc.heap s1 hd)) λes _ hes m ws H2 s2 sq2 r2=>by
  by_cases z:ds.length+es.length<=1000000
  ·rw [if_pos z] at hes
   refine ⟨l,m,vs,ws,rfl,rfl,s2.seq sq,sq2,?_,λq hq=>hes q _ _ ((s1.trans s2).trans (q0E hq)) ((s1.trans s2).free hq) q0p (RepL.mono (q0E hq) _ _ (RepL.append _ _ _ _ (RepL.mono s2 _ _ r) r2))⟩
   rw [RepL.length _ _ r,RepL.length _ _ r2];exact line6 z
  ·rw [if_neg z] at hes;exact hes.elim⟩⟩
theorem RepL.rep {K:PySem.W.Frag} {H:Hp} {ds:List D} {vs:List V} (r:RepL T K H ds vs):∀k:Nat,RepL T K H (List.replicate k ds).flatten (List.replicate k vs).flatten
 | 0=>rfl
 | k+1=>by
  rw [List.replicate_succ,List.replicate_succ,List.flatten_cons,List.flatten_cons]
  exact RepL.append _ _ _ _ r (RepL.rep r k)
@[simp] noncomputable def j9s (fl:Ro->Out (List D)) (fb:Ev) (ρ:Ro):Out (List D):=(fl ρ).bind λds=>(fb ρ).bind λd=>match d with
 | .int k=>if -(2 ^ 40)<=k/\k<=1000000/\ds.length*k.toNat<=1000000 then .ok (List.replicate k.toNat ds).flatten else .bad
 | _=>.bad
theorem j0U (ha:DF T X a fl) (hb:DE T X b fb):DF T X (.BinOp a .Mult b pos) (j9s fl fb):=.mk λG E hp=>
 PE.imp (j24 (X:=X.wish E) j6E (ha.run G E hp) (hb.run G E hp)) fun σ H Q ⟨ρ,fr,h⟩=>⟨ρ,fr,Acc.mono (Acc.bind h) λds _ hd l vs H1 s1 hl hl' r=>⟨ρ,fr.mono s1,Acc.mono (Acc.bind (Acc.heap s1 hd)) λd _ hes v H2 s2 r2=>by
  cases d with
  | int k=>
   have hes':Acc T X E σ H1 (if -(2 ^ 40)<=k/\k<=1000000/\ds.length*k.toNat<=1000000 then .ok (List.replicate k.toNat ds).flatten else .bad) _:=hes
   by_cases z:-(2 ^ 40)<=k/\k<=1000000/\ds.length*k.toNat<=1000000
   ·rw [if_pos z] at hes'
    refine ⟨l,k,vs,rfl,r2,s2 _ _ hl',by omega,by omega,?_,λq hq=>hes' q _ _ ((s1.trans s2).trans (q0E hq)) ((s1.trans s2).free hq) q0p (RepL.mono (q0E hq) _ _ (RepL.rep (RepL.mono s2 _ _ r) _))⟩
    rw [RepL.length _ _ r];exact line6 z.2.2
   ·rw [if_neg z] at hes';exact hes'.elim
  | _=>exact hes.elim⟩⟩
@[simp] noncomputable def q54 (fl:Ro->Out (List D)) (ρ:Ro):Out D:=(fl ρ).bind λds=>.ok (.tup ds)
theorem q5q (hg:Gl X "tuple") (hm:X.mg "tuple" = none) (hl:DL T X e fl) (hs:starEach [e] X.env=(false,eval e X.env)::starEach [] X.env:=by exact q0B rfl) (hpl:(backTo pos (starEach ([]:List Expr) X.env)).any (·.1)=false:=by exact q0F rfl):DE T X (.Call (.Name "tuple" p) [e] [] pos) (q54 fl):=.mk λG E hp=>
 PE.imp (q3h (X:=X.wish E) q35 hg hm rfl (q0S (X:=X.wish E) (hl.run G E hp) q1U hs) (by decide) (by decide) hs hpl) fun σ H Q ⟨ρ,fr,h⟩=>⟨ρ,fr,Acc.mono (Acc.bind h) λds _ hd l vs H1 s1 sq r=>
  ⟨l,vs,rfl,.inl ⟨sq,λq hq=>hd _ _ (s1.trans (q0E hq)) ⟨q,vs,rfl,SqT.of q0p,RepL.mono (q0E hq) _ _ r⟩⟩⟩⟩
end
section
variable {T:Tb} {X:Cx} {tg e a b:Expr} {pos p:Pos} {fl fm:Ro->Out (List D)}
end
noncomputable def Itz (K:PySem.W.Frag) (a b:Addr):It:=⟨λi H=>∃xs ys x y,SqL K H a xs/\SqL K H b ys/\xs[i]?=some x/\ys[i]?=some y,
 λi H v H'=>∃x y p,(∀xs,SqL K H a xs->xs[i]?=some x)/\(∀ys,SqL K H b ys->ys[i]?=some y)/\v=.ref p/\H p=none/\H'=upd H p (.tup [x,y]),
 λi H=>∃xs ys,SqL K H a xs/\SqL K H b ys/\(xs[i]?=none∨ys[i]?=none)⟩
theorem q9y {P:Program} {w:World} {K:PySem.W.Frag} {elts:List Expr} {x1:Nat} {tp:Pos} (a b z TI TO i1 i2:Addr) (D:ZipApart z TI TO i1 i2 a b) :
 Turn P w K (.Tuple elts x1 tp) (Itz K a b) [z,TI,TO,i1,i2] z (λi h=>IsZip h z TI TO .none/\IsPair h TI (.ref i1) (.ref i2)/\(∃u v,IsPair h TO u v)/\h.IsListIter i1 a i/\h.IsListIter i2 b i) where
 mem:=by simp
 obj:=λi h st c hc=>by
  obtain ⟨s1,s2,⟨u,v,s3⟩,s4,s5⟩:=st
  simp only [List.mem_cons,List.not_mem_nil,or_false] at hc
  rcases hc with rfl | rfl | rfl | rfl | rfl
  ·exact ⟨_,s1,λv z=>by have z':Data.fields _=Data.cell v:=z;cases z'⟩
  ·exact ⟨_,s2,λv z=>by have z':Data.seq _ _=Data.cell v:=z;cases z'⟩
  ·exact ⟨_,s3,λv z=>by have z':Data.seq _ _=Data.cell v:=z;cases z'⟩
  ·obtain ⟨o,e,c,d⟩:=s4
   exact ⟨o,e,λv z=>by rw [d] at z;cases z⟩
  ·obtain ⟨o,e,c,d⟩:=s5
   exact ⟨o,e,λv z=>by rw [d] at z;cases z⟩
 keep:=λi h h' st k=>by
  obtain ⟨s1,s2,⟨u,v,s3⟩,s4,s5⟩:=st
  exact ⟨k z (by simp) _ s1,k TI (by simp) _ s2,⟨u,v,k TO (by simp) _ s3⟩,s4.at λo e=>k i1 (by simp) o e,s5.at λo e=>k i2 (by simp) o e⟩
 item:=by
  intro X hP hw hK hc i pins s σ H E I hf st hg
  subst hP hw hK
  obtain ⟨xs,ys,x,y,hqa,hqb,hx,hy⟩:=hg
  obtain ⟨t1,t2,⟨u0,v0,t3⟩,t4,t5⟩:=st
  obtain ⟨its,rv,pa,hza⟩:=I.list hqa
  obtain ⟨its2,rv2,pb,hzb⟩:=I.list hqb
  obtain ⟨u,hu,ru⟩:=rv.get hx
  obtain ⟨v,hv,rv'⟩:=rv2.get hy
  refine wpAny_pyNext_zip_item D t1 t2 t3 t4 t5 pa.isList pb.isList (x:=u) (y:=v) (by simpa using hu) (by simpa using hv) λh' a1 a2 a3 a4 a5 a6 a7=>⟨_,rfl,?_⟩
  refine wpAny_letOwnedTupleGo_zip (s:={ s with heap:=h' }) a1 λh'' b1 sb=>?_
  have inz:=hf z (by simp)
  have szz:s.heap.objs.size≠z:=λe=>absurd (Heap.lt_size t1) (by rw [<-e];exact Nat.lt_irrefl _)
  have kk:∀c o,c∉[z,TI,TO,i1,i2]->s.heap.get? c=some o->h''.get? c=some o:=λc o hcm e=>by
   simp only [List.mem_cons,List.not_mem_nil,or_false,not_or] at hcm
   exact (sb.2 c hcm.1).trans (a7 c o hcm.1 hcm.2.2.1 hcm.2.2.2.1 hcm.2.2.2.2 e)
  have hfresh:H s.heap.objs.size=none:=I.hok.fresh (Nat.le_refl _)
  have nfp:∀c u,H c=some u->c∉[z,TI,TO,i1,i2]:=λc u e hm=>by rw [(hf c hm).1] at e;cases e
  have nsz:∀c u,H c=some u->c≠s.heap.objs.size:=λc u e z=>by rw [z,hfresh] at e;cases e
  have tk:TI∈[z,TI,TO,i1,i2]:=by simp
  have p5:IsPair h'' s.heap.objs.size u v:=(sb.2 _ szz).trans a5
  have I1:Inv X pins σ (upd H s.heap.objs.size (.tup [x,y])) { s with heap:=h'' }:=by
   refine I.step (g':=s.gens) (d':=s.drawn) (t':=s.toks) (ch:=[z,TI,TO,i1,i2]) (λc hcm=>?_) (λc o _ _ hcm e _=>kk c o hcm e) (λc o _ _ hcm e _=>⟨o.slots,kk c o hcm e⟩) (λc o _ e n=>?_)
    (λc o hcm e=>⟨o,kk c o hcm e⟩) (λc xs e=>?_) (λc o w e=>?_) (λc ps e=>⟨#[],?_⟩) (λm hm=>?_) (λc w e=>?_) I.bare
   ·obtain ⟨f0,f1,f2,f3,f4,f5⟩:=hf c hcm
    exact ⟨f3,f1,f4,f5⟩
   ·rw [q0i (Nat.ne_of_lt (Heap.lt_size e))];exact n
   ·rw [q0i (nsz c _ e)];exact e
   ·rw [q0i (nsz c _ e)];exact e
   ·rw [q0i (nsz c _ e),e];simp
   ·obtain ⟨o,es,ep,ho,r⟩:=hm
    refine ⟨o,es,ep,kk _ o (λhm=>?_) ho,r⟩
    exact (hf _ hm).2.1 rfl
   ·by_cases hcz:c=s.heap.objs.size
    ·subst hcz
     rw [q0p] at e;cases e
     exact ⟨by show 2<=sizeLine;decide,[u,v],.cons ru (.cons rv' .nil),⟨_,p5,rfl,_,rfl⟩⟩
    ·rw [q0i hcz] at e
     refine (I.hok c w e).stay (λc' w' hc' q=>kk c' w' ?_ q) (λc' q=>?_) λc' xs q=>?_
     ·rcases hc' with hc' | hc'
      ·rw [hc'];exact nfp _ _ e
      ·exact nfp _ _ hc'
     ·rw [q0i (nsz c' _ q)];exact q
     ·rw [q0i (nsz c' _ q)];exact q
  refine ⟨.ref s.heap.objs.size,_,I1,rfl,⟨x,y,_,λws hw=>by rw [I.list_inj hw hqa];exact hx,λws hw=>by rw [I.list_inj hw hqb];exact hy,rfl,hfresh,rfl⟩,⟨b1,?_,⟨u,v,(sb.2 _ D.TOz).trans a2⟩,a3.at λo e=>(sb.2 _ D.i1z).trans e,a4.at λo e=>(sb.2 _ D.i2z).trans e⟩,λc hcm=>?_⟩
  ·exact (sb.2 _ D.TIz).trans (a7 TI _ D.TIz D.TITO D.TIi1 D.TIi2 t2)
  ·rw [q0i]
   ·exact (hf c hcm).1
   ·rintro rfl
    simp only [List.mem_cons,List.not_mem_nil,or_false] at hcm
    rcases hcm with e | e | e | e | e
    ·exact szz e
    ·exact absurd (Heap.lt_size t2) (by rw [<-e];exact Nat.lt_irrefl _)
    ·exact absurd (Heap.lt_size t3) (by rw [<-e];exact Nat.lt_irrefl _)
    ·obtain ⟨o,eo,_⟩:=t4
     exact absurd (Heap.lt_size eo) (by rw [<-e];exact Nat.lt_irrefl _)
    ·obtain ⟨o,eo,_⟩:=t5
     exact absurd (Heap.lt_size eo) (by rw [<-e];exact Nat.lt_irrefl _)
 done:=by
  intro X hP hw hK hc i pins s σ H E I hf st hg
  subst hP hw hK
  obtain ⟨xs,ys,hqa,hqb,hend⟩:=hg
  obtain ⟨t1,t2,⟨u0,v0,t3⟩,t4,t5⟩:=st
  obtain ⟨its,rv,pa,hza⟩:=I.list hqa
  obtain ⟨its2,rv2,pb,hzb⟩:=I.list hqb
  have l1:=rv.length
  have l2:=rv2.length
  refine wpAny_pyNext_zip_end (I.ok.hd hc) D t1 t2 t3 t4 t5 pa.isList pb.isList ?_ λh' a7=>⟨rfl,?_⟩
  ·rcases hend with hend | hend
   ·left
    rw [List.getElem?_eq_none_iff] at hend
    simp;omega
   ·right
    rw [List.getElem?_eq_none_iff] at hend
    simp;omega
  ·have kk:∀c o,c∉[z,TI,TO,i1,i2]->s.heap.get? c=some o->h'.get? c=some o:=λc o hcm e=>by
    simp only [List.mem_cons,List.not_mem_nil,or_false,not_or] at hcm
    exact a7 c o hcm.1 hcm.2.2.1 hcm.2.2.2.1 hcm.2.2.2.2 e
   have nfp:∀c u,H c=some u->c∉[z,TI,TO,i1,i2]:=λc u e hm=>by rw [(hf c hm).1] at e;cases e
   refine I.step (g':=s.gens) (d':=s.drawn) (t':=s.toks) (ch:=[z,TI,TO,i1,i2]) (λc hcm=>?_) (λc o _ _ hcm e _=>kk c o hcm e) (λc o _ _ hcm e _=>⟨o.slots,kk c o hcm e⟩) (λc o _ e n=>n)
    (λc o hcm e=>⟨o,kk c o hcm e⟩) (λc xs e=>e) (λc o w e=>e) (λc ps e=>⟨#[],by rw [e];simp⟩) (λm hm=>?_) (λc w e=>?_) I.bare
   ·obtain ⟨f0,f1,f2,f3,f4,f5⟩:=hf c hcm
    exact ⟨f3,f1,f4,f5⟩
   ·obtain ⟨o,es,ep,ho,r⟩:=hm
    exact ⟨o,es,ep,kk _ o (λhm=>(hf _ hm).2.1 rfl) ho,r⟩
   ·refine (I.hok c w e).stay (λc' w' hc' q=>kk c' w' ?_ q) (λc' q=>q) λc' xs q=>q
    rcases hc' with hc' | hc'
    ·rw [hc'];exact nfp _ _ e
    ·exact nfp _ _ hc'
 self:=λ_ _ _ _ _ st h=>wpAny_pyIter_zip st.1 h
section
variable {T:Tb} {X:Cx} {a b:Expr} {pos p tp:Pos} {fl fm:Ro->Out (List D)} {elts:List Expr} {x1:Nat}
@[simp] noncomputable def w0u (fl fm:Ro->Out (List D)) (ρ:Ro):Out (List D):=(fl ρ).bind λds=>(fm ρ).bind λes=>.ok (List.zipWith (λx y=>D.tup [x,y]) ds es)
theorem j0C {G H1:Hp} {l m:Addr} {vs ws:List V} {ds es:List D} (st:Stb X.K G H1 l vs) (r:RepL T X.K H1 ds vs) (st2:Stb X.K G H1 m ws) (r2:RepL T X.K H1 es ws):Walk T X.K G (Itz X.K l m) (List.zipWith (λx y=>D.tup [x,y]) ds es) H1:=λi H p sm=>by
 have sq:=(st.pers p).sq sm
 have sq2:=(st2.pers p).sq sm
 have r':=RepL.pers p _ _ r
 have r2':=RepL.pers p _ _ r2
 have hl:=RepL.length _ _ r'
 have hl2:=RepL.length _ _ r2'
 refine ⟨λd e=>?_,λh=>⟨vs,ws,sq,sq2,?_⟩⟩
 ·rw [List.getElem?_zipWith] at e
  cases ed:ds[i]? with
  | none=>rw [ed] at e;simp at e
  | some d1=>
   cases ee:es[i]? with
   | none=>rw [ed,ee] at e;simp at e
   | some d2=>
    rw [ed,ee] at e
    have e':D.tup [d1,d2]=d:=by simpa using e
    subst e'
    obtain ⟨v,e1,rd⟩:=RepL.get _ _ _ _ r' ed
    obtain ⟨w,e2,rd2⟩:=RepL.get _ _ _ _ r2' ee
    refine ⟨⟨vs,ws,v,w,sq,sq2,e1,e2⟩,λx H2 ⟨x',y',q,h1,h2,hx,hq,hH⟩=>?_⟩
    have z1:=h1 vs sq
    have z2:=h2 ws sq2
    rw [e1] at z1;cases z1
    rw [e2] at z2;cases z2
    subst hx hH
    exact ⟨q0E hq,q,[v,w],rfl,SqT.of q0p,v,[w],rfl,Rep.mono (q0E hq) _ _ rd,w,[],rfl,Rep.mono (q0E hq) _ _ rd2,rfl⟩
 ·rw [List.length_zipWith] at h
  rw [List.getElem?_eq_none_iff,List.getElem?_eq_none_iff]
  omega
theorem j6y (hg:Gl X "zip") (hm:X.mg "zip" = none) (ha:DP T X a fl) (hb:DP T X b fm) (hs:starEach [a,b] X.env=(false,eval a X.env)::starEach [b] X.env:=by exact q0B rfl) (hs2:starEach [b] X.env=(false,eval b X.env)::starEach [] X.env:=by exact q0B rfl) (hpl:(backTo pos (starEach [b] X.env)).any (·.1)=false:=by exact q0F rfl) :
 DI T X (.Tuple elts x1 tp) (.Call (.Name "zip" p) [a,b] [] pos) (w0u fl fm):=.mk λG E hp=>by
 rintro pins s σ H R I ⟨ρ,fr,h⟩
 refine Call_ (q2A (X:=X.wish E) I hg hm boot_zip (PyProof.Rows.callWith_type1 (thn ((q0S (X:=X.wish E) (ha.run G E hp) (q0S (X:=X.wish E) (hb.run G E hp) q1U hs2) hs) pos pins s σ H (λus H1=>∃l m vs ws,us=[.ref l,.ref m]/\SqL X.K H1 l vs/\SqL X.K H1 m ws/\R (Itz X.K l m) H1) I ⟨ρ,fr,Acc.mono (Acc.bind h) λds _ hd l vs H1 s1 st r=>⟨ρ,fr.mono s1,Acc.mono (Acc.bind (Acc.heap s1 hd)) λes _ hes m ws H2 s2 st2 r2=>?_⟩⟩) λus s1 ⟨xs,H1,I1,r1,l,m,vs,ws,e1,sq,sq2,q⟩=>?_) hs hpl))
 ·have st':Stb X.K G H2 l vs:=st.pers (ib:=false) (Pers.of (T:=T) s2)
  exact ⟨l,m,vs,ws,rfl,st'.sq ((fr.same.trans s1).trans s2),st2.sq ((fr.same.trans s1).trans s2),hes _ H2 (s1.trans s2) (j0C st' (RepL.mono s2 _ _ r) st2 r2)⟩
 ·subst e1
  obtain ⟨u,v,rfl,ru,rv0⟩:=Vals.two r1
  cases ru
  cases rv0
  obtain ⟨its,rv,pl,hz⟩:=I1.list sq
  obtain ⟨its2,rv2,pl2,hz2⟩:=I1.list sq2
  have a1:l < s1.heap.objs.size:=by obtain ⟨_,e,_⟩:=pl.isList;exact Heap.lt_size e
  have a2:m < s1.heap.objs.size:=by obtain ⟨_,e,_⟩:=pl2.isList;exact Heap.lt_size e
  refine call_zip_2 pl.isList pl2.isList λh' z1 z2 z3 z4 z5 z6 kp=>?_
  have I2:Inv (X.wish E) pins σ H1 { s1 with heap:=h' }:=I1.kept (t':=s1.toks) kp
  refine wpAny_pyIter_zip z1 ⟨_,_,_,_,H1,rfl,I2,q9y l m _ _ _ _ _ (zipApart_new a1 a2),⟨z1,z2,⟨_,_,z3⟩,z4,z5⟩,λc hcm=>?_,q⟩
  have ge:s1.heap.objs.size<=c:=by
   simp only [List.mem_cons,List.not_mem_nil,or_false] at hcm
   rcases hcm with rfl | rfl | rfl | rfl | rfl<;>omega
  exact I1.fpOk ge (I1.hok.fresh ge)
end
section
variable {prog:Program} {w:World} {A:Around} {E:Value->Shared->Prop} {s:Shared}
end
section
variable {T:Tb} {X:Cx} {e:Expr} {pos p p2 pos2:Pos} {fl:Ro->Out (List D)}
end
section
variable {T:Tb} {X:Cx} {pos p p2 p3:Pos} {x:Str}
end
end L3
namespace L3
open PySem L2
theorem j3k {a b:Str} (h:a.cps.toList=b.cps.toList):a=b:=by
 cases a;cases b;simp at h;simp [h]
theorem j3a (a b:Str):(a++b).cps.toList=a.cps.toList++b.cps.toList:=by
 show (a.cps++b.cps).toList=_;simp
theorem q4Z (a:Str):a.cps.toList.length=a.length:=by simp [Str.length]
theorem log2_lt {n k:Nat} (h:n < 2 ^ k) (hk:0 < k):n.log2 < k:=by
 by_cases h0:n=0
 ·subst h0;simpa [Nat.log2_zero] using hk
 ·exact (Nat.log2_lt h0).mpr h
section
variable {b:Ro->D->Fl} {d:D} {ds:List D} {ρ ρ':Ro}
theorem q13:q18 b [] ρ=.nx ρ:=by rw [q18]
theorem q2t (h:b ρ d=.nx ρ'):q18 b (d::ds) ρ=q18 b ds ρ':=by rw [q18,h]
theorem q7t {r:Rv} (h:b ρ d=.rt r):q18 b (d::ds) ρ=.rt r:=by rw [q18,h]
theorem q33 {c:Nat} (h:b ρ d=.exc c ρ'):q18 b (d::ds) ρ=.exc c ρ':=by rw [q18,h]
end
theorem q1w {fl:Ro->Out (List D)} {g:Ro->D->Out Ro} {fb:Ro->Fl} {ρ:Ro} {ds:List D} (h:fl ρ=.ok ds):q3P fl g fb ρ=q18 (q0G g fb) ds ρ:=by rw [q3P,h,Out.ok_fl]
theorem q2S {fe:Ev} {ρ:Ro} {n:Nat} (h:fe ρ=.ok (.int n)) (hn:n < 1000000):q5d (n1 fe) ρ=.ok (rgD 0 n):=by
 have e:n1 fe ρ=.ok (0,n):=by
  rw [n1,h,Out.ok_bind]
  show (if _ then _ else _)=_
  rw [if_pos ⟨by omega,by omega⟩,Int.toNat_natCast]
 rw [q5d,e,Out.ok_bind]
theorem j0B (lo:Int) (n:Nat):rgD lo (n+1)=.int lo::rgD (lo+1) n:=by
 rw [rgD,List.range_succ_eq_map,List.map_cons,List.map_map,rgD]
 congr 1
 ·simp
 ·apply List.map_congr_left
  intro k _
  simp only [Function.comp_apply]
  congr 1
  omega
theorem j0g (lo:Int):rgD lo 0=[]:=by simp [rgD]
end L3
namespace L3
open PySem PySem.Spec PyProof.Rows L2
noncomputable def q6b (f:D->Out D):List D->Option (List D)
 | []=>some []
 | d::ds=>match f d with
  | .ok e=>(match q6b f ds with | some es=>some (e::es) | none=>none)
  | _=>none
theorem q68 (env:Env):∀(names:List (Str×NameKind)) (cs:List (Str×Addr)),(∀y∈names,y.2=.free->∃c,env.cells.lookup y.1=some c)->(∀y c,cs.lookup y=some c->env.cells.lookup y=some c) ->
 ∃cl:List (Str×Addr),(forIn names cs λ(x:Str×NameKind) (r:List (Str×Addr))=>(do if x.2==NameKind.free then do let c <-cellOf env x.1;pure (ForInStep.yield ((x.1,c)::r)) else pure (ForInStep.yield r):Sem (ForInStep (List (Str×Addr)))))=pure cl /\
  (∀y c,cl.lookup y=some c->env.cells.lookup y=some c)/\(∀y∈names,y.2=.free->∃c,cl.lookup y.1=some c)/\∀y c,cs.lookup y=some c->cl.lookup y=some c:=by
 intro names
 induction names with
 | nil=>intro cs _ h;exact ⟨cs,rfl,h,λy hy=>by simp at hy,λ_ _ e=>e⟩
 | cons z names ih=>
  obtain ⟨n,k⟩:=z
  intro cs hf h
  by_cases hk:k=.free
  ·subst hk
   obtain ⟨c,hc⟩:=hf (n,.free) (by simp) rfl
   have hc:env.cells.lookup n=some c:=hc
   have h':∀y c',((n,c)::cs).lookup y=some c'->env.cells.lookup y=some c':=λy c' e=>by
    rw [List.lookup_cons] at e
    cases ey:y==n with
    | true=>rw [ey] at e;cases e;rw [eq_of_beq ey];exact hc
    | false=>rw [ey] at e;exact h y c' e
   obtain ⟨cl,e1,e2,e3,e4⟩:=ih ((n,c)::cs) (λy hy=>hf y (by simp [hy])) h'
   have nn:cl.lookup n=some c:=e4 n c (by simp [List.lookup_cons])
   refine ⟨cl,?_,e2,λy hy hy2=>?_,λy c' e=>?_⟩
   ·rw [List.forIn_cons]
    have:cellOf env n=pure c:=by unfold cellOf;rw [hc]
    simp only [beq_self_eq_true,if_true,this,pure_bind]
    exact e1
   ·rcases List.mem_cons.mp hy with z | z
    ·rw [z];exact ⟨c,nn⟩
    ·exact e3 y z hy2
   ·by_cases ey:y=n
    ·subst ey
     have:=h y c' e
     rw [hc] at this;cases this
     exact nn
    ·exact e4 y c' (by rw [List.lookup_cons,show (y==n)=false by simpa using ey];exact e)
  ·obtain ⟨cl,e1,e2,e3,e4⟩:=ih cs (λy hy=>hf y (by simp [hy])) h
   have hb:(k==NameKind.free)=false:=by simpa using hk
   refine ⟨cl,?_,e2,λy hy hy2=>?_,e4⟩
   ·rw [List.forIn_cons]
    simp only [hb,Bool.false_eq_true,if_false,pure_bind]
    exact e1
   ·rcases List.mem_cons.mp hy with z | z
    ·rw [z] at hy2;exact absurd hy2 hk
    ·exact e3 y z hy2
theorem q6I (env:Env) (scope:Scope) (hf:∀y∈scope.names,y.2=.free->∃c,env.cells.lookup y.1=some c) :
 ∃cl:List (Str×Addr),closureFor scope env=pure cl/\(∀y c,cl.lookup y=some c->env.cells.lookup y=some c)/\∀y∈scope.names,y.2=.free->∃c,cl.lookup y.1=some c:=by
 obtain ⟨cl,e1,e2,e3,_⟩:=q68 env scope.names [] hf (λy c e=>by simp at e)
 refine ⟨cl,?_,e2,e3⟩
 rw [closureFor]
 show (forIn scope.names [] _ >>= λcs=>pure cs)=pure cl
 rw [bind_pure]
 exact e1
noncomputable abbrev CxC (X:Cx) (N':List Str) (scope:Scope) (cl:List (Str×Addr)) (C:Addr) (s₀:Shared) (H₀:Hp) (ex:List Addr):Cx:=
 { X with N:=N',env:=compEnvC scope cl C X.env,outer:=X.stack,s₀:=s₀,H₀:=H₀,ex:=ex,fn:=λ_=>false,pn:=[] }
structure Cap (X:Cx) (scope:Scope) (x:Str) (ys:List Str) (caps:List Nat):Prop where
 kind:scope.kind=.function
 own:scope.names.lookup x=some .local
 nocell:∀y∈scope.names,y.2≠.cell
 names:∀y∈scope.names,y.2=.local->scope.names.lookup y.1=some .local
 free:∀y∈scope.names,y.2=.free->X.env.kindOf y.1=some .cell∨X.env.kindOf y.1=some .free
 nodup:(x::ys).Nodup
 len:caps.length=ys.length
 cap:∀(j:Nat) (y:Str) (i:Nat),ys[j]?=some y->caps[j]?=some i->X.N[i]?=some y/\(X.env.kindOf y=some .cell∨X.env.kindOf y=some .free)/\scope.names.lookup y=some .free
theorem q06 {env:Env}:∀{names:List (Str×NameKind)} {x:Str} {k:NameKind},(names.map λ(n,k)=>if (k==NameKind.free && env.scope.kind==.function && env.kindOf n==some .cell) then (n,NameKind.cell) else (n,k)).lookup x=some k ->
 ∃k',names.lookup x=some k'/\(x,k')∈names/\(k=k'∨(k'=.free/\k=.cell))
 | [],_,_,h=>by simp at h
 | (n,k0)::r,x,k,h=>by
  have ih:=@q06 env r x k
  have h:List.lookup x ((if (k0==NameKind.free && env.scope.kind==.function && env.kindOf n==some .cell)=true then (n,NameKind.cell) else (n,k0))::_)=some k:=h
  cases hx:x==n with
  | true=>
   have e:=eq_of_beq hx
   subst e
   refine ⟨k0,by simp [List.lookup_cons],by simp,?_⟩
   by_cases hc:(k0==NameKind.free && env.scope.kind==.function && env.kindOf x==some .cell)=true
   ·rw [if_pos hc] at h
    simp only [List.lookup_cons,beq_self_eq_true] at h
    cases h
    right
    refine ⟨?_,rfl⟩
    simp only [Bool.and_eq_true] at hc
    exact eq_of_beq hc.1.1
   ·rw [if_neg hc] at h
    simp only [List.lookup_cons,beq_self_eq_true] at h
    cases h
    exact .inl rfl
  | false=>
   have h':List.lookup x (r.map λ(n,k)=>if (k==NameKind.free && env.scope.kind==.function && env.kindOf n==some .cell) then (n,NameKind.cell) else (n,k))=some k:=by
    by_cases hc:(k0==NameKind.free && env.scope.kind==.function && env.kindOf n==some .cell)=true
    ·rw [if_pos hc] at h;simpa [List.lookup_cons,hx] using h
    ·rw [if_neg hc] at h;simpa [List.lookup_cons,hx] using h
   obtain ⟨k',e1,e2,e3⟩:=ih h'
   exact ⟨k',by rw [List.lookup_cons,hx];exact e1,List.mem_cons_of_mem _ e2,e3⟩
section
variable {X:Cx} {pins:List (Addr×Obj)} {σ:L2.St} {H:Hp} {s:Shared} {scope:Scope} {x:Str} {ys:List Str} {caps:List Nat} {cl:List (Str×Addr)} {ex:List Addr}
theorem Cap.has (cp:Cap X scope x ys caps) (hcl:∀y∈scope.names,y.2=.free->∃c,cl.lookup y.1=some c):∀y,((relabel scope X.env).names.lookup y=some .cell∨(relabel scope X.env).names.lookup y=some .free)->∃c,cl.lookup y=some c:=by
 intro y h
 rcases h with h | h
 ·obtain ⟨k',_,e2,e3⟩:=q06 (env:=X.env) h
  rcases e3 with e3 | e3
  ·exact absurd e3.symm (cp.nocell _ e2)
  ·exact hcl _ e2 e3.1
 ·obtain ⟨k',_,e2,e3⟩:=q06 (env:=X.env) h
  rcases e3 with e3 | e3
  ·exact hcl _ e2 e3.symm
  ·cases e3.2
theorem j4u (I:Inv X pins σ H s) (cp:Cap X scope x ys caps) (h1:∀y c,cl.lookup y=some c->X.env.cells.lookup y=some c) (h2:∀y∈scope.names,y.2=.free->∃c,cl.lookup y.1=some c)
 (hx:∀b∈ex,q4o X pins H b/\b < s.heap.objs.size):(CxC X (x::ys) scope cl s.heap.objs.size s H ex).Ok where
 mod:=I.ok.mod
 kind:=cp.kind
 glob:=I.ok.glob
 blt:=I.ok.blt
 above:=Nat.le_refl _
 inj:=λa b c e1 e2=>I.ok.inj a b c (h1 _ _ e1) (h1 _ _ e2)
 has:=λy h=>cp.has h2 y h
 cab:=λy c e=>by cases e
 hd:=I.ok.hd
 frames:=I.ok.frames
 stk:=.inl rfl
 exf:=λb hb=>⟨Nat.ne_of_lt (hx b hb).2,λy c e=>(hx b hb).1.2.2.2.2.1 y c (h1 _ _ e)⟩
 bs:=I.bs
 bsz:=Nat.le_trans I.ok.bsz I.sz
 noex:=λb o e hb=>by
  rcases (hx b hb).1.2.2.2.1 with z | z
  ·exact I.ok.noex b o e z
  ·exact absurd (Nat.lt_of_lt_of_le (Heap.lt_size e) I.ok.bsz) (Nat.not_lt.mpr z)
 exfs:=λb hb hf=>by
  rcases List.mem_cons.mp (I.stkSub b hf) with z | z
  ·exact (hx b hb).1.2.1 z
  ·exact (hx b hb).1.2.2.1 z
 funs:=I.stack
 frf:=I.stkFree
theorem q96 {h':Heap} {tk:Nat} {m:Str->Option Value} (I:Inv X pins σ H s) (cp:Cap X scope x ys caps) (h1:∀y c,cl.lookup y=some c->X.env.cells.lookup y=some c) (h2:∀y∈scope.names,y.2=.free->∃c,cl.lookup y.1=some c)
 (hx:∀b∈ex,q4o X pins H b/\b < s.heap.objs.size) (hn:h'.Ns s.heap.objs.size m) (hk:∀b o,s.heap.get? b=some o->h'.get? b=some o) :
 Inv (CxC X (x::ys) scope cl s.heap.objs.size s H ex) [] (none::caps.map λi=>σ.getD i none) H { s with heap:=h',toks:=tk } where
 ok:=j4u I cp h1 h2 hx
 os:=rfl
 bare:=I.bare
 base:=Un.kept hk
 loc:=by
  refine ⟨m,hn,λj y v e1 e2 e3=>?_⟩
  cases j with
  | zero=>cases e2
  | succ j=>
   have e1:ys[j]?=some y:=e1
   have e2:(caps.map λi=>σ.getD i none)[j]?=some (some v):=e2
   rw [List.getElem?_map] at e2
   cases ei:caps[j]? with
   | none=>rw [ei] at e2;cases e2
   | some i=>
    rw [ei] at e2
    have e2:σ.getD i none=some v:=Option.some.inj e2
    obtain ⟨q1,q2,q3⟩:=cp.cap j y i e1 ei
    have e4:σ[i]?=some (some v):=by
     rw [List.getD_eq_getElem?_getD] at e2
     cases q:σ[i]? with
     | none=>rw [q] at e2;cases e2
     | some w=>rw [q] at e2;exact congrArg some e2
    obtain ⟨m0,hn0,hl⟩:=I.loc
    obtain ⟨u,r,lk⟩:=hl i y v q1 e4 (q2.elim (λz=>.inr (.inl z)) λz=>.inr (.inr z))
    refine ⟨u,r,.inr ?_⟩
    have lc:∃c,X.env.cells.lookup y=some c/\s.heap.IsCell c (some u):=by
     rcases lk with ⟨z,_⟩ | ⟨_,z⟩
     ·rcases q2 with q2 | q2<;>(rw [q2] at z;cases z)
     ·exact z
    obtain ⟨c,c1,c2⟩:=lc
    have mm:(y,NameKind.free)∈scope.names:=by
     have:∀(l:List (Str×NameKind)) (k:NameKind),l.lookup y=some k->(y,k)∈l:=by
      intro l
      induction l with
      | nil=>intro k e;simp at e
      | cons z l ih=>
       intro k e
       rw [List.lookup_cons] at e
       cases hz:y==z.1 with
       | true=>rw [hz] at e;cases e;rw [eq_of_beq hz];simp
       | false=>rw [hz] at e;exact List.mem_cons_of_mem _ (ih k e)
     exact this _ _ q3
    obtain ⟨c',c3⟩:=h2 _ mm rfl
    have:=h1 _ _ c3
    have this:X.env.cells.lookup y=some c':=this
    rw [c1] at this;cases this
    refine ⟨?_,c,c3,?_⟩
    ·rcases e3 with e3 | e3
     ·obtain ⟨k',z1,_,z3⟩:=q06 (env:=X.env) (show ((scope.names.map _).lookup y)=some NameKind.local from e3)
      rw [q3] at z1;cases z1
      rcases z3 with z3 | z3
      ·cases z3
      ·cases z3.2
     ·exact e3
    ·obtain ⟨o,ho,hd⟩:=c2
     exact ⟨o,hk _ _ ho,hd⟩
 cell:=λy c e=>by
  obtain ⟨v,o,ho,hd⟩:=I.cell y c (h1 _ _ e)
  exact ⟨v,o,hk _ _ ho,hd⟩
 free:=I.hok.fresh (Nat.le_refl _)
 freeC:=λy c e=>I.freeC y c (h1 _ _ e)
 pin:=λp hp=>by simp at hp
 hok:=I.hok.kept hk
 len:=by simp [cp.len]
theorem q6T {s3 s':Shared} {H':Hp} {σ':L2.St} {C:Addr} (I:Inv X pins σ H s3) (I':Inv (CxC X (x::ys) scope cl C s3 H ex) [] σ' H' s') (hx:∀b∈ex,q4o X pins H b):Inv X pins σ H' s':=
 I.call' (ch:=ex) I'.os I'.base I'.hok I'.bare λb hb=>⟨(hx b hb).2.2.2.1,(hx b hb).2.1,(hx b hb).2.2.2.2.1,(hx b hb).2.2.2.2.2⟩
end
noncomputable def q6t:Sl->Sl
 | .sh d=>.sh d
 | _=>.no
noncomputable def q1t (caps:List Nat) (ρ:Ro) (d:D):Ro:=.sh d::caps.map λi=>q6t (ρ.getD i .no)
theorem q0o {T:Tb} (h:T.me=none):T={ T with me:=none }:=by
 cases T;cases h;rfl
theorem j4t {T T0:Tb} {K:PySem.W.Frag} {G H H':Hp} {σ:L2.St} {ρ:Ro} {caps:List Nat} {d:D} {v:V} {w:Option V} (hT:T0={ T with me:=none }) (fr:FR T K G H σ ρ) (p:Pers T false H H') (r:Rep T K H' d v) :
 FR T0 K (λ_=>none) H' ((w::caps.map λi=>σ.getD i none).set 0 (some v)) (q1t caps ρ d):=by
 refine ⟨λ_ _ e=>(by cases e),by simp [q1t],λi s e=>?_,λi j s t b _ e1 _ o1 _=>?_,λx e=>?_,λi c ds e=>?_⟩
 ·cases i with
  | zero=>
   have e:Sl.sh d=s:=Option.some.inj e
   subst e
   exact ⟨v,rfl,hT ▸ (q1h _ _).mpr r⟩
  | succ i=>
   have e:(caps.map λi=>q6t (ρ.getD i .no))[i]?=some s:=e
   show SlOk T0 K _ H' (caps.map λi=>σ.getD i none)[i]? s
   rw [List.getElem?_map] at e ⊢
   cases q:caps[i]? with
   | none=>rw [q] at e;cases e
   | some k=>
    rw [q] at e
    have e:q6t (ρ.getD k .no)=s:=Option.some.inj e
    subst e
    rw [List.getD_eq_getElem?_getD]
    cases qr:ρ[k]? with
    | none=>exact trivial
    | some z=>
     cases z with
     | sh d'=>
      obtain ⟨u,e1,r1⟩:=fr.sh_at qr
      refine ⟨u,?_,hT ▸ (q1h _ _).mpr (Rep.pers p _ _ r1)⟩
      show some (σ.getD k none)=_
      rw [List.getD_eq_getElem?_getD,e1]
      rfl
     | no=>exact trivial
     | ow _=>exact trivial
     | bo _=>exact trivial
     | me _ _=>exact trivial
     | ox _ _ _ _=>exact trivial
     | mo _=>exact trivial
     | od _=>exact trivial
     | lm _=>exact trivial
     | bi _ _=>exact trivial
 ·exfalso
  cases i with
  | zero=>
   have e1:Sl.sh d=s:=Option.some.inj e1
   subst e1;exact o1
  | succ i=>
   have e:(caps.map λi=>q6t (ρ.getD i .no))[i]?=some s:=e1
   rw [List.getElem?_map] at e
   cases q:caps[i]? with
   | none=>rw [q] at e;cases e
   | some k=>
    rw [q] at e
    have e:q6t (ρ.getD k .no)=s:=Option.some.inj e
    cases z:ρ.getD k .no<;>(rw [z] at e;subst e;exact o1)
 ·subst hT;cases e
 ·exfalso
  cases i with
  | zero=>cases e
  | succ i=>
   have e:(caps.map λi=>q6t (ρ.getD i .no))[i]?=some (.me c ds):=e
   rw [List.getElem?_map] at e
   cases q:caps[i]? with
   | none=>rw [q] at e;cases e
   | some k=>
    rw [q] at e
    have e:q6t (ρ.getD k .no)=.me c ds:=Option.some.inj e
    cases z:ρ.getD k .no<;>(rw [z] at e;cases e)
section
variable {T:Tb} {X:Cx} {elt iter:Expr} {x:Str} {px pos:Pos} {scope:Scope} {ys:List Str} {caps:List Nat} {fe:Ev} {cl:List (Str×Addr)} {pins:List (Addr×Obj)} {σ:L2.St} {G H2:Hp} {s2:Shared} {J:It} {fp:List Addr} {it:Addr} {tn:Nat->Heap->Prop} {ρ:Ro} {ds es:List D}
end
noncomputable def CompOk (X:Cx) (e:Expr) (scope:Scope) (pos:Pos) (first:Sem Value) (t:TE):Prop:=
 ∀(pins:List (Addr×Obj)) (s:Shared) (σ:L2.St) (H:Hp) (Q:VK) (use:Option (Value->Sem Unit)) (QQ:Value->Shared->Prop),Inv X pins σ H s->t σ H Q ->
  (∀(a C:Addr) (s':Shared) (m:Str->Option Value) (Hn:Hp),Inv X pins σ Hn s'->q4o X pins Hn C->s'.heap.Ns C m->Q (.ref a) Hn->compPost (model X.prog X.w) X.A X.xe use QQ (.ref a) C (.ok .next) s') ->
  wpAny (model X.prog X.w) X.A (comprehension e scope X.env pos (newList []) false first use) QQ X.xe s
section
variable {X:Cx} {elt iter:Expr} {x y:Str} {px py pos spos p':Pos} {scope:Scope} {t:TE}
theorem CompOk.freeze {e:Expr} {first:Sem Value} (h:CompOk X e scope pos first t):CompOk X e scope pos first (fun σ H Q=>t σ H λv H1=>∃a vs,v=.ref a/\H1 a=some (.lst vs)/\∀o,Q v (upd H1 a (.frz o (.lst vs)))):=
 λpins s σ H Q use QQ I q k=>h pins s σ H _ use QQ I q λa C s' m Hn I' f hn ⟨a',vs,e,ha,kq⟩=>by
  cases e
  obtain ⟨o,I2⟩:=Inv.freeze I' ha
  exact k a C s' m _ I2 ⟨by rw [q0i (λz=>by rw [<-z,f.1] at ha;cases ha)];exact f.1,f.2⟩ hn (kq o)
theorem CompOk.pe {gs:List Comprehension} (h:CompOk X (.ListComp elt gs scope pos) scope (firstIterPos gs pos) (firstIter gs X.env) t) (ha:firstAsync gs=false:=by rfl):PE X (.ListComp elt gs scope pos) t:=λpins s σ H Q I q=>by
 rw [eval_ListComp,ha]
 refine h pins s σ H Q none _ I q λa C s' m Hn I' f hn hq=>⟨m,hn,λh' hs'=>?_⟩
 exact ⟨.ref a,Hn,I'.turned (t':=s'.toks) (λb o hb e=>hs'.extBut b o hb e) f.1 f.2.1 f.2.2.2.1 f.2.2.2.2.1 f.2.2.2.2.2,rfl,hq⟩
theorem CompOk.ps {gs:List Comprehension} {i:Nat} (h:CompOk X (.ListComp elt gs scope pos) scope (firstIterPos gs pos) (firstIter gs X.env) t) (hN:X.N.Nodup) (hi:X.N[i]?=some y) (hy:Loc X.env.scope y) (hf:X.fn y=true∨X.env.scope.names.lookup y=some .local)
 (hsw:swapsWith (.ListComp elt gs scope pos) (some (.Name y py)) spos.line X.env=pure true) (ha:firstAsync gs=false:=by rfl) :
 PS X (.Assign [.Name y py] (.ListComp elt gs scope pos) spos) (j8S t (j3x i)):=λpins s σ H D I q=>by
 rw [exec_Assign_Name_used _ _ _ _ hsw]
 refine wpAny_bind (wpAny_standAt (wpAny_bind ?_))
 show wpAny _ X.A (do let _ <-comprehension (.ListComp elt gs scope pos) scope X.env (firstIterPos gs pos) (newList []) (firstAsync gs) (firstIter gs X.env) (some (assign (.Name y py) X.env))) _ _ s
 rw [ha]
 refine wpAny_bind (wpAny_mono (h pins s σ H _ (some (assign (.Name y py) X.env)) (λ_ s'=>SP X pins D .next s') I q λa C s' m Hn I' f hn hq=>?_) (λ_ s' hq=>wpAny_pure (wpAny_pure hq)) λ_ _ z=>z)
 show wpAny (model X.prog X.w) X.A (assign (.Name y py) X.env (.ref a)) _ X.xe s'
 obtain ⟨o,es,ep,ho,hd⟩:=hn
 have hdc:∀v,o.data≠.cell v:=λv z=>by
  have:=hd.1
  rw [z] at this;cases this
 have I2:Inv X (pins++[(C,o)]) σ Hn s':=I'.pins_of λp hp=>(List.mem_append.mp hp).elim (λz=>I'.pin p (List.mem_append_right _ z)) λz=>by
  obtain rfl:p=(C,o):=by simpa using z
  exact ⟨ho,f.1,f.2.1,f.2.2.1,hdc⟩
 refine wpAny_mono (q3L (X:=X) (i:=i) hN hi hy hf _ s' σ Hn (.ref a) (.ref a) D.nx I2 rfl hq) (λ_ s'' h''=>?_) λ_ _ z=>z
 obtain ⟨σ',H',I3,q3⟩:=h''
 have hC:=I3.pin (C,o) (by simp)
 refine ⟨m,⟨o,es,ep,hC.1,hd⟩,λh' hs'=>?_⟩
 have I4:Inv X pins σ' H' s'':=I3.unpinned
 have I5:Inv X pins σ' H' { s'' with heap:=h' }:=I4.turned (t':=s''.toks) (λb o hb e=>hs'.extBut b o hb e) hC.2.1 f.2.1 f.2.2.2.1 f.2.2.2.2.1 f.2.2.2.2.2
 exact ⟨σ',H',I5,q3⟩
end
section
variable {T:Tb} {X:Cx} {elt iter:Expr} {x:Str} {px pos spos py:Pos} {scope:Scope} {ys:List Str} {caps:List Nat} {fe:Ev} {fl:Ro->Out (List D)}
@[simp] noncomputable def q0L (fl:Ro->Out (List D)) (caps:List Nat) (fe:Ev) (ρ:Ro):Out (List D):=(fl ρ).bind λds=>if ds.length<=1000000 then (match q6b (λd=>fe (q1t caps ρ d)) ds with | some es=>.ok es | none=>.bad) else .bad
variable {ib:Bool} {y:Str}
end
section
variable {X:Cx}
theorem j58:SlR X (λx lo hi H Q=>∃z,x=.str z/\z.length<=sizeLine/\Q (.str (Txt.slice z lo hi)) H):=by
 intro pins s σ H x v vl vu lo hi sl Q I rx hs pl pu h
 obtain ⟨z,rfl,hz,q⟩:=h
 obtain ⟨t,rfl⟩:=rx
 obtain ⟨o,ho,hc,hd⟩:=hs
 refine ⟨"str",_,F.slot_str_getitem.lookup,typeIs_str _ _ _,?_⟩
 have fin:∀t' k,EP X pins σ Q (.str (Txt.slice z lo hi) t') { s with toks:=k }:=λt' k=>⟨.str _,H,I.tok k,⟨t',rfl⟩,q⟩
 cases pl with
 | none=>
  cases pu with
  | none=>exact wpAny_getItem_str_slice (l:=none) (u:=none) (st:=none) ⟨o,ho,hc,hd⟩ rfl (post_val_or_str ⟨Nat.le_trans (Txt.slice_le z _ _) hz,fin⟩)
  | int j u=>exact wpAny_getItem_str_slice (l:=none) (u:=some (j,u)) (st:=none) ⟨o,ho,hc,hd⟩ rfl (post_val_or_str ⟨Nat.le_trans (Txt.slice_le z _ _) hz,fin⟩)
 | int i u=>
  cases pu with
  | none=>exact wpAny_getItem_str_slice (l:=some (i,u)) (u:=none) (st:=none) ⟨o,ho,hc,hd⟩ rfl (post_val_or_str ⟨Nat.le_trans (Txt.slice_le z _ _) hz,fin⟩)
  | int j u'=>exact wpAny_getItem_str_slice (l:=some (i,u)) (u:=some (j,u')) (st:=none) ⟨o,ho,hc,hd⟩ rfl (post_val_or_str ⟨Nat.le_trans (Txt.slice_le z _ _) hz,fin⟩)
end
section
variable {T:Tb} {X:Cx} {a b e:Expr} {pos p p2:Pos} {fa fb fe:Ev} {lo hi:Option Expr} {fo fu:Ro->Out (Option Int)}
@[simp] noncomputable def q6D (fe:Ev) (fo fu:Ro->Out (Option Int)) (ρ:Ro):Out D:=(fe ρ).bind λd=>(fo ρ).bind λlo=>(fu ρ).bind λhi=>match d with
 | .str z=>if z.length<=1000000 then .ok (.str (Txt.slice z lo hi)) else .bad
 | _=>.bad
theorem q27 (he:DE T X e fe) (hl:DO T X lo fo) (hu:DO T X hi fu):DE T X (.Subscript e (.Slice lo hi none p2) pos) (q6D fe fo fu):=.mk λG E hp=>by
 refine PE.imp (q6f (X:=X.wish E) j58 (he.run G E hp) (hl.run G E hp) (hu.run G E hp)) fun σ H Q ⟨ρ,fr,h⟩=>⟨ρ,fr,Acc.mono (Acc.bind h) λd _ hd v H1 s1 r1=>?_⟩
 refine ⟨ρ,fr.mono s1,Acc.mono (Acc.bind (Acc.heap s1 hd)) λl _ hl' H2 s2=>?_⟩
 refine ⟨ρ,(fr.mono s1).mono s2,Acc.mono (Acc.bind (Acc.heap s2 hl')) λu _ hu' H3 s3=>?_⟩
 cases d with
 | str z=>
  have hu'':Acc T X E σ H2 (if z.length<=1000000 then .ok (.str (Txt.slice z l u)) else .bad) (kE T X.K H Q):=hu'
  by_cases c:z.length<=1000000
  ·rw [if_pos c] at hu''
   exact ⟨z,r1,line6 c,hu'' _ H3 ((s1.trans s2).trans s3) rfl⟩
  ·rw [if_neg c] at hu'';exact hu''.elim
 | _=>exact hu'.elim
noncomputable def Itx (z:Str):It:=⟨λi _=>i < z.length,λi H x H'=>H'=H/\∃c,z.cps[i]?=some c/\x=.str ⟨#[c]⟩,λi _=>z.length<=i⟩
theorem q5Q {P:Program} {w:World} {K:PySem.W.Frag} {tg:Expr} {ty:String} (it:Addr) (z:Str) (t:Tok) (hn:["enumerate","zip","dict_itemiterator","dict_reverseitemiterator","odict_iterator","itertools.zip_longest","itertools.pairwise"].contains ty=false)
 (W:∀A:Around,A.handled=none->Walks P w A it [it] [it] z.cps.size (SignAt z) (λi h=>h.IsStrIter it ty z t i))
 (hself:∀(A:Around) (i:Nat) (s:Shared) (Q:Value->Shared->Prop) (E:Value->Shared->Prop),s.heap.IsStrIter it ty z t i->Q (.ref it) s->wpAny (model P w) A (pyIter (.ref it)) Q E s):Turn P w K tg (Itx z) [it] it (λi h=>i<=z.cps.size/\h.IsStrIter it ty z t i) where
 mem:=by simp
 obj:=λi h st b hb=>by
  have e:b=it:=by simpa using hb
  subst e
  obtain ⟨_,o,ho,_,hd⟩:=st
  exact ⟨o,ho,λv q=>by rw [hd] at q;cases q⟩
 keep:=λi h h' st k=>by
  obtain ⟨l,o,ho,r⟩:=st
  exact ⟨l,o,k it (by simp) o ho,r⟩
 item:=by
  intro X hP hw hK hc i pins s σ H E I hf st hg
  subst hP hw hK
  obtain ⟨f0,f1,f2,f3,f4,f5⟩:=hf it (by simp)
  refine (W X.A (I.ok.hd hc)).item i s _ _ hg st.2 λv h' tk hv st' kk=>?_
  obtain ⟨c,u,hcx,rfl⟩:=hv
  have I1:Inv X pins σ H { s with heap:=h',toks:=tk }:=I.turned (λb o hb e=>kk b o (by simpa using hb) e) f0 f1 f3 f4 f5
  obtain ⟨o,ho,hcl,hd⟩:=id st'
  exact ⟨_,rfl,q7q (s:={ s with heap:=h',toks:=tk }) (n:=ty) ho hcl hd hn ⟨.str ⟨#[c]⟩,H,I1,⟨u,rfl⟩,⟨rfl,c,hcx,rfl⟩,⟨hg,st'⟩,λb hb=>(hf b hb).1⟩⟩
 done:=by
  intro X hP hw hK hc i pins s σ H E I hf st hg
  subst hP hw hK
  obtain ⟨f0,f1,f2,f3,f4,f5⟩:=hf it (by simp)
  have hi:i=z.cps.size:=Nat.le_antisymm st.1 hg
  subst hi
  exact (W X.A (I.ok.hd hc)).done s _ _ st.2 λh' tk kk=>⟨rfl,I.turned (t':=tk) (λb o hb e=>kk b o (by simpa using hb) e) f0 f1 f3 f4 f5⟩
 self:=λA i s Q E st h=>hself A i s Q E st.2 h
end
section
variable {X:Cx} {tg:Expr}
theorem j6d {l:Expr} {tl:TE} (hl:PE X l tl):PI X tg l (fun σ H R=>tl σ H λx H1=>∃z,x=.str z/\R (Itx z) H1):=by
 intro pins s σ H R I h
 refine thn (hl pins s σ H _ I h) λv s1 ⟨x,H1,I1,r1,q1⟩=>?_
 obtain ⟨z,rfl,q⟩:=q1
 obtain ⟨t,rfl⟩:=r1
 have fin:∀(ob:Obj),∀b∈[s1.heap.objs.size],q4o X pins H1 b:=λob b hb=>by
  have e:b=s1.heap.objs.size:=by simpa using hb
  subst e
  exact I1.fpOk (Nat.le_refl _) (I1.hok.fresh (Nat.le_refl _))
 cases ha:z.cps.all (· < 128) with
 | true=>
  refine wpAny_pyIter_ascii ha ?_
  exact ⟨s1.heap.objs.size,[s1.heap.objs.size],_,_,H1,rfl,I1.kept (t':=s1.toks) λb o e=>Heap.get?_push_of_some _ e,q5Q _ z t (by decide) (λA' hA=>Walks.strAscii hA _ z t) (λ_ _ _ _ _ st hQ=>wpAny_pyIter_striter_ascii st hQ),⟨Nat.zero_le _,_,Heap.get?_push_size _ rfl,rfl,rfl⟩,fin default,q⟩
 | false=>
  refine wpAny_pyIter_wide ha ?_
  exact ⟨s1.heap.objs.size,[s1.heap.objs.size],_,_,H1,rfl,I1.kept (t':=s1.toks) λb o e=>Heap.get?_push_of_some _ e,q5Q _ z t (by decide) (λA' hA=>Walks.strWide hA _ z t) (λ_ _ _ _ _ st hQ=>wpAny_pyIter_striter_wide st hQ),⟨Nat.zero_le _,_,Heap.get?_push_size _ rfl,rfl,rfl⟩,fin default,q⟩
end
section
variable {T:Tb} {X:Cx} {tg e:Expr} {fe:Ev}
noncomputable def signs (z:Str):List D:=z.cps.toList.map λc=>D.str ⟨#[c]⟩
@[simp] noncomputable def D.toS:D->Out (List D)
 | .str z=>.ok (signs z)
 | _=>.bad
@[simp] noncomputable def j4C (f:Ev) (ρ:Ro):Out (List D):=(f ρ).bind D.toS
theorem j5q (he:DE T X e fe):DI T X tg e (j4C fe):=.mk λG E hp=>
 PI.imp (j6d (X:=X.wish E) (he.run G E hp)) fun σ H R ⟨ρ,fr,h⟩=>⟨ρ,fr,Acc.mono (Acc.bind h) λd _ hd v H1 s1 r1=>by
  cases d with
  | str z=>
   refine ⟨z,r1,hd _ H1 s1 λi H' p sm=>⟨λd' e'=>?_,λhl=>?_⟩⟩
   ·have hd':z.cps.toList[i]?.map (λc=>D.str ⟨#[c]⟩)=some d':=by rw [<-e',signs,List.getElem?_map]
    cases q:z.cps.toList[i]? with
    | none=>rw [q] at hd';cases hd'
    | some c=>
     rw [q] at hd'
     obtain rfl:D.str ⟨#[c]⟩=d':=Option.some.inj hd'
     have q2:z.cps[i]?=some c:=by rw [<-Array.getElem?_toList];exact q
     refine ⟨?_,λx H2 ⟨e2,c',e3,e4⟩=>?_⟩
     ·obtain ⟨hl,_⟩:=Array.getElem?_eq_some_iff.mp q2
      exact hl
     ·subst e2
      rw [q2] at e3;cases e3
      exact ⟨Same.refl _,e4⟩
   ·have:(signs z).length=z.length:=by simp [signs,Str.length]
    rw [this] at hl
    exact hl
  | _=>exact hd.elim⟩
end
section
variable {X:Cx}
theorem Inv.walked {pins:List (Addr×Obj)} {σ:L2.St} {H:Hp} {s:Shared} {ob:Obj} {h':Heap} {tk:Nat} (I:Inv X pins σ H s) (k:∀b o,b∉[s.heap.objs.size]->(s.heap.push ob).get? b=some o->h'.get? b=some o):Inv X pins σ H { s with heap:=h',toks:=tk }:=
 I.kept λb u e=>k b u (by simpa using Nat.ne_of_lt (Heap.lt_size e)) (Heap.get?_push_of_some _ e)
theorem q88:∀{bs:List Bool} {us:List Value},Vals (bs.map V.bl) us->us=bs.map Value.bool
 | [],_,.nil=>rfl
 | b::bs,_,.cons r t=>by rw [q88 t,show _=Value.bool b from r];rfl
theorem q8s (bs:List Bool):(List.range bs.length).all (λi=>bs.getD i false)=bs.all id:=by
 rw [Bool.eq_iff_iff]
 simp only [List.all_eq_true,List.mem_range,id]
 constructor
 ·intro h b hb
  obtain ⟨i,hi,rfl⟩:=List.mem_iff_getElem.mp hb
  have:=h i hi
  rwa [List.getD_eq_getElem?_getD,List.getElem?_eq_getElem hi] at this
 ·intro h i hi
  rw [List.getD_eq_getElem?_getD,List.getElem?_eq_getElem hi]
  exact h _ (List.getElem_mem hi)
theorem j0t {P:Program} {w:World} {A:Around} (bs:List Bool):TruthOf P w A (λi v=>(bs.map Value.bool).toArray[i]?=some v) (λi=>bs.getD i false):=λi v s Q E hP hQ=>by
 have hP:((bs.map Value.bool)[i]?)=some v:=by rw [<-hP];simp
 rw [List.getElem?_map] at hP
 cases q:bs[i]? with
 | none=>rw [q] at hP;cases hP
 | some b=>
  rw [q] at hP
  obtain rfl:Value.bool b=v:=Option.some.inj hP
  have hQ:Q (bs.getD i false) s:=hQ
  rw [List.getD_eq_getElem?_getD,q] at hQ
  exact wpAny_truthy_bool hQ
theorem j0v (hc:X.calm=true):q2f X (.builtin "all") (λxs H Q=>∃(a:Addr) (bs:List Bool),xs=[.ref a]/\SqL X.K H a (bs.map V.bl)/\Q (.bl (bs.all id)) H):=by
 intro pins s σ H xs us Q I rv h
 obtain ⟨a,bs,rfl,hq,q⟩:=h
 obtain ⟨u,rfl,ru⟩:=rv.one
 cases ru
 obtain ⟨its,r,pl,hz⟩:=I.list hq
 obtain rfl:=q88 r
 have ha:a≠s.heap.objs.size:=by
  obtain ⟨o,ho,_⟩:=pl.isList
  exact Nat.ne_of_lt (Heap.lt_size ho)
 have W:=Walks.list (prog:=X.prog) (w:=X.w) (A:=X.A.in1) (show X.A.in1.handled=none from I.ok.hd hc) s.heap.objs.size a ha (bs.map Value.bool).toArray
 refine call_all_walk (wpAny_pyIter_list pl.isList ⟨_,_,_,_,_,_,λi=>bs.getD i false,rfl,W,⟨⟨_,Heap.get?_push_size _ rfl,rfl,rfl⟩,?_⟩,j0t bs,λh' tk hk=>?_⟩)
 ·obtain ⟨o,ho,r'⟩:=pl.isList
  exact ⟨o,Heap.get?_push_of_some _ ho,r'⟩
 ·have I2:=Inv.walked (s:=s) (tk:=tk) I hk
  refine ⟨.bl (bs.all id),H,I2,?_,q⟩
  rw [List.size_toArray,List.length_map,q8s]
  rfl
noncomputable def isum:List Int->Int
 | []=>0
 | i::is=>i+isum is
theorem q26 (is:List Int):∀j,j<=is.length->preSum (λi=>is.getD i 0) j=isum (is.take j):=by
 intro j
 induction j with
 | zero=>intro _;simp [preSum,isum]
 | succ j ih=>
  intro h
  rw [preSum,ih (by omega)]
  have e:is.take (j+1)=is.take j++[is.getD j 0]:=by
   rw [List.take_succ_eq_append_getElem (by omega),List.getD_eq_getElem?_getD,List.getElem?_eq_getElem (by omega)]
   rfl
  rw [e]
  have:∀(xs:List Int) (y:Int),isum (xs++[y])=isum xs+y:=by
   intro xs y
   induction xs with
   | nil=>simp [isum]
   | cons x xs ih=>simp [isum,ih];omega
  rw [this]
theorem q5y:∀{is:List Int} {us:List Value},Vals (is.map V.int) us->us.length=is.length/\∀(i:Nat) (v:Value),us[i]?=some v->∃t,v=.int (is.getD i 0) t
 | [],_,.nil=>⟨rfl,λi v e=>by simp at e⟩
 | j::is,_,.cons r t=>by
  obtain ⟨l,g⟩:=q5y t
  refine ⟨by simp [l],λi v e=>?_⟩
  cases i with
  | zero=>
   obtain ⟨tk,rfl⟩:=r
   cases e
   exact ⟨tk,rfl⟩
  | succ i=>exact g i v e
theorem q9q (hc:X.calm=true):q2f X (.builtin "sum") (λxs H Q=>∃(a:Addr) (is:List Int),xs=[.ref a]/\SqL X.K H a (is.map V.int)/\(∀j,j < is.length->InLong (is.getD j 0)/\InLong (isum (is.take (j+1))))/\Q (.int (isum is)) H):=by
 intro pins s σ H xs us Q I rv h
 obtain ⟨a,is,rfl,hq,hf,q⟩:=h
 obtain ⟨u,rfl,ru⟩:=rv.one
 cases ru
 obtain ⟨its,r,pl,hz⟩:=I.list hq
 obtain ⟨hl,hg⟩:=q5y r
 have ha:a≠s.heap.objs.size:=by
  obtain ⟨o,ho,_⟩:=pl.isList
  exact Nat.ne_of_lt (Heap.lt_size ho)
 have hlt:a < s.heap.objs.size:=by
  obtain ⟨o,ho,_⟩:=pl.isList
  exact Heap.lt_size ho
 have W:=Walks.list (prog:=X.prog) (w:=X.w) (A:=X.A.in1) (show X.A.in1.handled=none from I.ok.hd hc) s.heap.objs.size a ha its.toArray
 refine call_sum_walk (wpAny_pyIter_list pl.isList ⟨_,_,_,_,_,_,λi=>is.getD i 0,rfl,W,⟨⟨_,Heap.get?_push_size _ rfl,rfl,rfl⟩,?_⟩,?_,?_,?_,λh' tk t' hk=>?_⟩)
 ·obtain ⟨o,ho,r'⟩:=pl.isList
  exact ⟨o,Heap.get?_push_of_some _ ho,r'⟩
 ·intro b hb
  show b < (s.heap.push _).objs.size
  rw [Heap.size_push]
  simp only [List.mem_cons,List.not_mem_nil,or_false] at hb
  rcases hb with rfl | rfl
  ·exact Nat.lt_succ_self _
  ·exact Nat.lt_succ_of_lt hlt
 ·intro i v e
  exact hg i v (by rw [<-e];simp)
 ·intro j hj
  rw [List.size_toArray,hl] at hj
  rw [q26 is (j+1) hj]
  exact hf j hj
 ·have I2:=Inv.walked (s:=s) (tk:=tk) I hk
  refine ⟨.int (isum is),H,I2,⟨t',?_⟩,q⟩
  rw [List.size_toArray,hl,q26 is is.length (Nat.le_refl _),List.take_length]
end
section
variable {T:Tb} {X:Cx}
noncomputable def j03:List D->Option (List Bool)
 | []=>some []
 | .bl b::ds=>(match j03 ds with | some bs=>some (b::bs) | none=>none)
 | _=>none
theorem q5L {K:PySem.W.Frag} {H:Hp}:∀{ds:List D} {bs:List Bool} {vs:List V},j03 ds=some bs->RepL T K H ds vs->vs=bs.map V.bl
 | [],bs,vs,h,r=>by cases h;exact r
 | d::ds,bs,vs,h,r=>by
  cases d with
  | bl b=>
   have h:(match j03 ds with | some bs=>some (b::bs) | none=>none)=some bs:=h
   cases q:j03 ds with
   | none=>rw [q] at h;cases h
   | some bs'=>
    rw [q] at h;cases h
    obtain ⟨v,r',rfl,r1,r2⟩:=r
    rw [q5L q r2,show v=V.bl b from r1];rfl
  | _=>cases h
noncomputable def q3k:List D->Option (List Int)
 | []=>some []
 | .int b::ds=>(match q3k ds with | some bs=>some (b::bs) | none=>none)
 | _=>none
theorem q25 {K:PySem.W.Frag} {H:Hp}:∀{ds:List D} {bs:List Int} {vs:List V},q3k ds=some bs->RepL T K H ds vs->vs=bs.map V.int
 | [],bs,vs,h,r=>by cases h;exact r
 | d::ds,bs,vs,h,r=>by
  cases d with
  | int b=>
   have h:(match q3k ds with | some bs=>some (b::bs) | none=>none)=some bs:=h
   cases q:q3k ds with
   | none=>rw [q] at h;cases h
   | some bs'=>
    rw [q] at h;cases h
    obtain ⟨v,r',rfl,r1,r2⟩:=r
    rw [q25 q r2,show v=V.int b from r1];rfl
  | _=>cases h
noncomputable def j4I:List D->Out D
 | [.lst ds]=>(match j03 ds with | some bs=>.ok (.bl (bs.all id)) | none=>.bad)
 | _=>.bad
theorem j4P (hc:X.calm=true):CaD T X (.builtin "all") j4I:=λE=>⟨_,j0v hc,λds vs σ H Q r h=>by
 unfold j4I at h
 split at h
 ·rename_i ds'
  obtain ⟨v,rfl,a,ws,rfl,fz,rl⟩:=r.one
  cases q:j03 ds' with
  | none=>rw [q] at h;exact h.elim
  | some bs=>
   rw [q] at h
   obtain rfl:=q5L q rl
   exact ⟨a,bs,rfl,fz.sq,h _ H (Same.refl H) rfl⟩
 ·exact h.elim⟩
noncomputable def q5a (is:List Int):Bool:=decide (is.length<=1000) && is.all λi=>decide (-1000000000<=i) && decide (i<=1000000000)
theorem q71:∀(is:List Int),(∀i∈is,-1000000000<=i/\i<=1000000000)->-(1000000000*(is.length:Int))<=isum is/\isum is<=1000000000*(is.length:Int)
 | [],_=>by simp [isum]
 | i::is,h=>by
  have h1:=q71 is λj hj=>h j (by simp [hj])
  have h2:=h i (by simp)
  simp only [isum,List.length_cons,Int.natCast_add,Int.natCast_one]
  omega
theorem q6N {is:List Int} (h:q5a is=true):∀j,j < is.length->InLong (is.getD j 0)/\InLong (isum (is.take (j+1))):=by
 unfold q5a at h
 simp only [Bool.and_eq_true,decide_eq_true_eq,List.all_eq_true] at h
 intro j hj
 constructor
 ·rw [List.getD_eq_getElem?_getD,List.getElem?_eq_getElem hj]
  have:=h.2 _ (List.getElem_mem hj)
  unfold InLong
  show _<=is[j]/\is[j] < _
  omega
 ·have:=q71 (is.take (j+1)) λi hi=>h.2 i (List.mem_of_mem_take hi)
  have l:(is.take (j+1)).length<=1000:=by rw [List.length_take];omega
  unfold InLong
  omega
noncomputable def q9l:List D->Out D
 | [.lst ds]=>(match q3k ds with | some is=>if q5a is=true then .ok (.int (isum is)) else .bad | none=>.bad)
 | _=>.bad
theorem j2T (hc:X.calm=true):CaD T X (.builtin "sum") q9l:=λE=>⟨_,q9q hc,λds vs σ H Q r h=>by
 unfold q9l at h
 split at h
 ·rename_i ds'
  obtain ⟨v,rfl,a,ws,rfl,fz,rl⟩:=r.one
  cases q:q3k ds' with
  | none=>rw [q] at h;exact h.elim
  | some is=>
   rw [q] at h
   have h:Acc T X E σ H (if q5a is=true then .ok (.int (isum is)) else .bad) (kE T X.K H Q):=h
   by_cases c:q5a is=true
   ·rw [if_pos c] at h
    obtain rfl:=q25 q rl
    exact ⟨a,is,rfl,fz.sq,q6N c,h _ H (Same.refl H) rfl⟩
   ·rw [if_neg c] at h;exact h.elim
 ·exact h.elim⟩
noncomputable def q3b:D->Option V
 | .non=>some .non
 | .bl b=>some (.bl b)
 | .int i=>some (.int i)
 | .str x=>some (.str x)
 | _=>none
theorem q2Y {K:PySem.W.Frag} {H:Hp} {d:D} {v w:V} (h:q3b d=some w) (r:Rep T K H d v):v=w/\q3l w=true:=by
 cases d<;>first | (cases h;done) | (cases h;exact ⟨r,rfl⟩)
noncomputable def q01:List D->Option (List V)
 | []=>some []
 | d::ds=>(match q3b d,q01 ds with | some v,some vs=>some (v::vs) | _,_=>none)
theorem q2l {K:PySem.W.Frag} {H:Hp}:∀{ds:List D} {vs ws:List V},q01 ds=some ws->RepL T K H ds vs->vs=ws/\ws.all q3l=true
 | [],vs,ws,h,r=>by cases h;exact ⟨r,rfl⟩
 | d::ds,vs,ws,h,r=>by
  rw [q01] at h
  cases q1:q3b d with
  | none=>rw [q1] at h;cases h
  | some v=>
   cases q2:q01 ds with
   | none=>rw [q1,q2] at h;cases h
   | some vs'=>
    rw [q1,q2] at h;cases h
    obtain ⟨v',r',rfl,r1,r2⟩:=r
    obtain ⟨e1,e2⟩:=q2l q2 r2
    obtain ⟨e3,e4⟩:=q2Y q1 r1
    rw [e1,e3]
    exact ⟨rfl,by rw [List.all_cons,e4,e2];rfl⟩
noncomputable def inD (neg:Bool):D->D->Out D
 | .str i,.str j=>.ok (.bl (if neg then !(!(Builtin.Str.occurrences j i 0 j.length 1).isEmpty) else (!(Builtin.Str.occurrences j i 0 j.length 1).isEmpty)))
 | d,.lst ds=>(match q3b d,q01 ds with | some x,some xs=>.ok (.bl (if neg then !inV x xs else inV x xs)) | _,_=>.bad)
 | d,.tup ds=>(match q3b d,q01 ds with | some x,some xs=>.ok (.bl (if neg then !inV x xs else inV x xs)) | _,_=>.bad)
 | _,_=>.bad
theorem j11 (neg:Bool) (op:CmpOp) (h1:∀E,OpR (X.wish E) (compareOp op) (λx y H Q=>∃i j,x=.str i/\y=.str j/\Q (.bl (if neg then !(!(Builtin.Str.occurrences j i 0 j.length 1).isEmpty) else (!(Builtin.Str.occurrences j i 0 j.length 1).isEmpty))) H))
 (h2:∀E,OpR (X.wish E) (compareOp op) (rIn X.K neg)):OpD T X (compareOp op) (inD neg):=λE=>⟨_,OpR.or (h1 E) (h2 E),λdx dy x y σ H Q rx ry q=>by
 cases dy with
 | str j=>
  cases dx with
  | str i=>exact .inl ⟨i,j,rx,ry,q _ H (Same.refl H) rfl⟩
  | _=>exact q.elim
 | lst ds=>
  right
  have q:Acc T X E σ H (match q3b dx,q01 ds with | some x,some xs=>.ok (.bl (if neg then !inV x xs else inV x xs)) | _,_=>.bad) (kE T X.K H Q):=by cases dx<;>exact q
  cases q1:q3b dx with
  | none=>rw [q1] at q;exact q.elim
  | some v=>
   cases q2:q01 ds with
   | none=>rw [q1,q2] at q;exact q.elim
   | some vs=>
    rw [q1,q2] at q
    obtain ⟨a,ws,rfl,fz,rl⟩:=ry
    obtain ⟨rfl,f2⟩:=q2l q2 rl
    obtain ⟨rfl,f1⟩:=q2Y q1 rx
    exact ⟨a,_,rfl,.inl fz.sq,f1,f2,q _ H (Same.refl H) rfl⟩
 | tup ds=>
  right
  have q:Acc T X E σ H (match q3b dx,q01 ds with | some x,some xs=>.ok (.bl (if neg then !inV x xs else inV x xs)) | _,_=>.bad) (kE T X.K H Q):=by cases dx<;>exact q
  cases q1:q3b dx with
  | none=>rw [q1] at q;exact q.elim
  | some v=>
   cases q2:q01 ds with
   | none=>rw [q1,q2] at q;exact q.elim
   | some vs=>
    rw [q1,q2] at q
    obtain ⟨a,ws,rfl,fz,rl⟩:=ry
    obtain ⟨rfl,f2⟩:=q2l q2 rl
    obtain ⟨rfl,f1⟩:=q2Y q1 rx
    exact ⟨a,_,rfl,.inr fz,f1,f2,q _ H (Same.refl H) rfl⟩
 | _=>cases dx<;>exact q.elim⟩
theorem j5A:OpD T X (compareOp .In) (inD false):=j11 false .In (λE=>q7x) λE=>q7R
theorem q9z:OpD T X (compareOp .NotIn) (inD true):=j11 true .NotIn (λE=>q4i) λE=>q4r
end
section
variable {X:Cx}
end
section
variable {T:Tb} {X:Cx} {x:Str} {pos:Pos}
noncomputable def j4f (K:PySem.W.Frag) (mg:Str->Option Value) (x:Str) (ds:List D):Prop:=∃(a:Addr) (vs:List V),mg x=some (.ref a)/\(∀H,SqT K H a vs)/\q01 ds=some vs
theorem q4v {K:PySem.W.Frag} {H:Hp}:∀{ds:List D} {vs:List V},q01 ds=some vs->RepL T K H ds vs
 | [],vs,h=>by cases h;exact rfl
 | d::ds,vs,h=>by
  rw [q01] at h
  cases q1:q3b d with
  | none=>rw [q1] at h;cases h
  | some v=>
   cases q2:q01 ds with
   | none=>rw [q1,q2] at h;cases h
   | some ws=>
    rw [q1,q2] at h
    cases h
    refine ⟨v,ws,rfl,?_,q4v q2⟩
    cases d<;>first | (cases q1;done) | (cases q1;exact rfl)
theorem j0K {ds:List D} (hg:Gl X x) (h:j4f X.K X.mg x ds) (hd:(x==("__debug__" : Str))=false:=by decide):DE T X (.Name x pos) (eC (.tup ds)):=by
 obtain ⟨a,vs,hm,sq,hf⟩:=h
 exact q49 (v:=.ref a) hg hm rfl (λH=>⟨a,vs,rfl,sq H,q4v hf⟩) hd
theorem q9W {K:PySem.W.Frag} {mg:Str->Option Value} {a:Addr} {od:Option Addr} {its:Array Value} {n:Nat} {sl:Array (Option Value)} {ds:List D} {vs:List V} (hm:mg x=some (.ref a)) (hk:K.lookup a=some ⟨.type "tuple",od,.seq its n,sl⟩)
 (hz:its.size<=1000000) (hv:Vals vs its.toList) (hf:q01 ds=some vs):j4f K mg x ds:=
 ⟨a,vs,hm,λH=>.inr ⟨_,its,n,hk,rfl,rfl,line6 hz,hv⟩,hf⟩
structure j8A (K:PySem.W.Frag) (x qual:Str) (st:Stmt) (f:Addr) (fd:FuncData):Prop where
 ex:∃(oc:Value) (od:Option Addr) (dV kV doc pm:Value) (an:Option Addr) (cdv ct:Value) (osl:Array (Option Value)),
  fd=PySem.W.fnOf x qual (q1r st) (q0Z st) (q0g st) dV kV doc pm an cdv ct/\K.lookup f=some ⟨oc,od,.func fd,osl⟩/\PySem.W.codeIn K cdv qual=true
 kp:PySem.W.keepIn K (.ref f)=true
theorem q75 {K:PySem.W.Frag} {x qual:Str} {st:Stmt} {f:Addr} {oc:Value} {od an:Option Addr} {osl:Array (Option Value)} {dV kV doc pm cdv ct:Value} (l:K.lookup f=some ⟨oc,od,.func (PySem.W.fnOf x qual (q1r st) (q0Z st) (q0g st) dV kV doc pm an cdv ct),osl⟩)
 (c:PySem.W.codeIn K cdv qual=true) (k:PySem.W.keepIn K (.ref f)=true):j8A K x qual st f (PySem.W.fnOf x qual (q1r st) (q0Z st) (q0g st) dV kV doc pm an cdv ct):=⟨⟨oc,od,dV,kV,doc,pm,an,cdv,ct,osl,rfl,l,c⟩,k⟩
theorem q3A {K:PySem.W.Frag} {fd:FuncData} {ps:List Str} {ds:List Value} {dt:Addr} {oc:Value} {od:Option Addr} {items:Array Value} {n:Nat} {sl:Array (Option Value)} (hd:fd.defaults=.ref dt) (lk:K.lookup dt=some ⟨oc,od,.seq items n,sl⟩)
 (m:Nat) (hm:m+ds.length=ps.length) (h:∀us:List Value,us.length=m->∃k,bindArgs fd ⟨us,[]⟩=seqItems? fd.defaults >>= k/\k (some items)=pure (ps.zip (us++ds))):Binds K fd ps ds:=λs us kin hl=>by
 obtain ⟨k,h1,h2⟩:=h us (by rw [List.length_append] at hl;omega)
 exact BindsTo.of_defaults hd (kin dt _ lk) rfl h1 h2
end
end L3
namespace L3
open PySem L2
theorem j3y {X:Cx} {scope:Scope} {x:Str} (ys:List Str) (caps:List Nat) (hk:scope.kind=.function:=by rfl) (own:scope.names.lookup x=some .local:=by rfl)
 (h:(scope.names.all λy=>!(y.2==.cell) && (!(y.2==.local) || scope.names.lookup y.1==some .local))=true:=by decide +kernel) (hf:(scope.names.all λy=>!(y.2==.free) || X.env.kindOf y.1==some .cell)=true:=by rfl)
 (hn:(x::ys).Nodup:=by decide) (hl:caps.length=ys.length:=by rfl)
 (hc:∀(j:Nat) (y:Str) (i:Nat),ys[j]?=some y->caps[j]?=some i->X.N[i]?=some y/\X.env.kindOf y=some .cell/\scope.names.lookup y=some .free):Cap X scope x ys caps where
 kind:=hk
 own:=own
 nocell:=λy hy e=>by
  have:=List.all_eq_true.mp h y hy
  rw [e] at this;simp at this
 names:=λy hy e=>by
  have:=List.all_eq_true.mp h y hy
  rw [e] at this;simpa using this
 free:=λy hy e=>by
  have:=List.all_eq_true.mp hf y hy
  rw [e] at this;exact .inl (by simpa using this)
 nodup:=hn
 len:=hl
 cap:=λj y i e1 e2=>let ⟨a,b,c⟩:=hc j y i e1 e2;⟨a,.inl b,c⟩
theorem cap0 {X:Cx} {scope:Scope} {x:Str} (hk:scope.kind=.function:=by rfl) (own:scope.names.lookup x=some .local:=by rfl)
 (h:(scope.names.all λy=>!(y.2==.cell) && !(y.2==.free) && (!(y.2==.local) || scope.names.lookup y.1==some .local))=true:=by decide +kernel):Cap X scope x [] [] where
 kind:=hk
 own:=own
 nocell:=λy hy e=>by
  have:=List.all_eq_true.mp h y hy
  rw [e] at this;simp at this
 names:=λy hy e=>by
  have:=List.all_eq_true.mp h y hy
  rw [e] at this;simpa using this
 free:=λy hy e=>by
  have:=List.all_eq_true.mp h y hy
  rw [e] at this;simp at this
 nodup:=by simp
 len:=rfl
 cap:=λj y i e1 _=>by simp at e1
theorem q3i {X:Cx} {scope:Scope}:∀(j:Nat) (y:Str) (i:Nat),([]:List Str)[j]?=some y->([]:List Nat)[j]?=some i->X.N[i]?=some y/\X.env.kindOf y=some .cell/\scope.names.lookup y=some .free:=λj y i e _=>by simp at e
theorem q1g {X:Cx} {scope:Scope} {y0:Str} {ys:List Str} {i0:Nat} {caps:List Nat} (h1:X.N[i0]?=some y0) (h2:X.env.kindOf y0=some .cell) (h3:scope.names.lookup y0=some .free)
 (h:∀(j:Nat) (y:Str) (i:Nat),ys[j]?=some y->caps[j]?=some i->X.N[i]?=some y/\X.env.kindOf y=some .cell/\scope.names.lookup y=some .free) :
 ∀(j:Nat) (y:Str) (i:Nat),(y0::ys)[j]?=some y->(i0::caps)[j]?=some i->X.N[i]?=some y/\X.env.kindOf y=some .cell/\scope.names.lookup y=some .free:=λj y i e1 e2=>by
 cases j with
 | zero=>cases e1;cases e2;exact ⟨h1,h2,h3⟩
 | succ j=>exact h j y i e1 e2
theorem vcS {z:Str} {k:Tok} {xs:List V} {us:List Value} (h:Vals xs us):Vals (.str z::xs) (.str z k::us):=.cons ⟨k,rfl⟩ h
end L3
namespace L3
open PySem PySem.Spec PyProof.Rows L2
theorem q1Y {m:Str}:∀{fs:List (Str×V)},m∉fs.map (·.1)->fs.lookup m=none
 | [],_=>rfl
 | (n,v)::fs,h=>by
  simp only [List.map_cons,List.mem_cons,not_or] at h
  rw [List.lookup_cons,show (m==n)=false by simpa using h.1]
  exact q1Y h.2
section
variable {T:Tb} {X:Cx} {e o:Expr} {es:List Expr} {m:Str} {pos apos:Pos} {fo:Ev} {fs:Ro->Out (List Sl)} {F:Fn} {k n c:Nat} {f:Addr} {fd:FuncData} {ps:List Str}
@[simp] noncomputable def j6h (c:Nat) (F:Fn) (fo:Ev) (fs:Ro->Out (List Sl)) (ρ:Ro):Out Rv:=(fo ρ).bind λd=>match d with
 | .ins c' xs=>if c'=c then (fs ρ).bind λss=>if ss.length+1=n then F (.sh (.ins c' xs)::ss) else .bad else .bad
 | _=>.bad
theorem j3Q {pl:Sem Bool} (he:DE T X o fo) (cls:Cls X.K (T.ca c)) (hm:Meth X.K (T.ca c) m f) (hmf:m∉T.fl c) (FO:q0M X.prog X.w X.K X.mg X.base (CXE T X.prog X.w) k f fd ps (spD T X.K ps.length F)) (hr:Room k X.A) (hb:Binds X.K fd ps []) (hn:n=ps.length) (ha:DG T X (e::es) fs)
 (hst:starEach (e::es) X.env=(false,eval e X.env)::starEach es X.env:=by exact q0B rfl) (hpl:(backTo pos (starEach es X.env)).any (·.1)=false:=by exact q0F rfl)
 (ht:eval (.Call (.Attribute o m apos) (e::es) [] pos) X.env=(do
  let ov <-eval o X.env
  standAt apos.atName
  let (f,first) <-holding [ov] (getMethod ov m pl)
  callWith pos f first (backTo pos (starEach (e::es) X.env)) (backToKw pos (keywordEach [] X.env))):=by rfl) :
 DR T X (.Call (.Attribute o m apos) (e::es) [] pos) (j6h (n:=n) c F fo fs):=.mk λG E hp=>by
 rintro pins s σ H Q I ⟨ρ,fr,h⟩
 refine PySem.W.methodCall_KW (pl:=pl) (thn (he.run G E hp pins s σ H (λx H1=>∃ds,Same H H1/\Rep T X.K H1 (.ins c ds) x/\Acc T X E σ H1 ((fs ρ).bind λss=>if ss.length+1=n then F (.sh (.ins c ds)::ss) else .bad) (λr=>∀v H',Same H1 H'->q5H T X.K H1 H' v r->Q v H')) I ⟨ρ,fr,?_⟩) λu s1 ⟨x,H1,I1,rx,ds,sm,rp,q⟩=>?_) ht
 ·refine Acc.mono (Acc.bind h) λd _ hd v H1 s1 r1=>?_
  cases d with
  | ins c' xs=>
   have hd:Acc T X E σ H (if c'=c then (fs ρ).bind λss=>if ss.length+1=n then F (.sh (.ins c' xs)::ss) else .bad else .bad) _:=hd
   by_cases hc:c'=c
   ·subst hc
    rw [if_pos rfl] at hd
    exact ⟨xs,s1,r1,Acc.mono (Acc.heap s1 hd) λr _ hr' v H' s2 r2=>hr' v H' (s1.trans s2) (q4p s1 r2)⟩
   ·rw [if_neg hc] at hd;exact hd.elim
  | _=>exact hd.elim
 ·obtain ⟨a,dx,fl,rfl,ha',hf,rl⟩:=id rp
  obtain rfl:u=Value.ref a:=rx
  refine q3q (X:=X.wish E) I1 ha' cls hm (q1Y (by rw [hf];exact hmf)) ?_
  refine PySem.W.callWith_K (first:=[.ref a]) (h₀:=X.base) I.ok.mod.kin hm.kp (thn (ha.run G E hp pos pins s1 σ H1 (λvs H2=>∃ss,ArgsOk T X.K H2 vs ss/\ss.length+1=n/\Same H1 H2/\Acc T X E σ H2 (F (.sh (.ins c ds)::ss)) (λr=>∀v H',Same H2 H'->q5H T X.K H2 H' v r->Q v H')) I1 ⟨ρ,fr.mono sm,?_⟩) λus s2 ⟨vs,H2,I2,r,ss,ha2,hl2,s2',q2⟩=>⟨I2.kIn,?_⟩) hst hpl
  ·refine Acc.mono (Acc.bind q) λss _ hss vs H2 s2 r2=>?_
   by_cases hl:ss.length+1=n
   ·rw [if_pos hl] at hss
    exact ⟨ss,r2,hl,s2,Acc.mono (Acc.heap s2 hss) λr _ hr' v H' s3 r3=>hr' v H' (s2.trans s3) (q4p s2 r3)⟩
   ·rw [if_neg hl] at hss;exact hss.elim
  ·have la:=ArgsOk.length ss vs ha2
   have lr:=r.length
   exact j4V (X:=X) (us:=.ref a::us) (vs:=.ref a::vs) (dvs:=[]) (ds:=[]) FO hr hb .nil I2 (.cons rfl r) (by rw [List.append_nil];exact ⟨_,vs,rfl,Rep.mono s2' _ _ rp,ha2⟩) (by simp only [List.length_append,List.length_cons,List.length_nil];omega) q2
end
open Sem (wp)
theorem q61:typeLookup (.type "str") "__int__" = pure none:=by rw [typeLookup_type,builtinLookup_eq_fast];kernel_rfl
theorem q4G:typeLookup (.type "str") "__index__" = pure none:=by rw [typeLookup_type,builtinLookup_eq_fast];kernel_rfl
theorem q4e:typeLookup (.type "str") "__trunc__" = pure none:=by rw [typeLookup_type,builtinLookup_eq_fast];kernel_rfl
noncomputable def dgV (c:Nat):Option Nat:=
 if 48<=c && c<=57 then some (c-48)
 else if 97<=c && c<=122 then some (c-87)
 else if 65<=c && c<=90 then some (c-55)
 else none
noncomputable def blk (c:Nat):Bool:=c==32 || (9<=c && c<=13)
noncomputable def dgS (base:Nat) (cs:List Nat):Option (Array Nat):=do
 let (ds,afterDigit) <-cs.foldlM (init:=((#[]:Array Nat),false)) λ(ds,afterDigit) c=>
  if c==95 then (if afterDigit then some (ds,false) else none)
  else match dgV c with
   | some d=>if d < base then some (ds.push d,true) else none
   | none=>none
 if afterDigit then some ds else none
noncomputable def pfx:List Nat->Option Nat
 | 48::c::_=>
  if c==120 || c==88 then some 16 else if c==111 || c==79 then some 8 else if c==98 || c==66 then some 2 else none
 | _=>none
noncomputable def sgn (t:List Nat):Bool×List Nat:=match t with
 | 45::r=>(true,r)
 | 43::r=>(false,r)
 | _=>(false,t)
noncomputable def pr2 (t:List Nat):List Nat:=match t.drop 2 with
 | 95::r=>r
 | r=>r
noncomputable def rdN {N:Type} (inv:N) (tl:Nat->N) (lib:N) (val:Int->N) (limit base:Nat) (text:List Nat):N:=
 let t:=text.dropWhile blk
 let (negative,t):=sgn t
 let afterPrefix:=pr2 t
 let (b,zeroOnly,t):=match pfx t with
  | some p=>if base==0 || base==p then (p,false,afterPrefix) else (base,false,t)
  | none=>if base==0 then (10,t.head?==some 48,t) else (base,false,t)
 match dgS b (t.reverse.dropWhile blk).reverse with
 | none=>inv
 | some ds=>
  if ![2,4,8,16,32].contains b && limit != 0 && ds.size > limit then tl ds.size else
  if b==10 && ds.size > 6000 then lib else
  let n:=ds.foldl (λacc d=>acc*b+d) 0
  if zeroOnly && n != 0 then inv else val (if negative then -(n:Int) else n)
noncomputable def rd0 {N:Type} (inv:N) (tl:Nat->N) (lib:N) (val:Int->N) (limit base:Nat) (text:List Nat):N:=
 let t:=text.dropWhile blk
 let (negative,t):=match t with
  | 45::r=>(true,r)
  | 43::r=>(false,r)
  | _=>(false,t)
 let afterPrefix:=match t.drop 2 with
  | 95::r=>r
  | r=>r
 let (b,zeroOnly,t):=match pfx t with
  | some p=>if base==0 || base==p then (p,false,afterPrefix) else (base,false,t)
  | none=>if base==0 then (10,t.head?==some 48,t) else (base,false,t)
 match dgS b (t.reverse.dropWhile blk).reverse with
 | none=>inv
 | some ds=>
  if ![2,4,8,16,32].contains b && limit != 0 && ds.size > limit then tl ds.size else
  if b==10 && ds.size > 6000 then lib else
  let n:=ds.foldl (λacc d=>acc*b+d) 0
  if zeroOnly && n != 0 then inv else val (if negative then -(n:Int) else n)
theorem q6q {N:Type} (inv:N) (tl:Nat->N) (lib:N) (val:Int->N) (limit base:Nat) (text:List Nat):rd0 inv tl lib val limit base text=rdN inv tl lib val limit base text:=by
 unfold rd0 rdN sgn pr2
 rfl
noncomputable def figs (cs:List Nat):Bool:=cs.all λc=>decide (48<=c) && decide (c<=57)
noncomputable def j01 (cs:List Nat):Nat:=cs.foldl (λacc c=>acc*10+(c-48)) 0
theorem q3p {cs:List Nat} (h:figs cs=true) {c:Nat} (hc:c∈cs):48<=c/\c<=57:=by
 have:=List.all_eq_true.mp h c hc
 simpa using this
theorem j14:∀(cs:List Nat),figs cs=true->∀(ds:Array Nat) (a:Bool),(cs.foldlM (init:=(ds,a)) λ(x:Array Nat×Bool) c=>
 (if c==95 then (if x.2 then some (x.1,false) else none) else match dgV c with | some d=>if d < 10 then some (x.1.push d,true) else none | none=>none:Option (Array Nat×Bool)))=some ((ds.toList++cs.map (· - 48)).toArray,a || !cs.isEmpty)
 | [],_,ds,a=>by simp
 | c::cs,h,ds,a=>by
  have hc:=q3p h (c:=c) (by simp)
  have hr:figs cs=true:=by
   unfold figs at h ⊢
   rw [List.all_cons,Bool.and_eq_true] at h
   exact h.2
  have e1:(c==95)=false:=by simp;omega
  have e2:dgV c=some (c-48):=by unfold dgV;rw [if_pos (by simp;omega)]
  have e3:c-48 < 10:=by omega
  rw [List.foldlM_cons]
  simp only [e1,e2,e3,Bool.false_eq_true,if_false,if_true]
  show ((some (ds.push (c-48),true):Option _) >>= _)=_
  rw [Option.bind_eq_bind,Option.bind_some,j14 cs hr]
  simp
theorem q9s {cs:List Nat} (h:figs cs=true) (hn:cs≠[]):dgS 10 cs=some (cs.map (· - 48)).toArray:=by
 unfold dgS
 have:=j14 cs h #[] false
 have e:(!cs.isEmpty)=true:=by cases cs<;>simp at hn ⊢
 show (cs.foldlM (init:=((#[]:Array Nat),false)) _ >>= _)=_
 rw [show (cs.foldlM (init:=((#[]:Array Nat),false)) λ(x:Array Nat×Bool) c=>(match x with | (ds,afterDigit)=>if c==95 then (if afterDigit then some (ds,false) else none) else match dgV c with | some d=>if d < 10 then some (ds.push d,true) else none | none=>none:Option (Array Nat×Bool)))=_ from this]
 simp [e]
theorem q6d {cs:List Nat} (h:figs cs=true):cs.dropWhile blk=cs:=by
 cases cs with
 | nil=>rfl
 | cons c cs=>
  have hc:=q3p h (c:=c) (by simp)
  have:blk c=false:=by unfold blk;simp;omega
  rw [List.dropWhile_cons,this]
  rfl
theorem q9N {cs:List Nat} (h:figs cs=true):figs cs.reverse=true:=by
 unfold figs at *
 rw [List.all_reverse];exact h
theorem q97 {N:Type} (inv:N) (tl:Nat->N) (lib:N) (val:Int->N) {cs:List Nat} (h:figs cs=true) (hn:cs≠[]) (hl:cs.length<=600):rdN inv tl lib val 0 10 cs=val (j01 cs):=by
 have e0:=q6d h
 have e1:(cs.reverse.dropWhile blk).reverse=cs:=by rw [q6d (q9N h),List.reverse_reverse]
 have e2:=q9s h hn
 have e3:pfx cs=none:=by
  unfold pfx
  split
  ·rename_i c r
   have hc:=q3p h (c:=c) (by simp)
   rw [if_neg (by simp;omega),if_neg (by simp;omega),if_neg (by simp;omega)]
  ·rfl
 have sg:sgn cs=(false,cs):=by
  cases cs with
  | nil=>rfl
  | cons c r=>
   have hc:=q3p h (c:=c) (by simp)
   unfold sgn
   split
   ·rename_i e;cases e;omega
   ·rename_i e;cases e;omega
   ·rfl
 unfold rdN
 simp only [e0,sg,e3]
 rw [show ((10:Nat)==0)=false from rfl]
 simp only [Bool.false_eq_true,if_false,e1,e2]
 have s1:(cs.map (· - 48)).toArray.size=cs.length:=by simp
 rw [s1]
 rw [if_neg (by simp),if_neg (by simp;omega),if_neg (by simp)]
 congr 2
 rw [j01]
 simp [List.foldl_map]
theorem q8R:∀{cs:List Nat},figs cs=true->cs.takeWhile (λc=>c != 0)=cs
 | [],_=>rfl
 | c::cs,h=>by
  have hc:=q3p h (c:=c) (by simp)
  have hr:figs cs=true:=by
   unfold figs at h ⊢
   rw [List.all_cons,Bool.and_eq_true] at h
   exact h.2
  have e:(c != 0)=true:=by simp;omega
  rw [List.takeWhile_cons,e]
  simp [q8R hr]
set_option maxHeartbeats 2000000 in
theorem q3N (x:Str) (u:Tok) (h:figs x.cps.toList=true) (hn:x.cps.toList≠[]) (hl:x.length<=600):Meets (Builtin.«int.__new__» ⟨[.type "int",.str x u],[]⟩) (Made.int (j01 x.cps.toList)).spec:=
 Meets.of_wp λprog w A R s hs=>by
  obtain ⟨hp,g,d,tk,os⟩:=s
  have f1:=F.conv_sub_int
  have f2:=F.madeHere_int
  have hT:(⟨hp,g,d,tk,os⟩:Shared).TypeIs (.str x u) "str":=rfl
  have g1:=q61
  have g2:=q4G
  have g3:=q4e
  have a1:(x.cps.all λc=>decide (c < 128))=true:=by
   rw [<-Array.all_toList,List.all_eq_true]
   intro c hc
   have:=q3p h hc
   simp;omega
  have a2:List.takeWhile (λc=>c != 0) x.cps.toList=x.cps.toList:=q8R h
  have a4:x.cps.toList.length=x.length:=by simp [Str.length]
  have a3:x.cps.toList.length<=640:=by omega
  have rd:∀{N:Type} (inv:N) (tl:Nat->N) (lib:N) (val:Int->N),rdN inv tl lib val 0 10 x.cps.toList=val (j01 x.cps.toList):=λinv tl lib val=>q97 inv tl lib val h hn (by omega)
  repeat (any_goals (first | assumption | wp_step))
  all_goals (rw [a1];simp only [if_true,a2,if_pos a3,pure_bind])
  split
  ·rename_i m heq
   have h2:=(show rd0 _ _ _ _ 0 10 x.cps.toList=_ from heq)
   rw [q6q,rd] at h2
   cases h2
  ·rename_i heq
   have h2:=(show rd0 _ _ _ _ 0 10 x.cps.toList=_ from heq)
   rw [q6q,rd] at h2
   cases h2
  ·rename_i i heq
   have h2:=(show rd0 _ _ _ _ 0 10 x.cps.toList=_ from heq)
   rw [q6q,rd] at h2
   cases h2
   rw [if_pos (by simp)]
   repeat (any_goals (first | assumption | wp_step))
   all_goals first | exact ⟨_,rfl,hs⟩ | skip
  ·rename_i heq
   have h2:=(show rd0 _ _ _ _ 0 10 x.cps.toList=_ from heq)
   rw [q6q,rd] at h2
   cases h2
section
variable {X:Cx}
theorem q8l:q2f X (.type "int") (λxs H Q=>∃x,xs=[.str x]/\figs x.cps.toList=true/\x.cps.toList≠[]/\x.length<=600/\Q (.int (j01 x.cps.toList)) H):=by
 intro pins s σ H xs us Q I rv h
 obtain ⟨x,rfl,h1,h2,h3,q⟩:=h
 obtain ⟨u,rfl,ru⟩:=rv.one
 obtain ⟨t,rfl⟩:=ru
 refine call_int_1 (q3N x t h1 h2 h3) (show (Made.int (j01 x.cps.toList)).post _ s from ⟨rfl,?_⟩)
 exact ⟨.int _,H,I.tok _,⟨_,rfl⟩,q⟩
end
end L3
namespace L3
open PySem PySem.Spec PyProof.Rows L2
section
variable {T:Tb} {X:Cx} {e o:Expr} {es:List Expr} {pos cpos apos p:Pos} {fe fo:Ev} {fs:Ro->Out (List D)}
@[simp] noncomputable def q6y:List D->Out D
 | [.int i]=>.ok (.int i)
 | [.bl b]=>.ok (.int (if b then 1 else 0))
 | [.str x]=>if figs x.cps.toList=true/\x.cps.toList≠[]/\x.length<=600 then .ok (.int (j01 x.cps.toList)) else .bad
 | _=>.bad
theorem q3X:CaD T X (.type "int") q6y:=λE=>⟨λvs H Q=>((∃i,vs=[.int i]/\Q (.int i) H)∨∃k,vs=[.bl k]/\Q (.int (if k then 1 else 0)) H)∨∃x,vs=[.str x]/\figs x.cps.toList=true/\x.cps.toList≠[]/\x.length<=600/\Q (.int (j01 x.cps.toList)) H,
 λpins s σ H xs us Q I rv h=>h.elim (λh=>q8M (X:=X.wish E) pins s σ H xs us Q I rv h) (λh=>q8l (X:=X.wish E) pins s σ H xs us Q I rv h),λds vs σ H Q r h=>by
 unfold q6y at h
 split at h
 ·rename_i i
  obtain ⟨v,rfl,rv⟩:=r.one
  exact .inl (.inl ⟨i,by rw [show v=V.int i from rv],h _ H (Same.refl H) rfl⟩)
 ·rename_i b
  obtain ⟨v,rfl,rv⟩:=r.one
  exact .inl (.inr ⟨b,by rw [show v=V.bl b from rv],h _ H (Same.refl H) rfl⟩)
 ·rename_i x
  obtain ⟨v,rfl,rv⟩:=r.one
  by_cases c:figs x.cps.toList=true/\x.cps.toList≠[]/\x.length<=600
  ·rw [if_pos c] at h
   exact .inr ⟨x,by rw [show v=V.str x from rv],c.1,c.2.1,c.2.2,h _ H (Same.refl H) rfl⟩
  ·rw [if_neg c] at h;exact h.elim
 ·exact h.elim⟩
noncomputable def q19:List D->Option (List Str)
 | []=>some []
 | .str x::ds=>(match q19 ds with | some xs=>some (x::xs) | none=>none)
 | _=>none
theorem q2h {K:PySem.W.Frag} {H:Hp}:∀{ds:List D} {xs:List Str} {vs:List V},q19 ds=some xs->RepL T K H ds vs->vs=xs.map V.str
 | [],xs,vs,h,r=>by cases h;exact r
 | d::ds,xs,vs,h,r=>by
  cases d with
  | str b=>
   have h:(match q19 ds with | some bs=>some (b::bs) | none=>none)=some xs:=h
   cases q:q19 ds with
   | none=>rw [q] at h;cases h
   | some bs'=>
    rw [q] at h;cases h
    obtain ⟨v,r',rfl,r1,r2⟩:=r
    rw [q2h q r2,show v=V.str b from r1];rfl
  | _=>cases h
theorem q6u:∀{xs:List Str} {us:List Value},Vals (xs.map V.str) us->∃l:List (Str×Tok),us=strValues l/\l.map (·.1)=xs
 | [],_,.nil=>⟨[],rfl,rfl⟩
 | x::xs,_,.cons r t=>by
  obtain ⟨l,rfl,e⟩:=q6u t
  obtain ⟨k,rfl⟩:=r
  exact ⟨(x,k)::l,rfl,by rw [List.map_cons,e]⟩
noncomputable def q9c:D->List D->Out D
 | .str x,[.lst ds]=>(match q19 ds with | some ts=>if JoinOk x ts=true then .ok (.str (Txt.join x ts)) else .bad | none=>.bad)
 | _,_=>.bad
theorem j3h:MtD T X "str" "str.join" q9c:=λE=>by
 refine ⟨λv vs H Q=>∃x a ts,v=.str x/\vs=[.ref a]/\SqL X.K H a (ts.map V.str)/\JoinOk x ts=true/\Q (.str (Txt.join x ts)) H,?_,?_⟩
 ·intro pins s σ H x xs v us Q I rx rv h
  obtain ⟨z,a,ts,rfl,rfl,hq,ok,q⟩:=h
  obtain ⟨t,rfl⟩:=rx
  obtain ⟨u,rfl,ru⟩:=rv.one
  cases ru
  obtain ⟨its,r,pl,hz⟩:=I.list hq
  obtain ⟨l,rfl,e⟩:=q6u r
  exact SC.join pl.isList e ok λt' k=>⟨.str _,H,I.tok k,⟨t',rfl⟩,q⟩
 ·intro d ds v vs σ H Q rd rl q
  unfold q9c at q
  split at q
  ·rename_i x ds'
   obtain ⟨w,rfl,a,ws,rfl,fz,rl'⟩:=rl.one
   cases e:q19 ds' with
   | none=>rw [e] at q;exact q.elim
   | some ts=>
    rw [e] at q
    have q:Acc T X E σ H (if JoinOk x ts=true then .ok (.str (Txt.join x ts)) else .bad) (kE T X.K H Q):=q
    obtain rfl:=q2h e rl'
    by_cases c:JoinOk x ts=true
    ·rw [if_pos c] at q
     exact ⟨x,a,ts,rd,rfl,fz.sq,c,q _ H (Same.refl H) rfl⟩
    ·rw [if_neg c] at q;exact q.elim
  ·exact q.elim
end
theorem q1S:∀{is:List Int} {us:List Value},Vals (is.map V.int) us->∃l:List (Int×Tok),us=l.map (λp=>Value.int p.1 p.2)/\l.map (·.1)=is
 | [],_,.nil=>⟨[],rfl,rfl⟩
 | x::xs,_,.cons r t=>by
  obtain ⟨l,rfl,e⟩:=q1S t
  obtain ⟨k,rfl⟩:=r
  exact ⟨(x,k)::l,rfl,by rw [List.map_cons,e]⟩
noncomputable def q0R (gt:Bool) (is:List Int):Int:=is.getD (argBest (λi j=>if gt then decide (is.getD i 0 > is.getD j 0) else decide (is.getD i 0 < is.getD j 0)) (is.length-1)) 0
section
variable {X:Cx}
theorem q5m (l:List (Int×Tok)) (i:Nat):numAt l.toArray i=(l.map (·.1)).getD i 0:=by
 unfold numAt
 rw [List.getD_eq_getElem?_getD,List.getElem?_map]
 simp
theorem q8k (hc:X.calm=true):q2f X (.builtin "max") (λxs H Q=>∃(a:Addr) (is:List Int),xs=[.ref a]/\SqL X.K H a (is.map V.int)/\is≠[]/\Q (.int (q0R true is)) H):=by
 intro pins s σ H xs us Q I rv h
 obtain ⟨a,is,rfl,hq,hne,q⟩:=h
 obtain ⟨u,rfl,ru⟩:=rv.one
 cases ru
 obtain ⟨its,r,pl,hz⟩:=I.list hq
 obtain ⟨l,rfl,e⟩:=q1S r
 have hi:(l.map λp=>Value.int p.1 p.2).toArray=intItems l.toArray:=by simp [intItems]
 have hl:s.heap.IsList a (intItems l.toArray):=hi ▸ pl.isList
 refine max_intList (I.ok.hd hc) hl (by subst e;cases l with | nil=>exact absurd rfl hne | cons _ _=>simp) λv h' tk hv hk=>?_
 obtain ⟨t,rfl⟩:=intItems_at hv
 refine ⟨.int (q0R true is),H,I.kept (t':=tk) hk,⟨t,?_⟩,q⟩
 subst e
 congr 1
 unfold q0R
 rw [q5m]
 simp only [if_true,List.length_map]
 congr 2
 ·funext i j;rw [q5m,q5m]
end
section
variable {T:Tb} {X:Cx}
noncomputable def q44:List D->Out D
 | [.lst ds]=>(match q3k ds with | some is=>if is≠[] then .ok (.int (q0R true is)) else .bad | none=>.bad)
 | _=>.bad
theorem q4U (hc:X.calm=true):CaD T X (.builtin "max") q44:=λE=>⟨_,q8k hc,λds vs σ H Q r h=>by
 unfold q44 at h
 split at h
 ·rename_i ds'
  obtain ⟨v,rfl,a,ws,rfl,fz,rl⟩:=r.one
  cases q:q3k ds' with
  | none=>rw [q] at h;exact h.elim
  | some is=>
   rw [q] at h
   have h:Acc T X E σ H (if is≠[] then .ok (.int (q0R true is)) else .bad) (kE T X.K H Q):=h
   by_cases c:is≠[]
   ·rw [if_pos c] at h
    obtain rfl:=q25 q rl
    exact ⟨a,is,rfl,fz.sq,c,h _ H (Same.refl H) rfl⟩
   ·rw [if_neg c] at h;exact h.elim
 ·exact h.elim⟩
end
section
variable {T:Tb} {X:Cx} {elt iter:Expr} {x:Str} {px pos:Pos} {scope:Scope} {ys:List Str} {caps:List Nat} {fe:Ev} {ft:Ro->Out Bool} {tst:Expr} {cl:List (Str×Addr)} {pins:List (Addr×Obj)} {σ:L2.St} {G H2:Hp} {s2:Shared} {J:It} {fp:List Addr} {it:Addr} {tn:Nat->Heap->Prop} {ρ:Ro} {ds es:List D}
end
section
variable {T:Tb} {X:Cx} {elt iter tst:Expr} {x:Str} {px pos spos py:Pos} {scope:Scope} {ys:List Str} {caps:List Nat} {fe:Ev} {ft:Ro->Out Bool} {fl:Ro->Out (List D)}
variable {ib:Bool} {y:Str}
end
section
variable {X:Cx}
noncomputable def rLE (K:PySem.W.Frag) (neg:Bool):R2:=λx y H Q=>∃(a b:Addr) (xs:List V),x=.ref a/\y=.ref b/\SqL K H a xs/\SqL K H b []/\Q (.bl (if neg then !xs.isEmpty else xs.isEmpty)) H
theorem j3Y (hu:X.A.units < cLine):OpR X (compareOp .NotEq) (rLE X.K true):=by
 intro pins s σ H x y v u Q I rx ry h
 obtain ⟨a,b,xs,rfl,rfl,h1,h2,q⟩:=h
 cases rx
 cases ry
 obtain ⟨its,r,pl,hz⟩:=I.list h1
 obtain ⟨its2,r2,pl2,hz2⟩:=I.list h2
 cases r2
 cases xs with
 | nil=>
  cases r
  exact SeqAt.RcNeAt.lists (e:=λ_=>true) pl.isList pl2.isList rfl hu (λj h1=>by simp at h1) X.prog X.w X.xe _ ⟨.bl false,H,I,rfl,q⟩
 | cons x xs=>
  cases r
  exact SeqAt.RcNeAt.lists_lengths pl.isList pl2.isList (by simp) hu X.prog X.w X.xe _ ⟨.bl true,H,I,rfl,q⟩
end
section
variable {T:Tb} {X:Cx} {e o:Expr} {es:List Expr} {cpos apos:Pos} {fe fo:Ev} {fs:Ro->Out (List D)}
noncomputable def j9R (neg:Bool):D->D->Out D
 | .lst ds,.lst []=>.ok (.bl (if neg then !ds.isEmpty else ds.isEmpty))
 | _,_=>.bad
theorem j69 (neg:Bool) (op:CmpOp) (h:∀E,OpR (X.wish E) (compareOp op) (rLE X.K neg)):OpD T X (compareOp op) (j9R neg):=λE=>⟨_,h E,λdx dy x y σ H Q rx ry q=>by
 cases dx with
 | lst ds=>
  cases dy with
  | lst ds2=>
   cases ds2 with
   | nil=>
    obtain ⟨a,us,rfl,s1,r1⟩:=rx
    obtain ⟨b,us2,rfl,s2,r2⟩:=ry
    cases r2
    have hl:=RepL.length _ _ r1
    have he:us.isEmpty=ds.isEmpty:=by cases us<;>cases ds<;>first | rfl | (simp at hl)
    exact ⟨a,b,us,rfl,rfl,s1.sq,s2.sq,by rw [he];exact q _ H (Same.refl H) rfl⟩
   | cons _ _=>exact q.elim
  | _=>exact q.elim
 | _=>first | exact q.elim | (cases dy<;>exact q.elim)⟩
theorem j4q {k:Nat} (hr:Room k X.A):OpD T X (compareOp .NotEq) (j9R true):=j69 true .NotEq λE=>j3Y (X:=X.wish E) hr.units0
end
section
variable {T:Tb} {X:Cx} {o:Expr} {cpos apos:Pos} {fo:Ev}
end
theorem Inv.unfrz {X:Cx} {pins:List (Addr×Obj)} {σ:L2.St} {H:Hp} {s:Shared} {b:Addr} {ws:List V} (I:Inv X pins σ H s) (h:H b=some (.lst ws)):∀o u,X.H₀ b≠some (.frz o u):=λo u z=>by
 have:=I.base.frzs b o u z
 rw [h] at this;cases this
theorem Inv.thaw {X:Cx} {pins:List (Addr×Obj)} {σ:L2.St} {H:Hp} {s:Shared} {b:Addr} {ws:List V} {o:Obj} (I:Inv X pins σ H s) (h:H b=some (.frz o (.lst ws))) (hx:∀o u,X.H₀ b≠some (.frz o u)):Inv X pins σ (upd H b (.lst ws)) s:=by
 have no:∀c,H c=none->upd H b (.lst ws) c=none:=λc q=>by
  rw [q0i (λz=>by rw [z,h] at q;cases q)];exact q
 have own:∀c y,H c=some (.own y)->upd H b (.lst ws) c=some (.own y):=λc y q=>by
  rw [q0i (λz=>by rw [z,h] at q;cases q)];exact q
 have tup:∀c xs,H c=some (.tup xs)->upd H b (.lst ws) c=some (.tup xs):=λc y q=>by
  rw [q0i (λz=>by rw [z,h] at q;cases q)];exact q
 refine ⟨I.ok,I.os,I.bare,⟨I.base.keep,I.base.slot,λc ob e n q=>no c (I.base.free c ob e n q),I.base.there,λc xs e=>tup c xs (I.base.tups c xs e),λc ob u e=>?_,λc ps e=>?_⟩,I.loc,I.cell,no _ I.free,λx c e=>no c (I.freeC x c e),λp hp=>?_,λc u e=>?_,I.len⟩
 ·have q:=I.base.frzs c ob u e
  rw [q0i (λz=>by subst z;exact hx ob u e)];exact q
 ·obtain ⟨more,q⟩:=I.base.tbls c ps e
  exact ⟨more,by rw [q0i (λz=>by rw [z,h] at q;cases q)];exact q⟩
 ·obtain ⟨p1,p2,p3⟩:=I.pin p hp
  exact ⟨p1,no _ p2,p3⟩
 ·by_cases hc:c=b
  ·subst hc
   rw [q0p] at e;cases e
   exact ((I.hok _ _ h).2).stay (λ_ _ _ q=>q) (λc=>own c _) tup
  ·rw [q0i hc] at e
   exact (I.hok c u e).stay (λ_ _ _ q=>q) (λc=>own c _) tup
theorem q4L {H H':Hp} {b:Addr} {ws:List V} {o:Obj} (h:H b=some (.lst ws)) (s1:Same (upd H b (.frz o (.lst ws))) H'):Same H (upd H' b (.lst ws)):=λc u e=>by
 by_cases hc:c=b
 ·subst hc;rw [q0p,<-h];exact e
 ·rw [q0i hc];exact s1 c u (by rw [q0i hc];exact e)
theorem XW.thaw {T:Tb} {X:Cx} {E:Value->Shared->Prop} {σ:L2.St} {H:Hp} {c:Nat} {b:Addr} {ws:List V} {o:Obj} (h:XW T X E σ H c) (hb:H b=some (.lst ws)) (hx:∀o u,X.H₀ b≠some (.frz o u)):XW T X E σ (upd H b (.frz o (.lst ws))) c:=λpins s u H' I sm fl=>by
 have hb':H' b=some (.frz o (.lst ws)):=sm b _ q0p
 have no:∀c,H' c=none->upd H' b (.lst ws) c=none:=λc q=>by
  rw [q0i (λz=>by rw [z,hb'] at q;cases q)];exact q
 refine h pins s u _ (Inv.thaw I hb' hx) (q4L hb sm) ?_
 obtain ⟨ea,rfl,h1,h2,nc,oe,vs,a0,he,hc,hd,h0,ht⟩:=fl
 refine ⟨ea,rfl,no _ h1,h2,nc,oe,vs,a0,he,hc,hd,h0,?_⟩
 rcases ht with ht | ⟨tb,ot,ts,t1,t2,t3,t4,t5,t6,t7⟩
 ·exact .inl ht
 ·exact .inr ⟨tb,ot,ts,t1,t2,t3,t4,t5,no _ t6,t7⟩
mutual
noncomputable def nl:D->Bool
 | .lst _=>false
 | .tup ds=>nlL ds
 | .ins _ ds=>nlL ds
 | _=>true
noncomputable def nlL:List D->Bool
 | []=>true
 | d::ds=>nl d && nlL ds
end
mutual
theorem Rep.thaw {T:Tb} {K:PySem.W.Frag} {H:Hp} {b:Addr} {ws:List V} {o:Obj} {u:HO} (h:H b=some (.frz o (.lst ws))):∀(d:D) (v:V),nl d=true->Rep T K H d v->Rep T K (upd H b u) d v
 | .non,_,_,q=>q
 | .bl _,_,_,q=>q
 | .int _,_,_,q=>q
 | .str _,_,_,q=>q
 | .tup ds,_,n,q=>by
  obtain ⟨a,vs,r1,r2,r3⟩:=q
  refine ⟨a,vs,r1,?_,RepL.thaw h ds vs n r3⟩
  rcases r2 with (r2 | ⟨o',r2⟩) | r2
  ·exact .inl (.inl (by rw [q0i (λz=>by rw [z,h] at r2;cases r2)];exact r2))
  ·exact .inl (.inr ⟨o',by rw [q0i (λz=>by rw [z,h] at r2;cases r2)];exact r2⟩)
  ·exact .inr r2
 | .lst ds,_,n,_=>by cases n
 | .ins c ds,_,n,q=>by
  obtain ⟨a,dx,fs,r1,r2,r3,r4⟩:=q
  exact ⟨a,dx,fs,r1,by rw [q0i (λz=>by rw [z,h] at r2;cases r2)];exact r2,r3,RepL.thaw h ds _ n r4⟩
 | .exc c,_,_,q=>by
  obtain ⟨a,o',r1,r2,r3⟩:=q
  exact ⟨a,o',r1,by rw [q0i (λz=>by rw [z,h] at r2;cases r2)];exact r2,r3⟩
theorem RepL.thaw {T:Tb} {K:PySem.W.Frag} {H:Hp} {b:Addr} {ws:List V} {o:Obj} {u:HO} (h:H b=some (.frz o (.lst ws))):∀(ds:List D) (vs:List V),nlL ds=true->RepL T K H ds vs->RepL T K (upd H b u) ds vs
 | [],_,_,q=>q
 | d::ds,_,n,q=>by
  obtain ⟨v,r,r1,r2,r3⟩:=q
  have n:(nl d && nlL ds)=true:=n
  rw [Bool.and_eq_true] at n
  exact ⟨v,r,r1,Rep.thaw h d v n.1 r2,RepL.thaw h ds r n.2 r3⟩
end
@[simp] noncomputable def vwR (i:Nat) (ρ:Ro):Ro:=match ρ[i]? with
 | some (.ox t pre ds post)=>ρ.set i (.sh (mkO t (pre++.lst ds::post)))
 | _=>ρ
section
variable {T:Tb} {ib:Bool} {X:Cx} {e:Expr} {f:Ro->Out Bool} {fe:Ev} {ff:Ro->Out (List D)}
theorem look {α:Type} {G H:Hp} {E:Value->Shared->Prop} {σ:L2.St} {ρ:Ro} {pins:List (Addr×Obj)} {s:Shared} (i:Nat) {g:Ro->Out α} {k:α->Prop} (I:Inv (X.wish E) pins σ H s) (fr:FR T X.K G H σ ρ) (q:Acc T X E σ H (g (vwR i ρ)) k) :
 (FR T X.K G H σ ρ/\Acc T X E σ H (g ρ) k/\vwR i ρ=ρ)∨∃(b:Addr) (ws:List V) (o:Obj),H b=some (.lst ws)/\(∀o u,X.H₀ b≠some (.frz o u))/\Inv (X.wish E) pins σ (upd H b (.frz o (.lst ws))) s/\FR T X.K G (upd H b (.frz o (.lst ws))) σ (vwR i ρ)/\Acc T X E σ (upd H b (.frz o (.lst ws))) (g (vwR i ρ)) k:=by
 cases e0:ρ[i]? with
 | none=>left;have z:vwR i ρ=ρ:=by simp [e0]
         rw [z] at q;exact ⟨fr,q,z⟩
 | some w=>
  cases w with
  | ox t pre ds post=>
   right
   obtain ⟨a,vp,b,vq,ws,e1,e2,r1,r2,e3,e4,r3⟩:=fr.sl i _ e0
   obtain ⟨o,I2⟩:=Inv.freeze I e3
   have hx:=Inv.unfrz I.unwish e3
   have z:vwR i ρ=ρ.set i (.sh (mkO t (pre++.lst ds::post))):=by simp [e0]
   refine ⟨b,ws,o,e3,hx,I2,?_,?_⟩
   ·rw [z];exact j5o fr e0 e1 e2 r1 r2 e3 e4 r3
   ·cases eg:g (vwR i ρ) with
    | ok a=>rw [eg] at q;exact q
    | exc c=>rw [eg] at q;exact XW.thaw q e3 hx
    | bad=>rw [eg] at q;exact q
  | _=>left;have z:vwR i ρ=ρ:=by simp [e0]
       rw [z] at q;exact ⟨fr,q,z⟩
end
section
variable {T:Tb} {ib:Bool} {X:Cx} {e:Expr} {es:List Expr} {pos p:Pos} {fe:Ev} {fs:Ro->Out (List D)} {fr':Ro->Out Rv} {x:Str}
end
section
variable {T:Tb} {ib:Bool} {X:Cx} {e:Expr} {pos p:Pos} {fr':Ro->Out Rv} {x:Str}
end
section
variable {T:Tb} {K:PySem.W.Frag} {G H:Hp} {σ:L2.St} {ρ:Ro}
end
section
variable {T:Tb} {ib:Bool} {X:Cx} {e b:Expr} {pos p p2 p3 pc ps:Pos} {fe fb:Ev} {x:Str} {c:Int} {j:Nat}
end
section
variable {P:Program} {w:World} {A:Around}
noncomputable abbrev two (x:Value) (c:Nat):Obj:=⟨.type "list",none,.seq #[x,x] c,#[]⟩
end
open AutoSeq1 (wpAny_loadPart')
open SeqAt
end L3
namespace L3
open PySem PySem.Spec PyProof.Rows L2
section
variable {X:Cx}
end
section
variable {T:Tb} {X:Cx}
end
section
variable {T:Tb} {ib:Bool} {X:Cx} {e b:Expr} {pos pos' p p2:Pos} {fe fb:Ev} {x:Str}
end
section
variable {X:Cx}
end
section
variable {T:Tb} {X:Cx}
end
section
variable {K:Type} [DecidableEq K]
noncomputable def inK (σ:List K) (k:K):Bool:=σ.any λx=>decide (x=k)
noncomputable def q1y (σ:List K) (k:K):List K:=if inK σ k=true then σ else σ++[k]
noncomputable def dk (ks:List K):List K:=ks.foldl q1y []
theorem j3V (ks:List K) (k:K):dk (ks++[k])=q1y (dk ks) k:=by
 unfold dk;rw [List.foldl_append];rfl
theorem q2c {σ:List K} {k:K}:inK σ k=true↔k∈σ:=by
 unfold inK;simp
theorem q8U {σ:List K} {v k:K}:k∈q1y σ v↔k∈σ∨k=v:=by
 unfold q1y
 split
 ·rename_i h
  rw [q2c] at h
  constructor
  ·exact .inl
  ·rintro (z | rfl)
   ·exact z
   ·exact h
 ·simp
theorem j0f (σ:List K) (v k:K):inK (q1y σ v) k=(inK σ k || decide (k=v)):=by
 rw [Bool.eq_iff_iff,q2c,q8U,Bool.or_eq_true,q2c,decide_eq_true_eq]
theorem q5C (σ:List K) (v:K):(q1y σ v).length=if inK σ v=true then σ.length else σ.length+1:=by
 unfold q1y
 split<;>simp
theorem q3M:∀(ks σ:List K),(ks.foldl q1y σ).length<=σ.length+ks.length
 | [],σ=>Nat.le_refl _
 | k::ks,σ=>by
  have h1:=q3M ks (q1y σ k)
  have h2:=q5C σ k
  rw [List.foldl_cons,List.length_cons]
  split at h2<;>omega
theorem j6F (ks:List K):(dk ks).length<=ks.length:=by
 have:=q3M ks []
 simpa [dk] using this
theorem q5e {σ:List K} {v:K} (h:σ.Nodup):(q1y σ v).Nodup:=by
 unfold q1y
 split
 ·exact h
 ·rename_i z
  rw [q2c] at z
  rw [List.nodup_append]
  exact ⟨h,by simp,λa ha b hb e=>z (by rw [List.mem_singleton.mp hb] at e;exact e ▸ ha)⟩
theorem q4n:∀(ks σ:List K),(σ++ks).Nodup->ks.foldl q1y σ=σ++ks
 | [],σ,_=>by simp
 | k::ks,σ,h=>by
  have hk:k∉σ:=λz=>by
   rw [List.nodup_append] at h
   exact h.2.2 k z k (by simp) rfl
  have e:q1y σ k=σ++[k]:=by
   unfold q1y
   rw [if_neg (λz=>hk (q2c.mp z))]
  rw [List.foldl_cons,e,q4n ks (σ++[k]) (by simpa using h)]
  simp
theorem q5R:∀(ks σ:List K),¬(σ++ks).Nodup->σ.Nodup->(ks.foldl q1y σ).length < σ.length+ks.length
 | [],σ,h,hs=>absurd (by simpa using hs) h
 | k::ks,σ,h,hs=>by
  by_cases hk:k∈σ
  ·have e:q1y σ k=σ:=by
    unfold q1y
    rw [if_pos (q2c.mpr hk)]
   rw [List.foldl_cons,e,List.length_cons]
   have:=q3M ks σ
   omega
  ·have e:q1y σ k=σ++[k]:=by
    unfold q1y
    rw [if_neg (λz=>hk (q2c.mp z))]
   have:=q5R ks (σ++[k]) (by simpa using h) (by rw [<-e];exact q5e hs)
   rw [List.foldl_cons,e,List.length_cons]
   simp at this
   omega
theorem q6U (ks:List K):(dk ks).length=ks.length↔ks.Nodup:=by
 constructor
 ·intro h
  refine Classical.byContradiction λz=>?_
  have:=q5R ks [] (by simpa using z) (by simp)
  simp only [List.length_nil,Nat.zero_add] at this
  have e:ks.foldl q1y []=dk ks:=rfl
  rw [e] at this
  omega
 ·intro h
  have:=q4n ks [] (by simpa using h)
  have e:ks.foldl q1y []=dk ks:=rfl
  rw [e] at this
  rw [this];simp
end
section
variable {K:Type} [DecidableEq K] {P:Program} {w:World} {knd:PySem.KeyKind P w K}
theorem q5O {h:Heap} {a:Addr} {S S':K->Bool} {n n':Nat} (x:h.SetOf knd a S n) (e1:∀k,S k=S' k) (e2:n=n'):h.SetOf knd a S' n':=by
 cases funext e1;cases e2;exact x
noncomputable def j04 (knd:PySem.KeyKind P w K) (items:Array Value) (ks:List K):Prop:=items.size=ks.length/\∀(i:Nat) (v:Value),items[i]?=some v->∃k,ks[i]?=some k/\knd.is k v=true/\v.scannable=true
theorem q7V {ks:List K} {i:Nat} {k:K} (h:ks[i]?=some k):ks.take (i+1)=ks.take i++[k]:=by
 obtain ⟨hi,e⟩:=List.getElem?_eq_some_iff.mp h
 rw [List.take_succ_eq_append_getElem hi,e]
section
variable {A:Around} {R:Result->Shared->Prop} {J:Addr} {fp wr:List Addr} {G:Array GenState->Array GenState->Prop} {St:Nat->Shared->Prop}
theorem q20 {S:Addr} {G:Array GenState->Array GenState->Prop} {wr:List Addr} {s s':Shared} {f:K->Bool} {n:Nat} (h:s.heap.SetOf knd S f n) (m:Moved wr G s s') (hS:S∉wr):s'.heap.SetOf knd S f n:=by
 obtain ⟨o,es,ep,t,ho,more⟩:=h
 exact ⟨o,es,ep,t,m.heap S _ hS ho,more⟩
theorem j0n {items:Array Value} {ks:List K} (W:WalksS P w A.in1 J fp wr G items.size (λi v=>items[i]?=some v) St) (S:Addr) (hSf:S∉fp) (hk:j04 knd items ks) (hb:ks.length+1 < scanBound) :
 ∀(m i:Nat) (s:Shared),i+m=items.size->St i s->s.heap.SetOf knd S (inK (dk (ks.take i))) (dk (ks.take i)).length ->
  (∀s',Moved (S::wr) G s s'->s'.heap.SetOf knd S (inK (dk ks)) (dk ks).length->R (.ok (.ret .none)) s')->codeAny (model P w) A (.builtin "set.update.loop" ⟨[.ref S,.ref J],[]⟩) R s:=by
 have nw:S∉wr:=λz=>hSf (W.sub _ z)
 have more:∀b∈wr,b∈S::wr:=λb z=>List.mem_cons_of_mem _ z
 intro m
 induction m with
 | zero=>
  intro i s hi hst hset fin
  obtain rfl:i=items.size:=by omega
  refine codeAny_builtin PyProof.Rows.F.entry_set_update_loop ?_
  rw [Around.under_plainId PyProof.Rows.F.plain_set_update_loop _]
  show wpAny _ A.in1 (pyNext (.ref J) >>= _) _ _ s
  refine wpAny_bind (W.done s _ _ hst λs' mv=>?_)
  show wpAny _ A.in1 (ret Value.none) _ _ s'
  refine wpAny_pure (fin s' (mv.mono more) ?_)
  have:=q20 hset mv nw
  rwa [List.take_of_length_le (by rw [hk.1];exact Nat.le_refl _)] at this
 | succ m ih=>
  intro i s hi hst hset fin
  refine codeAny_builtin PyProof.Rows.F.entry_set_update_loop ?_
  rw [Around.under_plainId PyProof.Rows.F.plain_set_update_loop _]
  show wpAny _ A.in1 (pyNext (.ref J) >>= _) _ _ s
  refine wpAny_bind (W.item i s _ _ (by omega) hst λv s' hv hst' mv=>?_)
  obtain ⟨k,ek,isk,sck⟩:=hk.2 i v hv
  have hset':=q20 hset mv nw
  show wpAny _ A.in1 (holding [v] (setAdd S v) >>= _) _ _ s'
  refine wpAny_bind (wpAny_holding ?_)
  unfold setAdd
  refine wpAny_holding (wpAny_bind (knd.pyHash (k:=k) isk ?_))
  have room:(dk (ks.take i)).length+1 < scanBound:=by
   have:=j6F (ks.take i)
   rw [List.length_take] at this;omega
  refine wpAny_setAddHashed_of (knd:=knd) (s:={ s' with toks:=s'.toks+1 }) isk sck hset' room λh' sb hset2=>?_
  have hset3:h'.SetOf knd S (inK (dk (ks.take (i+1)))) (dk (ks.take (i+1))).length:=by
   rw [q7V ek,j3V]
   exact q5O hset2 (λq=>(j0f _ _ _).symm) (q5C _ _).symm
  refine wpAny_pure ⟨plainId_quiet PyProof.Rows.F.plain_set_update_loop _,ih (i+1) _ (by omega) (W.frame _ s' _ _ hst' (Nat.le_succ _) λb hb' o e=>?_) hset3 λs2 mv2 hs2=>fin s2 ?_ hs2⟩
  ·rw [sb.2 b (λz:b=S=>hSf (z ▸ hb'))];exact e
  ·refine Moved.trans W.gtrans ((mv.mono more).then_heap (Nat.le_succ _) λb o hb' e=>?_) mv2
   rw [sb.2 b (λz:b=S=>hb' (z ▸ List.mem_cons_self))];exact e
end
section
variable {A:Around} {E:Value->Shared->Prop} {s:Shared}
set_option maxHeartbeats 3200000 in
theorem j0q {l:Addr} {items:Array Value} {ks:List K} {Q:Value->Shared->Prop} (hh:A.handled=none) (hl:s.heap.IsList l items) (hk:j04 knd items ks) (hb:ks.length+1 < scanBound)
 (fin:∀(h':Heap) (tk:Nat),h'.SetOf knd s.heap.objs.size (inK (dk ks)) (dk ks).length->(∀b o,s.heap.get? b=some o->h'.get? b=some o)->Q (.ref s.heap.objs.size) { s with heap:=h',toks:=tk }) :
 wpAny (model P w) A (call (.type "set") [.ref l]) Q E s:=by
 obtain ⟨c,tl,mro⟩:=PySem.F.called_set.mro
 have made:=PySem.F.called_set.made
 have subs:=PySem.F.called_set.sub
 refine wpAny_call (codeAny_of_tree ?_)
 show wpAny _ _ (callAny (.type "set") _) _ _ _
 refine wpAny_pure ⟨Code.quiet_builtin _ (by decide +kernel),codeAny_builtin PySem.F.entry_type_call ?_⟩
 rw [Around.under_plain (weight_type_call_type "set" [.ref l] []) rfl]
 have notT:=PySem.F.called_set.notType
 have canC:=PySem.F.called_set.canCreate
 have tcall:=PySem.F.typeCall_set_1 (.ref l)
 repeat (any_goals (first | assumption | wp_step))
 refine codeAny_mono (code_set_new_1 (.ref l) (E:=E) (Q₁:=λobj s₁=>∃led:Bool,obj=.ref s.heap.objs.size/\s₁={ s with heap:=s.heap.push { cls:=.type "set",dict:=none,data:=.set #[] 0 (.fresh 0 0 led) } }) λled=>⟨led,rfl,rfl⟩) λr s₁ hr=>?_
 rcases r with e | fl
 ·exact hr
 rcases fl with _ | _ | _ | obj
 any_goals exact hr.elim
 obtain ⟨led,rfl,rfl⟩:=hr
 generalize hO:({ cls:=.type "set",dict:=none,data:=.set #[] 0 (.fresh 0 0 led) }:Obj)=O
 have gO:(s.heap.push O).get? s.heap.objs.size=some O:=Heap.get?_push_size _ (by rw [<-hO];rfl)
 have tO:Shared.TypeIs { s with heap:=s.heap.push O } (.ref s.heap.objs.size) "set":=⟨_,gO,by rw [<-hO]⟩
 have look:=PySem.F.called_set.init.lookup
 have bnd:=PySem.F.called_set.init.bind (.ref s.heap.objs.size)
 repeat (any_goals (first | assumption | wp_step))
 refine codeAny_mono (codeAny_call_builtin (R:=wants (λr s₂=>r=.none/\∃h' tk,s₂={ s with heap:=h',toks:=tk }/\h'.SetOf knd s.heap.objs.size (inK (dk ks)) (dk ks).length/\∀b o,s.heap.get? b=some o->h'.get? b=some o) E) PySem.F.called_set.init.plain PySem.F.entry_set_init (check_set_init_1 tO ?_)) λr₂ s₂ hr₂=>?_
 ·obtain ⟨⟨oc,od,odt,osl⟩,ho,hc,n,hd⟩:=hl
  simp only at hc hd
  subst hc hd
  have lt:l < s.heap.objs.size:=Heap.lt_size ho
  have ho':(s.heap.push O).get? l=some { cls:=.type "list",dict:=od,data:=.seq items n,slots:=osl }:=Heap.get?_push_of_some _ ho
  have n1:=PySem.F.sub_list_set
  have n2:=PySem.F.sub_list_frozenset
  have n3:(Value.type "list"==Value.type "dict")=false:=by decide
  have isl:(s.heap.push O).IsList l items:=⟨_,ho',rfl,n,rfl⟩
  have sz:(s.heap.push O).objs.size=s.heap.objs.size+1:=Heap.size_push ..
  subst hO
  unfold Builtin.«set.__init__» noKeywords Builtin.Frozenset.updateFrom
  generalize hPI:pyIter=PI
  wp_walk
  subst hPI
  refine wpAny_pyIter_list isl ?_
  refine wpAny_bind (wpAny_runValue ?_)
  have h3:A.in1.in1.in1.handled=none:=by simp [hh]
  have ne1:l≠(s.heap.push { cls:=.type "set",dict:=none,data:=.set #[] 0 (.fresh 0 0 led) }).objs.size:=by rw [sz];exact Nat.ne_of_lt (Nat.lt_succ_of_lt lt)
  have nf:s.heap.objs.size∉[(s.heap.push { cls:=.type "set",dict:=none,data:=.set #[] 0 (.fresh 0 0 led) }).objs.size,l]:=by
   rw [sz];simp only [List.mem_cons,List.not_mem_nil,or_false,not_or]
   exact ⟨Nat.ne_of_lt (Nat.lt_succ_self _),Nat.ne_of_gt lt⟩
  refine j0n ((Walks.list h3 _ l ne1 items).toS) s.heap.objs.size nf hk hb items.size 0 _ (by simp) ⟨⟨_,Heap.get?_push_size _ rfl,rfl,rfl⟩,isl.push _⟩ ?_ λs' mv hs'=>?_
  ·exact q5O ((PyProof.Rows.setObjOf_fresh (knd:=knd) led).setOf (Heap.get?_push_of_some _ gO) (by unfold scanBound;omega)) (λ_=>rfl) rfl
  ·obtain ⟨h',g',d',tk',os'⟩:=s'
   obtain rfl:g'=s.gens:=mv.gens
   obtain rfl:d'=s.drawn:=mv.drawn
   obtain rfl:os'=s.os:=mv.os
   refine wpAny_pure (?_:wpAny _ _ (ret Value.none) _ _ _)
   refine wpAny_pure ⟨rfl,h',tk',rfl,hs',λb o e=>?_⟩
   have hb0:=Heap.lt_size e
   exact mv.heap b o (by rw [sz];simp only [List.mem_cons,List.not_mem_nil,or_false,not_or];exact ⟨Nat.ne_of_lt hb0,Nat.ne_of_lt (Nat.lt_succ_of_lt hb0)⟩) (Heap.get?_push_of_some _ (Heap.get?_push_of_some _ e))
 ·rcases r₂ with e | fl₂
  ·exact hr₂
  rcases fl₂ with _ | _ | _ | r
  any_goals exact hr₂.elim
  obtain ⟨rfl,h',tk,rfl,hs',kk⟩:=hr₂
  repeat (any_goals (first | assumption | wp_step))
  exact fin _ _ hs' kk
end
end
section
variable {X:Cx} {pins:List (Addr×Obj)} {σ:L2.St} {H:Hp} {s:Shared}
theorem Inv.enter {ea:Addr} {φ:Heap->Prop} {ob:Obj} (I:Inv X pins σ H s) (hn:H ea=none) (fe:Free X pins ea) (ho:s.heap.get? ea=some ob) (hφ:φ s.heap) (st:∀h1 h2:Heap,φ h1->(∀o,h1.get? ea=some o->h2.get? ea=some o)->φ h2) :
 Inv X pins σ (upd H ea (.ext φ)) s:=by
 obtain ⟨f1,f2,f3,f4⟩:=fe
 have ne:∀b o,H b=some o->b≠ea:=λb o e z=>by rw [z,hn] at e;cases e
 refine ⟨I.ok,I.os,I.bare,⟨I.base.keep,I.base.slot,λb o e n hx=>?_,I.base.there,λb xs e=>?_,λb o v e=>?_,λb ps e=>?_⟩,I.loc,I.cell,?_,λy cc e=>?_,λp hp=>?_,λb o e=>?_,I.len⟩
 ·rw [q0i (λz=>?_)]
  ·exact I.base.free b o e n hx
  ·rcases f1 with f1 | f1
   ·exact hx (z ▸ f1)
   ·rw [z] at e;rw [f1] at e;cases e
 ·have q:=I.base.tups b xs e;rw [q0i (ne b _ q)];exact q
 ·have q:=I.base.frzs b o v e;rw [q0i (ne b _ q)];exact q
 ·obtain ⟨more,q⟩:=I.base.tbls b ps e
  exact ⟨more,by rw [q0i (ne b _ q)];exact q⟩
 ·rw [q0i (Ne.symm f2)];exact I.free
 ·rw [q0i (f3 y cc e)];exact I.freeC y cc e
 ·obtain ⟨a1,a2,a3⟩:=I.pin p hp
  exact ⟨a1,by rw [q0i (f4 p hp)];exact a2,a3⟩
 ·have ow:∀b y,H b=some (.own y)->upd H ea (.ext φ) b=some (.own y):=λb y q=>by rw [q0i (ne b _ q)];exact q
  have tu:∀b y,H b=some (.tup y)->upd H ea (.ext φ) b=some (.tup y):=λb y q=>by rw [q0i (ne b _ q)];exact q
  by_cases hb:b=ea
  ·subst hb
   rw [q0p] at e;cases e
   exact ⟨hφ,⟨ob,ho⟩,st⟩
  ·rw [q0i hb] at e
   exact (I.hok b o e).stay (λ_ _ _ q=>q) (λcc=>ow cc _) tu
theorem q92 (I:Inv X pins σ H s) {b:Addr} (hb:s.heap.objs.size<=b):Free X pins b:=q45 I (Heap.get?_none_of_le hb)
end
section
variable {K:Type} [DecidableEq K] {X:Cx} {knd:PySem.KeyKind X.prog X.w K}
noncomputable def q7C (knd:PySem.KeyKind X.prog X.w K) (p:Addr) (ks:List K) (h:Heap):Prop:=h.SetOf knd p (inK (dk ks)) (dk ks).length
theorem j0o {p:Addr} {ks:List K} {h1 h2:Heap} (x:q7C knd p ks h1) (k:∀o,h1.get? p=some o->h2.get? p=some o):q7C knd p ks h2:=by
 obtain ⟨o,es,ep,t,ho,more⟩:=x
 exact ⟨o,es,ep,t,k _ ho,more⟩
theorem Free.later {pins:List (Addr×Obj)} {σ:L2.St} {H:Hp} {s:Shared} (I:Inv X pins σ H s):Free X pins s.heap.objs.size:=q92 I (Nat.le_refl _)
theorem q7h {kv:K->V} (hc:X.calm=true) (hkv:∀(k:K) (v:Value),RelV (kv k) v->knd.is k v=true/\v.scannable=true):q2f X (.type "set") (λxs H Q=>∃(a:Addr) (ks:List K),xs=[.ref a]/\SqL X.K H a (ks.map kv)/\ks.length<=4000/\∀p,H p=none->Q (.ref p) (upd H p (.ext (q7C knd p ks)))):=by
 intro pins s σ H xs us Q I rv h
 obtain ⟨a,ks,rfl,hq,hl,q⟩:=h
 obtain ⟨u,rfl,ru⟩:=rv.one
 cases ru
 obtain ⟨its,r,pl,hz⟩:=I.list hq
 have len:=r.length
 rw [List.length_map] at len
 have fr:=I.fresh
 refine j0q (knd:=knd) (items:=its.toArray) (ks:=ks) (I.ok.hd hc) pl.isList ⟨by simp [len],λi v e=>?_⟩ (by unfold scanBound;omega) λh' tk hs kk=>?_
 ·have e':its[i]?=some v:=by simpa using e
  obtain ⟨hi,e2⟩:=List.getElem?_eq_some_iff.mp e'
  have hi':i < ks.length:=by omega
  obtain ⟨u,hu,ru⟩:=r.get (show (ks.map kv)[i]?=some (kv ks[i]) by simp [hi'])
  rw [e'] at hu;cases hu
  exact ⟨ks[i],by simp [hi'],hkv _ _ ru⟩
 ·have I2:Inv X pins σ H { s with heap:=h',toks:=tk }:=I.kept kk
  have f2:Free X pins s.heap.objs.size:=Free.later I
  obtain ⟨o,es,ep,t,ho,more⟩:=hs
  have hs':q7C knd s.heap.objs.size ks h':=⟨o,es,ep,t,ho,more⟩
  exact ⟨.ref s.heap.objs.size,_,Inv.enter I2 fr f2 ho hs' (λh1 h2 x k=>j0o x k),rfl,q _ fr⟩
theorem q4X:q2f X (.builtin "len") (λxs H Q=>∃(a:Addr) (ks:List K) (φ:Heap->Prop),xs=[.ref a]/\H a=some (.ext φ)/\(∀h,φ h->q7C knd a ks h)/\ks.length<=4000/\Q (.int (dk ks).length) H):=by
 intro pins s σ H xs us Q I rv h
 obtain ⟨a,ks,φ,rfl,ha,hφ,hl,q⟩:=h
 obtain ⟨u,rfl,ru⟩:=rv.one
 cases ru
 obtain ⟨p,_⟩:=(show ObjOk X.prog X.w H s.heap a (.ext φ) from I.hok a _ ha)
 obtain ⟨o,es,ep,t,ho,hex,hd,hel,hmem,hb,hf,hn⟩:=hφ _ p
 have:=j6F ks
 refine call_len_set ho hex hd hf (by rw [hn];omega) ?_
 rw [hn]
 exact ⟨.int _,H,I.tok _,⟨_,rfl⟩,q⟩
end
section
variable {T:Tb} {X:Cx} {e:Expr} {pos p pos2 p2:Pos} {fl:Ro->Out (List D)}
@[simp] noncomputable def q78 (fl:Ro->Out (List D)) (ρ:Ro):Out D:=(fl ρ).bind λds=>match q19 ds with
 | some ts=>if ts.length<=4000 then .ok (.int (dk ts).length) else .bad
 | none=>.bad
theorem q7m (hc:X.calm=true) (hg:Gl X "len") (hm:X.mg "len" = none) (hg2:Gl X "set") (hm2:X.mg "set" = none) (hl:DL T X e fl)
 (hs:starEach [e] X.env=(false,eval e X.env)::starEach [] X.env:=by exact q0B rfl) (hpl:(backTo pos2 (starEach ([]:List Expr) X.env)).any (·.1)=false:=by exact q0F rfl)
 (hsO:starEach [.Call (.Name "set" p2) [e] [] pos2] X.env=(false,eval (.Call (.Name "set" p2) [e] [] pos2) X.env)::starEach [] X.env:=by exact q0B rfl) (hplO:(backTo pos (starEach ([]:List Expr) X.env)).any (·.1)=false:=by exact q0F rfl) :
 DE T X (.Call (.Name "len" p) [.Call (.Name "set" p2) [e] [] pos2] [] pos) (q78 fl):=.mk λG E hp=>
 PE.imp (q5B (X:=X.wish E) (q4X (X:=X.wish E) (knd:=strKind (X.wish E).prog (X.wish E).w)) hg hm rfl (q0S (X:=X.wish E) (q3h (X:=X.wish E) (q7h (X:=X.wish E) (knd:=strKind (X.wish E).prog (X.wish E).w) (kv:=V.str) hc (λk v r=>by
  obtain ⟨t,rfl⟩:=r
  exact ⟨strKind_is _ _ _ _,rfl⟩)) hg2 hm2 rfl (q0S (X:=X.wish E) (hl.run G E hp) q1U hs) (by decide) (by decide) hs hpl) q1U hsO) (by decide) (by decide) hsO hplO) fun σ H Q ⟨ρ,fr,h⟩=>⟨ρ,fr,Acc.mono (Acc.bind h) λds _ hd l vs H1 s1 sq r=>by
  cases q:q19 ds with
  | none=>rw [q] at hd;exact hd.elim
  | some ts=>
   rw [q] at hd
   have hd:Acc T X E σ H (if ts.length<=4000 then Out.ok (.int (dk ts).length) else .bad) (kE T X.K H Q):=hd
   by_cases z:ts.length<=4000
   ·rw [if_pos z] at hd
    obtain rfl:=q2h q r
    exact ⟨l,ts,rfl,sq,z,λp hp=>⟨p,ts,_,rfl,q0p,λh x=>x,z,hd _ _ (s1.trans (q0E hp)) rfl⟩⟩
   ·rw [if_neg z] at hd;exact hd.elim⟩
end
noncomputable def q3o (tu:Bool) (l:Addr):Obj:={ cls:=.type (if tu then "tuple_iterator" else "list_iterator"),data:=.fields #[.ref l,.int 0 0] }
noncomputable def q1L (it:Addr) (i:Int) (old:Value):Obj:={ cls:=.type "enumerate",data:=.fields #[.none,.bool false,.ref it,rawInt i,.none,old] }
noncomputable def j1A (tu:Bool) (h:Heap) (l:Addr) (its:Array Value):Prop:=if tu=true then h.IsTuple l its else h.IsList l its
theorem q8N {P:Program} {w:World} {A:Around} {E:Value->Shared->Prop} {s:Shared} {tu:Bool} {l:Addr} {its:Array Value} {Q:Value->Shared->Prop} (h:j1A tu s.heap l its) (q:Q (.ref s.heap.objs.size) { s with heap:=s.heap.push (q3o tu l) }):wpAny (model P w) A (pyIter (.ref l)) Q E s:=by
 cases tu with
 | true=>exact wpAny_pyIter_tuple h q
 | false=>exact wpAny_pyIter_list h q
set_option maxHeartbeats 2000000 in
theorem q9U (tu:Bool) (l:Addr) (its:Array Value) (t:Tok) :
 Meets (Builtin.«enumerate.__new__» ⟨[.type "enumerate",.ref l],[(("start" : Str),.int 1 t)]⟩) (λ_ R s=>j1A tu s.heap l its /\
  R (.ok (.ret (.ref (s.heap.objs.size+1)))) { s with heap:=(s.heap.push (q3o tu l)).push (q1L s.heap.objs.size 1 .none) }):=
 .of_wp λprog w A R s h=>by
  obtain ⟨hp,g,d,tk,os⟩:=s
  obtain ⟨hl,h⟩:=h
  have sub:=sub_enumerate
  have sz:(hp.push (q3o tu l)).objs.size=hp.objs.size+1:=Heap.size_push ..
  wp_walk
  refine wpAny_stack_any λst=>wpAny_pure ?_
  split
  ·rename_i c _ _ _ _ _
   cases (c==Value.type "enumerate")<;>(wp_walk using q8N hl;exact ⟨_,rfl,by simp only [sz];exact h⟩)
  ·wp_walk using q8N hl
   exact ⟨_,rfl,by simp only [sz];exact h⟩
noncomputable def IsIt (tu:Bool) (h:Heap) (it l:Addr) (i:Nat):Prop:=if tu=true then h.IsTupleIter it l i else h.IsListIter it l i
section
variable {P:Program} {w:World} {A:Around} {E:Value->Shared->Prop} {s:Shared} {tu:Bool} {it l e:Addr} {i:Nat} {its:Array Value}
theorem IsIt.kept {h h':Heap} (x:IsIt tu h it l i) (k:∀o,h.get? it=some o->h'.get? it=some o):IsIt tu h' it l i:=by
 cases tu with
 | true=>
  obtain ⟨o,ho,r⟩:=(x:h.IsTupleIter it l i)
  exact (⟨o,k o ho,r⟩:h'.IsTupleIter it l i)
 | false=>
  obtain ⟨o,ho,r⟩:=(x:h.IsListIter it l i)
  exact (⟨o,k o ho,r⟩:h'.IsListIter it l i)
theorem IsIt.obj {h:Heap} (x:IsIt tu h it l i):∃o,h.get? it=some o/\∃vs,o.data=.fields vs:=by
 cases tu with
 | true=>
  obtain ⟨o,ho,_,d⟩:=(x:h.IsTupleIter it l i)
  exact ⟨o,ho,_,d⟩
 | false=>
  obtain ⟨o,ho,_,d⟩:=(x:h.IsListIter it l i)
  exact ⟨o,ho,_,d⟩
theorem q7b {x:Value} {Q:Value->Shared->Prop} (a:s.heap.IsTupleIter it l i) (b:s.heap.IsTuple l its) (c:its[i]?=some x) (q:∀h',h'.IsTupleIter it l (i+1)->Heap.SameBut it s.heap h'->Q x { s with heap:=h' }) :
 wpAny (model P w) A (Builtin.SmallTypes.nextOf (.ref it)) Q E s:=by
 obtain ⟨o,ho,hcl,hd⟩:=id a
 obtain ⟨ot,hot,_,n,hdt⟩:=b
 unfold Builtin.SmallTypes.nextOf
 refine wpAny_bind (wpAny_callSpecial?_slot (name:=Str.ofString "__next__") a.typeIs PySem.F.slot_tuple_iterator_next (wpAny_call_entry PySem.F.slot_tuple_iterator_next a.typeIs PySem.F.entry_tuple_iterator_next (show wpAny _ _ (field (.ref it) 0 >>= _) _ _ s from wpAny_bind (wpAny_field ho hd (x:=.ref l) rfl ?_)) (PySem.F.args_tuple_iterator_next_1 _)))
 show wpAny _ _ (if (Value.ref l==.none)=true then _ else field (.ref it) 1 >>= _) _ _ s
 rw [if_neg (λz=>by cases z)]
 refine wpAny_bind (wpAny_field ho hd (x:=.int i 0) rfl (show wpAny _ _ (seqItems? (.ref l) >>= _) _ _ s from wpAny_bind (wpAny_seqItems hot hdt ?_)))
 simp only [Int.toNat_natCast,c]
 refine wpAny_bind (wpAny_setField ho hd (by simp) (wpAny_pure ⟨x,rfl,wpAny_pure (q _ ⟨_,Heap.get?_update_self _ ho (Obj.isFreed_of_fields (Obj.data_mapFields hd _)),(Obj.cls_mapFields ..).trans hcl,?_⟩ (Heap.SameBut.update ..))⟩))
 rw [Obj.data_mapFields hd]
 simp [rawInt]
end
section
variable {P:Program} {w:World} {A:Around} {E:Value->Shared->Prop} {s:Shared} {tu:Bool} {it l e:Addr} {i:Nat} {its:Array Value}
theorem q8v {Q:Value->Shared->Prop} (hh:A.handled=none) (a:s.heap.IsTupleIter it l i) (b:s.heap.IsTuple l its) (c:its[i]?=none)
 (q:∀h' e,Heap.ExtBut it s.heap h'->(∃o,h'.get? e=some o/\o.cls=.type "StopIteration")->E (.ref e) { s with heap:=h' }):wpAny (model P w) A (Builtin.SmallTypes.nextOf (.ref it)) Q E s:=by
 obtain ⟨o,ho,hcl,hd⟩:=id a
 obtain ⟨ot,hot,_,n,hdt⟩:=b
 unfold Builtin.SmallTypes.nextOf
 refine wpAny_bind (wpAny_callSpecial?_slot (name:=Str.ofString "__next__") a.typeIs PySem.F.slot_tuple_iterator_next (wpAny_call_entry PySem.F.slot_tuple_iterator_next a.typeIs PySem.F.entry_tuple_iterator_next (show wpAny _ _ (field (.ref it) 0 >>= _) _ _ s from wpAny_bind (wpAny_field ho hd (x:=.ref l) rfl ?_)) (PySem.F.args_tuple_iterator_next_1 _)))
 show wpAny _ _ (if (Value.ref l==.none)=true then _ else field (.ref it) 1 >>= _) _ _ s
 rw [if_neg (λz=>by cases z)]
 refine wpAny_bind (wpAny_field ho hd (x:=.int i 0) rfl (show wpAny _ _ (seqItems? (.ref l) >>= _) _ _ s from wpAny_bind (wpAny_seqItems hot hdt ?_)))
 simp only [Int.toNat_natCast,c]
 refine wpAny_bind (wpAny_rule (wpAny_bind (wpAny_setField ho hd (by simp) (show wpAny _ _ (newExc (.type "StopIteration") [] >>= _) _ _ _ from wpAny_bind ?_))))
 simp only [newExc,newTuple]
 refine wpAny_bind (wpAny_newObj_type (wpAny_bind (m:=firstArgMember _ _) (wpAny_of_eq (a:=Value.none) (by first | rfl | (simp only [firstArgMember];rfl)) (wpAny_newObj_type ?_ (by size_fits)))) (by size_fits))
 simp only [raiseNew]
 refine wpAny_bind (wpAny_handled ?_)
 first | rw [show A.in1.handled=none from hh] | rw [hh]
 exact wpAny_bind (wpAny_pure (wpAny_throw (q _ _ (((Heap.SameBut.update ..).extBut.push _).push _) ⟨_,Heap.get?_push_size _ rfl,rfl⟩)))
theorem j4m {x:Value} {Q:Value->Shared->Prop} (a:IsIt tu s.heap it l i) (b:j1A tu s.heap l its) (c:its[i]?=some x) (q:∀h',IsIt tu h' it l (i+1)->Heap.SameBut it s.heap h'->Q x { s with heap:=h' }) :
 wpAny (model P w) A (Builtin.SmallTypes.nextOf (.ref it)) Q E s:=by
 cases tu with
 | true=>exact q7b a b c q
 | false=>exact wpAny_nextOf_list_item a b c q
theorem j45 {Q:Value->Shared->Prop} (hh:A.handled=none) (a:IsIt tu s.heap it l i) (b:j1A tu s.heap l its) (c:its[i]?=none)
 (q:∀h' e,Heap.ExtBut it s.heap h'->(∃o,h'.get? e=some o/\o.cls=.type "StopIteration")->E (.ref e) { s with heap:=h' }):wpAny (model P w) A (Builtin.SmallTypes.nextOf (.ref it)) Q E s:=by
 cases tu with
 | true=>exact q8v hh a b c q
 | false=>exact wpAny_nextOf_list_end hh a b c q
noncomputable def q9I (it:Addr) (n:Int) (x:Value) (a:Addr):Obj:={ cls:=.type "enumerate",data:=.fields #[rawInt a,.bool false,.ref it,rawInt n,.none,x] }
theorem j4i {n:Int} {x old:Value} {Q:Option Value->Shared->Prop} (he:s.heap.get? e=some (q1L it n old)) (a:IsIt tu s.heap it l i) (b:j1A tu s.heap l its) (c:its[i]?=some x) (ne:e≠it)
 (q:∀h',h'.get? e=some (q9I it (n+1) x s.heap.objs.size)->IsIt tu h' it l (i+1)->h'.get? s.heap.objs.size=some { cls:=.type "tuple",data:=.seq #[.int n s.toks,x] } ->
  (∀b o,b≠e->b≠it->s.heap.get? b=some o->h'.get? b=some o)->Q (some (.ref s.heap.objs.size)) { s with heap:=h',toks:=s.toks+1 }):wpAny (model P w) A (pyNext (.ref e)) Q E s:=by
 have ty:s.TypeIs (.ref e) "enumerate":=⟨_,he,rfl⟩
 unfold pyNext
 refine wpAny_bind (wpAny_attempt (wpAny_callSpecial?_slot (name:=Str.ofString "__next__") ty PySem.F.slot_enumerate_next (wpAny_call_entry PySem.F.slot_enumerate_next ty PySem.F.entry_enumerate_next ?_ (PySem.F.args_enumerate_next_1 _))))
 obtain ⟨hp,g,d,tk,os⟩:=s
 refine wpAny_bind (m:=field (.ref e) 2) (wpAny_field he rfl (x:=.ref it) rfl (wpAny_bind (j4m a b c λh1 a1 sb1=>?_)))
 have sb1:Heap.SameBut it hp h1:=sb1
 have e1:h1.get? e=some (q1L it n old):=(sb1.2 e ne).trans he
 refine wpAny_bind (m:=field (.ref e) 3) (wpAny_field (s:=⟨h1,g,d,tk,os⟩) e1 rfl (x:=rawInt n) rfl (wpAny_bind (m:=field (.ref e) 4) (wpAny_field (s:=⟨h1,g,d,tk,os⟩) e1 rfl (x:=.none) rfl ?_)))
 refine wpAny_bind (m:=mkInt n) (wpAny_mkInt (wpAny_bind (m:=setField (.ref e) 3 (rawInt (n+1))) (wpAny_setField_rec e1 (by simp) λh2 e2 sb2=>?_)))
 have sb2:Heap.SameBut e h1 h2:=sb2
 have e2:h2.get? e=some (q1L it (n+1) old):=e2
 refine wpAny_bind (m:=setField (.ref e) 4 .none) (wpAny_setField_rec (s:=⟨h2,g,d,tk+1,os⟩) e2 (by simp) λh3 e3 sb3=>?_)
 have sb3:Heap.SameBut e h2 h3:=sb3
 have e3:h3.get? e=some (q1L it (n+1) old):=e3
 refine wpAny_bind (m:=newTuple [.int n tk,x]) (wpAny_newTuple ?_)
 have sz:h3.objs.size=hp.objs.size:=by rw [sb3.1,sb2.1,sb1.1]
 have lt:e < hp.objs.size:=Heap.lt_size he
 obtain ⟨h4,hh4⟩:∃h4,h4=h3.push { cls:=.type "tuple",data:=.seq #[.int n tk,x] }:=⟨_,rfl⟩
 have e4:h4.get? e=some (q1L it (n+1) old):=by rw [hh4];exact Heap.get?_push_of_some _ e3
 have t4:h4.get? hp.objs.size=some { cls:=.type "tuple",data:=.seq #[.int n tk,x] }:=by rw [hh4,<-sz];exact Heap.get?_push_size _ rfl
 have a4:IsIt tu h4 it l (i+1):=a1.kept λo ho=>by
  rw [hh4];exact Heap.get?_push_of_some _ ((sb3.2 it (Ne.symm ne)).trans ((sb2.2 it (Ne.symm ne)).trans ho))
 have k4:∀b o,b≠e->b≠it->hp.get? b=some o->h4.get? b=some o:=λb o b1 b2 hb=>by
  rw [hh4];exact Heap.get?_push_of_some _ ((sb3.2 b b1).trans ((sb2.2 b b1).trans ((sb1.2 b b2).trans hb)))
 show wpAny _ _ (Builtin.SmallTypes.ownedTupleIsFree (.ref e) >>= _) _ _ ⟨h3.push { cls:=.type "tuple",data:=.seq #[.int n tk,x] },g,d,tk+1,os⟩
 rw [<-hh4,sz]
 clear hh4 sb1 sb2 sb3 e1 e2 e3 a1 sz
 refine wpAny_bind ?_
 unfold Builtin.SmallTypes.ownedTupleIsFree
 refine wpAny_bind (wpAny_field (s:=⟨h4,g,d,tk+1,os⟩) e4 rfl (x:=.none) rfl (wpAny_pure ?_))
 simp only [if_true]
 refine wpAny_bind (wpAny_rule (wpAny_bind (wpAny_field (s:=⟨h4,g,d,tk+1,os⟩) e4 rfl (x:=old) rfl (wpAny_bind (wpAny_setField_rec (s:=⟨h4,g,d,tk+1,os⟩) e4 (by simp) λh5 e5 sb5=>?_)))))
 have sb5:Heap.SameBut e h4 h5:=sb5
 have e5:h5.get? e=some (q1L it (n+1) x):=e5
 refine wpAny_bind (m:=Builtin.SmallTypes.ownedTupleHandOut (.ref e) (.ref hp.objs.size)) ?_
 unfold Builtin.SmallTypes.ownedTupleHandOut
 refine wpAny_bind (wpAny_setField_rec (s:=⟨h5,g,d,tk+1,os⟩) e5 (by simp) λh6 e6 sb6=>?_)
 have sb6:Heap.SameBut e h5 h6:=sb6
 have e6:h6.get? e=some (q9I it (n+1) x hp.objs.size):=e6
 refine wpAny_setField_rec (s:=⟨h6,g,d,tk+1,os⟩) e6 (by simp) λh7 e7 sb7=>?_
 have sb7:Heap.SameBut e h6 h7:=sb7
 have e7:h7.get? e=some (q9I it (n+1) x hp.objs.size):=e7
 have kk:∀b o,b≠e->h4.get? b=some o->h7.get? b=some o:=λb o b1 hb=>(sb7.2 b b1).trans ((sb6.2 b b1).trans ((sb5.2 b b1).trans hb))
 exact wpAny_bind (wpAny_letGo (wpAny_pure ⟨_,rfl,wpAny_pure (q h7 e7 (a4.kept λo ho=>kk it o (Ne.symm ne) ho) (kk _ _ (Nat.ne_of_gt lt) t4) λb o b1 b2 hb=>kk b o b1 (k4 b o b1 b2 hb))⟩))
theorem j5Y {n:Int} {old:Value} {Q:Option Value->Shared->Prop} (hh:A.handled=none) (he:s.heap.get? e=some (q1L it n old)) (a:IsIt tu s.heap it l i) (b:j1A tu s.heap l its) (c:its[i]?=none)
 (q:∀h',Heap.ExtBut it s.heap h'->Q none { s with heap:=h' }):wpAny (model P w) A (pyNext (.ref e)) Q E s:=by
 have ty:s.TypeIs (.ref e) "enumerate":=⟨_,he,rfl⟩
 unfold pyNext
 refine wpAny_bind (wpAny_attempt (wpAny_callSpecial?_slot (name:=Str.ofString "__next__") ty PySem.F.slot_enumerate_next (wpAny_call_entry PySem.F.slot_enumerate_next ty PySem.F.entry_enumerate_next ?_ (PySem.F.args_enumerate_next_1 _))))
 refine wpAny_bind (m:=field (.ref e) 2) (wpAny_field he rfl (x:=.ref it) rfl (wpAny_bind (j45 hh a b c λh' x ex ⟨o,ho,hc⟩=>?_)))
 exact wpAny_bind (wpAny_isInstance (T:="StopIteration") (b:=true) ⟨o,ho,hc⟩ isSubtype_stop (wpAny_pure (q _ ex)))
theorem j8m {elts:List Expr} {x1:Nat} {pos:Pos} {a:Addr} {n:Int} {x:Value} {Q:Unit->Shared->Prop} (he:s.heap.get? e=some (q9I it n x a)) (q:∀h',h'.get? e=some (q1L it n x)->Heap.SameBut e s.heap h'->Q () { s with heap:=h' }) :
 wpAny (model P w) A (letOwnedTupleGo (.Tuple elts x1 pos) (.ref e) (.ref a)) Q E s:=wpAny_letOwnedTupleGo_enum he q
theorem q7E {n:Int} {old:Value} {Q:Value->Shared->Prop} (he:s.heap.get? e=some (q1L it n old)) (h:Q (.ref e) s):wpAny (model P w) A (pyIter (.ref e)) Q E s:=wpAny_pyIter_enum he h
end
noncomputable def SqE (K:PySem.W.Frag) (tu:Bool) (H:Hp) (a:Addr) (xs:List V):Prop:=if tu=true then SqT K H a xs else SqL K H a xs
theorem q3T {X:Cx} {pins:List (Addr×Obj)} {σ:L2.St} {H:Hp} {s:Shared} {tu:Bool} {a:Addr} {xs:List V} (I:Inv X pins σ H s) (h:SqE X.K tu H a xs):∃its:List Value,Vals xs its/\j1A tu s.heap a its.toArray/\xs.length<=sizeLine:=by
 cases tu with
 | true=>
  obtain ⟨its,r,p,z⟩:=I.tuple (show SqT X.K H a xs from h)
  exact ⟨its,r,p,z⟩
 | false=>
  obtain ⟨its,r,p,z⟩:=I.list (show SqL X.K H a xs from h)
  exact ⟨its,r,p.isList,z⟩
theorem j2W {X:Cx} {pins:List (Addr×Obj)} {σ:L2.St} {H:Hp} {s:Shared} {tu:Bool} {a:Addr} {xs ys:List V} (I:Inv X pins σ H s) (h:SqE X.K tu H a xs) (h':SqE X.K tu H a ys):xs=ys:=by
 cases tu with
 | true=>exact I.tuple_inj (show SqT X.K H a xs from h) h'
 | false=>exact I.list_inj (show SqL X.K H a xs from h) h'
noncomputable def Ite (K:PySem.W.Frag) (tu:Bool) (a:Addr):It:=⟨λi H=>∃xs x,SqE K tu H a xs/\xs[i]?=some x,
 λi H v H'=>∃x p,(∀xs,SqE K tu H a xs->xs[i]?=some x)/\v=.ref p/\H p=none/\H'=upd H p (.tup [.int ((i:Int)+1),x]),
 λi H=>∃xs,SqE K tu H a xs/\xs[i]?=none⟩
theorem q8z {P:Program} {w:World} {K:PySem.W.Frag} {elts:List Expr} {x1:Nat} {tp:Pos} (tu:Bool) (a e it:Addr) (ne:e≠it) :
 Turn P w K (.Tuple elts x1 tp) (Ite K tu a) [e,it] e (λi h=>(∃old,h.get? e=some (q1L it ((i:Int)+1) old))/\IsIt tu h it a i) where
 mem:=by simp
 obj:=λi h st c hc=>by
  obtain ⟨⟨old,s1⟩,s2⟩:=st
  simp only [List.mem_cons,List.not_mem_nil,or_false] at hc
  rcases hc with rfl | rfl
  ·exact ⟨_,s1,λv z=>by have z':Data.fields _=Data.cell v:=z;cases z'⟩
  ·obtain ⟨o,eo,vs,d⟩:=s2.obj
   exact ⟨o,eo,λv z=>by rw [d] at z;cases z⟩
 keep:=λi h h' st k=>by
  obtain ⟨⟨old,s1⟩,s2⟩:=st
  exact ⟨⟨old,k e (by simp) _ s1⟩,s2.kept λo eo=>k it (by simp) o eo⟩
 item:=by
  intro X hP hw hK hc i pins s σ H E I hf st hg
  subst hP hw hK
  obtain ⟨xs,x,hq,hx⟩:=hg
  obtain ⟨⟨old,t1⟩,t2⟩:=st
  obtain ⟨its,rv,pl,hz⟩:=q3T I hq
  obtain ⟨u,hu,ru⟩:=rv.get hx
  refine j4i t1 t2 pl (x:=u) (by simpa using hu) ne λh' a1 a2 a3 a4=>⟨_,rfl,?_⟩
  refine j8m (s:={ s with heap:=h',toks:=s.toks+1 }) a1 λh'' b1 sb=>?_
  have sb:Heap.SameBut e h' h'':=sb
  have hfresh:H s.heap.objs.size=none:=I.hok.fresh (Nat.le_refl _)
  have sze:s.heap.objs.size≠e:=λz=>absurd (Heap.lt_size t1) (by rw [<-z];exact Nat.lt_irrefl _)
  have kk:∀c o,c∉[e,it]->s.heap.get? c=some o->h''.get? c=some o:=λc o hcm q=>by
   simp only [List.mem_cons,List.not_mem_nil,or_false,not_or] at hcm
   exact (sb.2 c hcm.1).trans (a4 c o hcm.1 hcm.2 q)
  have nfp:∀c v,H c=some v->c∉[e,it]:=λc v q hm=>by rw [(hf c hm).1] at q;cases q
  have nsz:∀c v,H c=some v->c≠s.heap.objs.size:=λc v q z=>by rw [z,hfresh] at q;cases q
  have tup:h''.get? s.heap.objs.size=some { cls:=.type "tuple",data:=.seq #[.int ((i:Int)+1) s.toks,u] }:=(sb.2 _ sze).trans a3
  have I1:Inv X pins σ (upd H s.heap.objs.size (.tup [.int ((i:Int)+1),x])) { s with heap:=h'',toks:=s.toks+1 }:=by
   refine I.step (g':=s.gens) (d':=s.drawn) (t':=s.toks+1) (ch:=[e,it]) (λc hcm=>?_) (λc o _ _ hcm q _=>kk c o hcm q) (λc o _ _ hcm q _=>⟨o.slots,kk c o hcm q⟩) (λc o _ q n=>?_)
    (λc o hcm q=>⟨o,kk c o hcm q⟩) (λc xs q=>?_) (λc o v q=>?_) (λc ps q=>⟨#[],?_⟩) (λm hm=>?_) (λc v q=>?_) I.bare
   ·obtain ⟨f0,f1,f2,f3,f4,f5⟩:=hf c hcm
    exact ⟨f3,f1,f4,f5⟩
   ·rw [q0i (Nat.ne_of_lt (Heap.lt_size q))];exact n
   ·rw [q0i (nsz c _ q)];exact q
   ·rw [q0i (nsz c _ q)];exact q
   ·rw [q0i (nsz c _ q),q];simp
   ·obtain ⟨o,es,ep,ho,r⟩:=hm
    exact ⟨o,es,ep,kk _ o (λhm=>(hf _ hm).2.1 rfl) ho,r⟩
   ·by_cases hcz:c=s.heap.objs.size
    ·subst hcz
     rw [q0p] at q;cases q
     exact ⟨by show 2<=sizeLine;decide,[.int ((i:Int)+1) s.toks,u],.cons ⟨_,rfl⟩ (.cons ru .nil),⟨_,tup,rfl,_,rfl⟩⟩
    ·rw [q0i hcz] at q
     refine (I.hok c v q).stay (λc' w' hc' z=>kk c' w' ?_ z) (λc' z=>?_) λc' xs z=>?_
     ·rcases hc' with hc' | hc'
      ·rw [hc'];exact nfp _ _ q
      ·exact nfp _ _ hc'
     ·rw [q0i (nsz c' _ z)];exact z
     ·rw [q0i (nsz c' _ z)];exact z
  refine ⟨.ref s.heap.objs.size,_,I1,rfl,⟨x,_,λws hw=>by rw [j2W I hw hq];exact hx,rfl,hfresh,rfl⟩,⟨⟨u,?_⟩,?_⟩,λc hcm=>?_⟩
  ·rw [show (((i+1:Nat):Int)+1)=(i:Int)+1+1 by omega]
   exact b1
  ·exact a2.kept λo eo=>(sb.2 _ (Ne.symm ne)).trans eo
  ·rw [q0i]
   ·exact (hf c hcm).1
   ·rintro rfl
    simp only [List.mem_cons,List.not_mem_nil,or_false] at hcm
    rcases hcm with z | z
    ·exact sze z
    ·obtain ⟨o,eo,_⟩:=t2.obj
     exact absurd (Heap.lt_size eo) (by rw [<-z];exact Nat.lt_irrefl _)
 done:=by
  intro X hP hw hK hc i pins s σ H E I hf st hg
  subst hP hw hK
  obtain ⟨xs,hq,hend⟩:=hg
  obtain ⟨⟨old,t1⟩,t2⟩:=st
  obtain ⟨its,rv,pl,hz⟩:=q3T I hq
  have l1:=rv.length
  refine j5Y (I.ok.hd hc) t1 t2 pl ?_ λh' ex=>⟨rfl,?_⟩
  ·rw [List.getElem?_eq_none_iff] at hend
   simp;omega
  ·have kk:∀c o,c∉[e,it]->s.heap.get? c=some o->h'.get? c=some o:=λc o hcm q=>by
    simp only [List.mem_cons,List.not_mem_nil,or_false,not_or] at hcm
    exact ex c o hcm.2 q
   have nfp:∀c v,H c=some v->c∉[e,it]:=λc v q hm=>by rw [(hf c hm).1] at q;cases q
   refine I.step (g':=s.gens) (d':=s.drawn) (t':=s.toks) (ch:=[e,it]) (λc hcm=>?_) (λc o _ _ hcm q _=>kk c o hcm q) (λc o _ _ hcm q _=>⟨o.slots,kk c o hcm q⟩) (λc o _ q n=>n)
    (λc o hcm q=>⟨o,kk c o hcm q⟩) (λc xs q=>q) (λc o v q=>q) (λc ps q=>⟨#[],by rw [q];simp⟩) (λm hm=>?_) (λc v q=>?_) I.bare
   ·obtain ⟨f0,f1,f2,f3,f4,f5⟩:=hf c hcm
    exact ⟨f3,f1,f4,f5⟩
   ·obtain ⟨o,es,ep,ho,r⟩:=hm
    exact ⟨o,es,ep,kk _ o (λhm=>(hf _ hm).2.1 rfl) ho,r⟩
   ·refine (I.hok c v q).stay (λc' w' hc' z=>kk c' w' ?_ z) (λc' z=>z) λc' xs z=>z
    rcases hc' with hc' | hc'
    ·rw [hc'];exact nfp _ _ q
    ·exact nfp _ _ hc'
 self:=λ_ _ _ _ _ st h=>by
  obtain ⟨⟨old,t1⟩,_⟩:=st
  exact q7E t1 h
section
variable {P:Program} {w:World} {A:Around} {E:Value->Shared->Prop} {s:Shared}
theorem q60 (v:Value) (t:Tok):checkTypeCall "enumerate" ⟨[v],[(("start" : Str),.int 1 t)]⟩=pure ():=by kernel_rfl
theorem q64 (v:Value) (t:Tok):checkBuiltinCall "enumerate.__new__" ⟨[.type "enumerate",v],[(("start" : Str),.int 1 t)]⟩=pure ():=by kernel_rfl
theorem j21 {self v:Value} {kw:List (Str×Value)} (hl:typeLookup (.type "enumerate") "__init__" = pure (some (.builtin "object.__init__"))) (hm:Bind.madeBy (.type "enumerate")=pure (some "enumerate.__new__")) :
 Meets (Builtin.«object.__init__» ⟨[self,v],kw⟩) (λ_ R s=>s.TypeIs self "enumerate"/\R (.ok (.ret .none)) s):=
 .of_wp λprog w A R s hs=>by
  obtain ⟨hT,hq⟩:=hs
  have hne:(some "enumerate.__new__" != some "object.__new__")=true:=by decide
  repeat (any_goals (first | assumption | wp_step))
  exact ⟨_,rfl,hq⟩
end
section
variable {P:Program} {w:World} {A:Around} {E:Value->Shared->Prop} {s:Shared}
theorem q7p (obj v:Value) (t:Tok):argsOk "object.__init__" ⟨[obj,v],[(("start" : Str),.int 1 t)]⟩:=by kernel_rfl
set_option maxHeartbeats 2000000 in
theorem q63 {tu:Bool} {l:Addr} {its:Array Value} {t:Tok} {Q:Value->Shared->Prop} (hl:j1A tu s.heap l its)
 (q:∀h',h'.get? (s.heap.objs.size+1)=some (q1L s.heap.objs.size 1 .none)->IsIt tu h' s.heap.objs.size l 0->(∀b o,s.heap.get? b=some o->h'.get? b=some o)->Q (.ref (s.heap.objs.size+1)) { s with heap:=h' }) :
 wpAny (model P w) A (call (.type "enumerate") [.ref l] [(("start" : Str),.int 1 t)]) Q E s:=by
 obtain ⟨c,tl,mro⟩:=PySem.F.called_enumerate.mro
 have made:=PySem.F.called_enumerate.made
 have subs:=PySem.F.called_enumerate.sub
 refine wpAny_call (codeAny_of_tree ?_)
 show wpAny _ _ (callAny (.type "enumerate") _) _ _ _
 refine wpAny_pure ⟨Code.quiet_builtin _ (by decide +kernel),codeAny_builtin PySem.F.entry_type_call ?_⟩
 rw [Around.under_plain (weight_type_call_type "enumerate" [.ref l] _) (units_type_call_type "enumerate" [.ref l] _)]
 have notT:=PySem.F.called_enumerate.notType
 have canC:=PySem.F.called_enumerate.canCreate
 have tcall:=q60 (.ref l) t
 repeat (any_goals (first | assumption | wp_step))
 refine codeAny_mono (codeAny_call_builtin PySem.F.called_enumerate.plain PySem.F.entry_enumerate_new (wpAny_of_eq (q64 (.ref l) t) (q9U tu l its t P w A.in1 (wants (λobj s₁=>obj=.ref (s.heap.objs.size+1)/\s₁={ s with heap:=(s.heap.push (q3o tu l)).push (q1L s.heap.objs.size 1 .none) }) E) s ⟨hl,rfl,rfl⟩))) λr s₁ hr=>?_
 rcases r with e | fl
 ·exact hr
 rcases fl with _ | _ | _ | obj
 any_goals exact hr.elim
 obtain ⟨rfl,rfl⟩:=hr
 have sz:(s.heap.push (q3o tu l)).objs.size=s.heap.objs.size+1:=Heap.size_push ..
 have g1:((s.heap.push (q3o tu l)).push (q1L s.heap.objs.size 1 .none)).get? (s.heap.objs.size+1)=some (q1L s.heap.objs.size 1 .none):=by
  rw [<-sz];exact Heap.get?_push_size _ rfl
 have ty:Shared.TypeIs { s with heap:=(s.heap.push (q3o tu l)).push (q1L s.heap.objs.size 1 .none) } (.ref (s.heap.objs.size+1)) "enumerate":=⟨_,g1,rfl⟩
 have look:=PySem.F.called_enumerate.init.lookup
 have bnd:=PySem.F.called_enumerate.init.bind (.ref (s.heap.objs.size+1))
 repeat (any_goals (first | assumption | wp_step))
 refine codeAny_mono (codeAny_call_builtin PySem.F.called_enumerate.init.plain PySem.F.entry_object_init (PySem.F.called_enumerate.init.check _ _ _ _ _ _ _ _ ty (q7p _ _ t) (j21 look made P w A.in1 (wants (λr s₂=>r=.none/\s₂={ s with heap:=(s.heap.push (q3o tu l)).push (q1L s.heap.objs.size 1 .none) }) E) _ ⟨ty,rfl,rfl⟩))) λr₂ s₂ hr₂=>?_
 rcases r₂ with e | fl₂
 ·exact hr₂
 rcases fl₂ with _ | _ | _ | r
 any_goals exact hr₂.elim
 obtain ⟨rfl,rfl⟩:=hr₂
 repeat (any_goals (first | assumption | wp_step))
 refine q _ g1 ?_ λb o e=>Heap.get?_push_of_some _ (Heap.get?_push_of_some _ e)
 have gi:((s.heap.push (q3o tu l)).push (q1L s.heap.objs.size 1 .none)).get? s.heap.objs.size=some (q3o tu l):=Heap.get?_push_of_some _ (Heap.get?_push_size _ rfl)
 cases tu with
 | true=>exact (⟨_,gi,rfl,rfl⟩:Heap.IsTupleIter _ _ _ _)
 | false=>exact (⟨_,gi,rfl,rfl⟩:Heap.IsListIter _ _ _ _)
end
section
variable {M:Model} {A:Around} {E:Value->Shared->Prop} {s:Shared} {env:Env}
theorem q4Y {pos:Pos} {T:String} {e:Expr} {rest:List Expr} {kws:List Keyword} {Q:Value->Shared->Prop}
 (h:wpAny M A (spliced (backTo pos (starEach (e::rest) env))) (λvs s₁=>wpAny M A (evalAll ((backToKw pos (keywordEach kws env)).map (·.2))) (λkvs s₂=>wpAny M A (call (.type T) vs (((backToKw pos (keywordEach kws env)).filterMap (·.1)).zip kvs)) Q E s₂) E s₁) E s)
 (he:backTo pos (starEach (e::rest) env)=(false,eval e env)::backTo pos (starEach rest env)) (hp:(backTo pos (starEach (e::rest) env)).any (·.1)=false)
 (ha:(backToKw pos (keywordEach kws env)).all (·.1.isSome)=true) (hk:(backToKw pos (keywordEach kws env)).any (·.1.isNone)=false) :
 wpAny M A (callWith pos (.type T) [] (backTo pos (starEach (e::rest) env)) (backToKw pos (keywordEach kws env))) Q E s:=by
 have h':wpAny M A (evalArgs (.type T) true (backTo pos (starEach (e::rest) env)) (backToKw pos (keywordEach kws env))) (λa s₁=>wpAny M A (call (.type T) ([]++a.pos) a.kw) Q E s₁) E s:=by
  rw [he] at h ⊢
  exact evalArgs_kwB ha h
 unfold callWith
 refine wpAny_bind (wpAny_holding (wpAny_mono h' (λa s₁ h₁=>wpAny_bind (wpAny_standAt ?_)) λ_ _ z=>z))
 rw [hp,hk]
 exact wpAny_bind (wpAny_pure (wpAny_bind (wpAny_mono h₁ (λr s₂ hr=>wpAny_bind (wpAny_holding (wpAny_point (wpAny_pure hr)))) λ_ _ z=>z)))
end
noncomputable def q6x:Int->List D->List D
 | _,[]=>[]
 | n,d::ds=>.tup [.int n,d]::q6x (n+1) ds
theorem q51:∀(n:Int) (ds:List D),(q6x n ds).length=ds.length
 | _,[]=>rfl
 | n,d::ds=>by simp [q6x,q51 (n+1) ds]
theorem q81:∀(n:Int) (ds:List D) (i:Nat),(q6x n ds)[i]?=ds[i]?.map λd=>D.tup [.int (n+(i:Int)),d]
 | _,[],i=>by simp [q6x]
 | n,d::ds,0=>by simp [q6x]
 | n,d::ds,i+1=>by
  simp only [q6x,List.getElem?_cons_succ,q81 (n+1) ds i]
  rw [show n+1+(i:Int)=n+((i+1:Nat):Int) by omega]
section
variable {T:Tb} {X:Cx} {a:Expr} {pos p tp cp kp:Pos} {fl:Ro->Out (List D)} {fe:Ev} {elts:List Expr} {x1:Nat} {ck:Nat}
noncomputable def StE (K:PySem.W.Frag) (tu:Bool) (G H:Hp) (l:Addr) (vs:List V):Prop:=if tu=true then SqT K H l vs else Stb K G H l vs
theorem StE.pers {K:PySem.W.Frag} {tu:Bool} {G H H':Hp} {l:Addr} {vs:List V} (p:Pers T false H H') (h:StE K tu G H l vs):StE K tu G H' l vs:=by
 cases tu with
 | true=>exact q5X p (show SqT K H l vs from h)
 | false=>exact (show Stb K G H l vs from h).pers p
theorem StE.sq {K:PySem.W.Frag} {tu:Bool} {G H:Hp} {l:Addr} {vs:List V} (h:StE K tu G H l vs) (sm:Same G H):SqE K tu H l vs:=by
 cases tu with
 | true=>exact (show SqT K H l vs from h)
 | false=>exact (show Stb K G H l vs from h).sq sm
theorem q8S {tu:Bool} {G H1:Hp} {l:Addr} {vs:List V} {ds:List D} (st:StE X.K tu G H1 l vs) (r:RepL T X.K H1 ds vs):Walk T X.K G (Ite X.K tu l) (q6x 1 ds) H1:=λi H p sm=>by
 have sq:=(st.pers p).sq sm
 have r':=RepL.pers p _ _ r
 have hl:=RepL.length _ _ r'
 refine ⟨λd e=>?_,λh=>⟨vs,sq,?_⟩⟩
 ·rw [q81] at e
  cases ed:ds[i]? with
  | none=>rw [ed] at e;cases e
  | some d1=>
   rw [ed] at e
   have e':D.tup [.int (1+(i:Int)),d1]=d:=Option.some.inj e
   subst e'
   obtain ⟨v,e1,rd⟩:=RepL.get _ _ _ _ r' ed
   refine ⟨⟨vs,v,sq,e1⟩,λx H2 ⟨x',q,h1,hx,hq,hH⟩=>?_⟩
   have z1:=h1 vs sq
   rw [e1] at z1;cases z1
   subst hx hH
   refine ⟨q0E hq,q,[.int ((i:Int)+1),v],rfl,SqT.of q0p,.int ((i:Int)+1),[v],rfl,?_,v,[],rfl,Rep.mono (q0E hq) _ _ rd,rfl⟩
   show V.int ((i:Int)+1)=.int (1+(i:Int))
   rw [Int.add_comm]
 ·rw [q51] at h
  rw [List.getElem?_eq_none_iff]
  omega
theorem j3T {tu:Bool} {E:Value->Shared->Prop} {pins:List (Addr×Obj)} {σ:L2.St} {H1:Hp} {s1:Shared} {l:Addr} {vs:List V} {R:It->Hp->Prop} {t:Tok} (I1:Inv (X.wish E) pins σ H1 s1) (sq:SqE X.K tu H1 l vs) (q:R (Ite X.K tu l) H1) :
 wpAny (model X.prog X.w) X.A (call (.type "enumerate") [.ref l] [(("start" : Str),.int 1 t)]) (λv s2=>wpAny (model X.prog X.w) X.A (pyIter v) (PIE (X.wish E) pins σ (.Tuple elts x1 tp) R) E s2) E s1:=by
 obtain ⟨its,rv,pl,hz⟩:=q3T I1 sq
 refine q63 pl λh' z1 z2 kp=>?_
 have I2:Inv (X.wish E) pins σ H1 { s1 with heap:=h' }:=I1.kept (t':=s1.toks) kp
 have ne:s1.heap.objs.size+1≠s1.heap.objs.size:=Nat.succ_ne_self _
 refine q7E z1 ⟨_,_,_,_,H1,rfl,I2,q8z tu l _ _ ne,⟨⟨.none,?_⟩,z2⟩,λc hcm=>?_,q⟩
 ·exact z1
 ·have ge:s1.heap.objs.size<=c:=by
   simp only [List.mem_cons,List.not_mem_nil,or_false] at hcm
   rcases hcm with rfl | rfl
   ·exact Nat.le_succ _
   ·exact Nat.le_refl _
  exact I1.fpOk ge (I1.hok.fresh ge)
@[simp] noncomputable def j84 (fl:Ro->Out (List D)) (ρ:Ro):Out (List D):=(fl ρ).bind λds=>.ok (q6x 1 ds)
theorem q6l (hg:Gl X "enumerate") (hm:X.mg "enumerate" = none) (hl:DP T X a fl) (hs:starEach [a] X.env=(false,eval a X.env)::starEach [] X.env:=by exact q0B rfl) (hpl:(backTo pos (starEach ([a]:List Expr) X.env)).any (·.1)=false:=by exact q0F rfl) :
 DI T X (.Tuple elts x1 tp) (.Call (.Name "enumerate" p) [a] [⟨some "start",.Constant (.int 1) ck cp,kp⟩] pos) (j84 fl):=.mk λG E hp=>by
 rintro pins s σ H R I ⟨ρ,fr,h⟩
 refine wpAny_Call_Name_kw (q2A (X:=X.wish E) I hg hm rfl (q4Y (thn ((q0S (X:=X.wish E) (hl.run G E hp) q1U hs) pos pins s σ H (λus H1=>∃l vs,us=[.ref l]/\SqE X.K false H1 l vs/\R (Ite X.K false l) H1) I ⟨ρ,fr,Acc.mono (Acc.bind h) λds _ hd l vs H1 s1 st r=>⟨l,vs,rfl,st.sq (fr.same.trans s1),hd _ H1 s1 (q8S (tu:=false) st r)⟩⟩) λus s1 ⟨xs,H1,I1,r1,l,vs,e1,sq,q⟩=>?_) (by rw [hs];rfl) hpl rfl rfl))
 subst e1
 obtain ⟨u,rfl,ru⟩:=Vals.one r1
 cases ru
 refine kws_cons (wpAny_Constant_int (kws_nil ?_))
 exact j3T (I1.tok _) sq q
end
section
variable {T:Tb} {ib:Bool} {X:Cx} {e b:Expr} {pos p p2:Pos} {fe fb:Ev} {x:Str}
end
end L3
namespace L3
open PySem L2
theorem q8e {is:List Int} (h:is≠[]):q0R true is∈is/\∀x∈is,x<=q0R true is:=by
 have l:0 < is.length:=List.length_pos_iff.mpr h
 have e:q0R true is=is.getD (argBest (λi j=>decide (is.getD i 0 > is.getD j 0)) (is.length-1)) 0:=by
  unfold q0R;simp
 obtain ⟨a1,a2⟩:=argBest_gt (λi=>is.getD i 0) (is.length-1)
 rw [e]
 generalize argBest (λi j=>decide (is.getD i 0 > is.getD j 0)) (is.length-1)=k at *
 have hk:k < is.length:=by omega
 refine ⟨?_,λx hx=>?_⟩
 ·rw [List.getD_eq_getElem?_getD,List.getElem?_eq_getElem hk];exact List.getElem_mem hk
 ·obtain ⟨j,hj,rfl⟩:=List.getElem_of_mem hx
  have:=a2 j (by omega)
  rw [List.getD_eq_getElem?_getD (l:=is) (i:=j),List.getElem?_eq_getElem hj] at this
  exact this
theorem q6s (is:List Int):q3k (is.map D.int)=some is:=by
 induction is with
 | nil=>rfl
 | cons i is ih=>rw [List.map_cons,q3k,ih]
theorem q6p {is:List Int} (h:is≠[]):q44 [.lst (is.map D.int)]=.ok (.int (q0R true is)):=by
 rw [q44,q6s]
 show (if is≠[] then _ else _)=_
 rw [if_pos h]
theorem j0c {is:List Int} (hl:is.length<=1000) (h:∀i∈is,-1000000000<=i/\i<=1000000000):q5a is=true:=by
 unfold q5a
 simp only [Bool.and_eq_true,decide_eq_true_eq,List.all_eq_true]
 exact ⟨hl,λi hi=>h i hi⟩
theorem q7F {is:List Int} (hl:is.length<=1000) (h:∀i∈is,-1000000000<=i/\i<=1000000000):q9l [.lst (is.map D.int)]=.ok (.int (isum is)):=by
 rw [q9l,q6s]
 show (if _ then _ else _)=_
 rw [if_pos (j0c hl h)]
theorem q2M {α:Type} {f:D->Out D} {g:α->D} {k:α->D}:∀(l:List α),(∀a∈l,f (g a)=.ok (k a))->q6b f (l.map g)=some (l.map k)
 | [],_=>rfl
 | a::l,h=>by
  rw [List.map_cons,q6b,h a (by simp),q2M l λb hb=>h b (by simp [hb])];rfl
theorem q1j {α:Type} {fl:Ro->Out (List D)} {caps:List Nat} {fe:Ev} {ρ:Ro} {g:α->D} {k:α->D} {l:List α} (h:fl ρ=.ok (l.map g)) (hl:l.length<=1000000) (he:∀a∈l,fe (q1t caps ρ (g a))=.ok (k a)) :
 q0L fl caps fe ρ=.ok (l.map k):=by
 rw [q0L,h,Out.ok_bind,if_pos (by simpa using hl),q2M l he]
theorem q3F {i:Nat} {f:Ev} {ρ:Ro} {v:D} (h:f ρ=.ok v):q1n i f ρ=.nx (ρ.set i (.sh v)):=by
 rw [q1n,h,Out.ok_fl]
theorem q2x {α:Type} (a:α) (l:List α):atI (a::l) 0=some a:=q0Y (j:=0) rfl
theorem q12 {α:Type} (a b:α) (l:List α):atI (a::b::l) 1=some b:=q0Y (j:=1) rfl
theorem q2y {α:Type} (a b c:α) (l:List α):atI (a::b::c::l) 2=some c:=q0Y (j:=2) rfl
theorem j43 {α:Type} (a b c d:α) (l:List α):atI (a::b::c::d::l) 3=some d:=q0Y (j:=3) rfl
structure Tz (n:Nat) (z:Str):Prop where
 len:z.length<=n
 cps:∀c∈z.cps.toList,c < 128
theorem Tz.mono {n m:Nat} {z:Str} (h:Tz n z) (e:n<=m):Tz m z:=⟨Nat.le_trans h.len e,h.cps⟩
theorem Tz.repr {n:Nat} {z:Str} (h:Tz n z) (hn:n<=1000):(reprText z).length<=200000:=by
 have:=PySem.StrLaws.reprText_len z λc hc=>Nat.lt_of_lt_of_le (h.cps c hc) (by decide)
 have:=h.len
 omega
theorem j6r {α:Type} {xs:List α} {i:Int} (h0:0<=i) (h1:i < xs.length):∃v,atI xs i=some v/\v∈xs:=by
 obtain ⟨k,rfl⟩:=Int.eq_ofNat_of_zero_le h0
 have hk:k < xs.length:=by omega
 exact ⟨xs[k],q0Y (by simp [hk]),List.getElem_mem hk⟩
theorem j9M:(Str.ofString "")=⟨#[]⟩:=by decide +kernel
theorem q4l:∀cs:List Nat,q19 (cs.map λc=>D.str ⟨#[c]⟩)=some (cs.map λc=>(⟨#[c]⟩:Str))
 | []=>rfl
 | c::cs=>by rw [List.map_cons,q19,q4l cs];rfl
theorem q6j (sep:Str) (hs:sep.length=0):∀(cs:List Nat) (n:Nat),(cs.map λc=>(⟨#[c]⟩:Str)).foldl (λa t=>a+t.length+sep.length) n=n+cs.length
 | [],n=>rfl
 | c::cs,n=>by
  rw [List.map_cons,List.foldl_cons,q6j sep hs cs]
  have:(Str.mk #[c]).length=1:=rfl
  rw [this,hs]
  simp;omega
theorem j0I (cs:List Nat) (hl:cs.length<=100):q9c (.str (Str.ofString "")) [.lst (cs.map λc=>D.str ⟨#[c]⟩)]=.ok (.str ⟨cs.toArray⟩):=by
 have s0:(Str.ofString "").length=0:=by decide +kernel
 have ok:JoinOk (Str.ofString "") (cs.map λc=>(⟨#[c]⟩:Str))=true:=by
  unfold JoinOk
  rw [List.foldl_toArray',q6j _ s0]<;>try rfl
  unfold Builtin.Str.tooLong
  rw [sizeLine_eq]
  simp;omega
 have jn:Txt.join (Str.ofString "") (cs.map λc=>(⟨#[c]⟩:Str))=⟨cs.toArray⟩:=by
  show Builtin.Str.glued (Str.ofString "") _=_
  rw [PySem.StrLaws.glued_eq_join,j9M]
  exact PyProof.Rows.join_ones cs
 rw [q9c,q4l]
 show (if _ then _ else _)=_
 rw [if_pos ok,jn]
theorem q3t {z:Str} {n:Nat} (h:Tz n z) (hn:n<=1000) {α:Type} {f:D->Out D} {g:α->D} {ix:α->Int}:∀(l:List α),(∀a∈l,0<=ix a/\ix a < z.length/\f (g a)=ixD (.str z) (.int (ix a)))->∃cs:List Nat,cs.length=l.length/\(∀c∈cs,c∈z.cps.toList)/\q6b f (l.map g)=some (cs.map λc=>D.str ⟨#[c]⟩)
 | [],_=>⟨[],rfl,by simp,rfl⟩
 | a::l,hl=>by
  obtain ⟨cs,h1,h2,h3⟩:=q3t h hn (f:=f) (g:=g) (ix:=ix) l λb hb=>hl b (by simp [hb])
  obtain ⟨p0,p1,p2⟩:=hl a (by simp)
  obtain ⟨c,e,m⟩:=j6r (xs:=z.cps.toList) p0 (by rw [q4Z];exact p1)
  have hz:z.length<=1000000:=by have:=h.len;omega
  refine ⟨c::cs,by simp [h1],λd hd=>?_,?_⟩
  ·rcases List.mem_cons.mp hd with rfl | hd
   ·exact m
   ·exact h2 d hd
  ·rw [List.map_cons,q6b,p2,h3]
   simp only [ixD,if_pos hz,e,List.map_cons]
theorem q8q {n:Nat} {f:Ro->Fl} {ss:List Sl} {r:Rv} (ρ:Ro) (e:ss++List.replicate (n-ss.length) .no=ρ) (h:f ρ=.rt r):fnF n f ss=.ok r:=by
 rw [fnF,e,h]
theorem q8X {body:Ro->D->Fl} (S:Nat->Ro->Prop):∀(n i:Nat),(∀j ρ,i<=j->j < i+n->S j ρ->∃ρ',body ρ (.int j)=.nx ρ'/\S (j+1) ρ')->∀ρ,S i ρ->∃ρ',q18 body (rgD (i:Int) n) ρ=.nx ρ'/\S (i+n) ρ'
 | 0,i,_,ρ,h=>⟨ρ,by rw [j0g,q13],h⟩
 | n+1,i,hb,ρ,h=>by
  obtain ⟨ρ1,e1,h1⟩:=hb i ρ (Nat.le_refl _) (by omega) h
  obtain ⟨ρ2,e2,h2⟩:=q8X S n (i+1) (λj ρ a b=>hb j ρ (by omega) (by omega)) ρ1 h1
  refine ⟨ρ2,?_,by rw [show i+(n+1)=i+1+n by omega];exact h2⟩
  rw [j0B,q2t e1]
  exact e2
theorem j9b {body:Ro->D->Fl} (S:Nat->Ro->Prop) (n:Nat) (hb:∀j ρ,j < n->S j ρ->∃ρ',body ρ (.int j)=.nx ρ'/\S (j+1) ρ') {ρ:Ro} (h:S 0 ρ):∃ρ',q18 body (rgD 0 n) ρ=.nx ρ'/\S n ρ':=by
 obtain ⟨ρ',e,h'⟩:=q8X S n 0 (λj ρ _ b=>hb j ρ (by omega)) ρ h
 exact ⟨ρ',e,by rwa [Nat.zero_add] at h'⟩
theorem pick3 (a b c i:Int):∃v,atI [D.int a,D.int b,D.int c] (i % 3)=some (.int v)/\(v=a∨v=b∨v=c):=by
 have:i % 3=0∨i % 3=1∨i % 3=2:=by omega
 rcases this with h | h | h<;>rw [h]
 ·exact ⟨a,q2x _ _,.inl rfl⟩
 ·exact ⟨b,q12 _ _ _,.inr (.inl rfl)⟩
 ·exact ⟨c,q2y _ _ _ _,.inr (.inr rfl)⟩
theorem pick4 (a b c d i:Int):∃v,atI [D.int a,D.int b,D.int c,D.int d] (i % 4)=some (.int v)/\(v=a∨v=b∨v=c∨v=d):=by
 have:i % 4=0∨i % 4=1∨i % 4=2∨i % 4=3:=by omega
 rcases this with h | h | h | h<;>rw [h]
 ·exact ⟨a,q2x _ _,.inl rfl⟩
 ·exact ⟨b,q12 _ _ _,.inr (.inl rfl)⟩
 ·exact ⟨c,q2y _ _ _ _,.inr (.inr (.inl rfl))⟩
 ·exact ⟨d,j43 _ _ _ _ _,.inr (.inr (.inr rfl))⟩
theorem q22:∀is:List Int,q01 (is.map D.int)=some (is.map V.int)
 | []=>rfl
 | i::is=>by rw [List.map_cons,q01,q22 is];rfl
theorem j28 (a b:Int):eqV (.int a) (.int b)=decide (a=b):=by
 show (a==b)=_
 rw [Bool.eq_iff_iff,beq_iff_eq,decide_eq_true_eq]
theorem q5w (i:Int):∀is:List Int,inV (.int i) (is.map V.int)=decide (i∈is)
 | []=>by simp [inV]
 | j::is=>by
  have ih:=q5w i is
  unfold inV at ih ⊢
  rw [List.map_cons,List.any_cons,ih,j28,Bool.eq_iff_iff,Bool.or_eq_true,decide_eq_true_eq,decide_eq_true_eq,decide_eq_true_eq,List.mem_cons]
  exact ⟨λh=>h.elim (λe=>.inl e.symm) .inr,λh=>h.elim (λe=>.inl e.symm) .inr⟩
theorem q9Q (neg:Bool) (i:Int) (is:List Int):inD neg (.int i) (.lst (is.map D.int))=.ok (.bl (if neg then !decide (i∈is) else decide (i∈is))):=by
 show (match q3b (.int i),q01 (is.map D.int) with | some x,some xs=>Out.ok (D.bl (if neg then !inV x xs else inV x xs)) | _,_=>.bad)=_
 rw [q22,<-q5w]
 rfl
end L3
namespace L3
open PySem PySem.Spec PyProof.Rows L2
section
variable {P:Program} {w:World} {A:Around} {E:Value->Shared->Prop} {s:Shared} {tu tv:Bool} {z TI TO i1 i2 l1 l2:Addr} {k:Nat} {xs ys:Array Value}
end
section
variable {P:Program} {w:World} {A:Around} {E:Value->Shared->Prop} {s:Shared} {tu tv:Bool} {l1 l2:Addr} {xs ys:Array Value}
end
section
variable {T:Tb} {X:Cx} {a b:Expr} {pos p tp:Pos} {fe:Ev} {fm:Ro->Out (List D)} {elts:List Expr} {x1:Nat}
end
noncomputable def q3d (ts:List Str):Str:=(PyData.list (ts.map PyData.str)).shown
theorem q3s {h:Heap}:∀{ts:List Str} {us:List Value},Vals (ts.map V.str) us->ReadsAll h us (ts.map PyData.str) []
 | [],_,.nil=>.nil
 | t::ts,_,.cons r q=>by
  obtain ⟨k,rfl⟩:=r
  exact .cons (.str t k) (q3s q)
theorem q4K:∀ts:List Str,PyData.showableAll (ts.map PyData.str)=true
 | []=>rfl
 | t::ts=>by simp [PyData.showableAll,PyData.showable,q4K ts]
theorem q4N:∀ts:List Str,PyData.hasDictAll (ts.map PyData.str)=false
 | []=>rfl
 | t::ts=>by simp [PyData.hasDictAll,PyData.hasDict,q4N ts]
theorem q3x:∀ts:List Str,PyData.depthAll (ts.map PyData.str)=0
 | []=>rfl
 | t::ts=>by simp [PyData.depthAll,PyData.depth,q3x ts]
section
variable {T:Tb} {X:Cx} {v:Expr} {es:List Expr} {pos:Pos} {fl:Ro->Out (List D)} {fs:Ro->Option (List Str)} {k:Nat}
@[simp] noncomputable def j7w (fl:Ro->Out (List D)) (fs:Ro->Option (List Str)) (ρ:Ro):Option (List Str):=match fl ρ with
 | .ok ds=>(match q19 ds with
  | some ts=>if (q3d ts).length<=200000 then (match fs ρ with | some xs=>some (q3d ts::xs) | none=>none) else none
  | none=>none)
 | _=>none
theorem q9r {ρ:Ro} {ys:List Str} (e:j7w fl fs ρ=some ys):∃ds ts xs,fl ρ=.ok ds/\q19 ds=some ts/\(q3d ts).length<=200000/\fs ρ=some xs/\ys=q3d ts::xs:=by
 unfold j7w at e
 cases ed:fl ρ with
 | ok ds=>
  rw [ed] at e
  cases et:q19 ds with
  | some ts=>
   simp only [et] at e
   by_cases h:(q3d ts).length<=200000
   ·rw [if_pos h] at e
    cases ef:fs ρ with
    | some xs=>rw [ef] at e;cases e;exact ⟨ds,ts,xs,rfl,et,h,rfl,rfl⟩
    | none=>rw [ef] at e;cases e
   ·rw [if_neg h] at e;cases e
  | none=>simp only [et] at e;cases e
 | exc c=>rw [ed] at e;cases e
 | bad=>rw [ed] at e;cases e
theorem q9t (hr:Room k X.A) (he:DL T X v fl) (hj:DJ T X es fs):DJ T X (.FormattedValue v 114 none pos::es) (j7w fl fs):=.mk λG E hp pins s σ H acc Q I ⟨ρ,ys,fr,e,z,kk⟩=>by
 obtain ⟨ds,ts,xs,ed,et,hl,ef,rfl⟩:=q9r e
 refine wpAny_FormattedValue_repr (thn (he.run G E hp pins s σ H (λw H1=>∃l vs,w=.ref l/\Same H H1/\SqL X.K H1 l vs/\RepL T X.K H1 ds vs) I ⟨ρ,fr,?_⟩) λu s1 ⟨w,H1,I1,rv,l,vs,ew,sm,sq,rl⟩=>?_)
 ·rw [ed];exact λl vs H1 sm sq rl=>⟨l,vs,rfl,sm,sq,rl⟩
 ·subst ew
  cases rv
  obtain rfl:=q2h et rl
  obtain ⟨its,r,pl,hz⟩:=I1.list sq
  obtain ⟨o,ho,hc,n,hd⟩:=pl.isList
  have un:=hr.un
  refine pyReprObj_of_reads (d:=.list (ts.map PyData.str)) (.list ho hc hd (q3s r)) (by simp [PyData.showable,q4K]) (λq=>by simp [PyData.hasDict,q4N] at q) hr.gd (by simp only [PyData.depth,q3x];omega) (λb o q=>q) (λh' u tk kp=>?_) (by rw [sizeLine_eq];show (q3d ts).length<=_;omega)
  refine formatField_str (λt' tk'=>?_) (by rw [sizeLine_eq];show (q3d ts).length<=_;omega)
  have I2:Inv (X.wish E) pins σ H1 { s1 with heap:=h',toks:=tk' }:=I1.kept kp
  exact q3H hp hj I2 (fr.mono sm) sm hl ef z kk
end
section
variable {T:Tb} {ib:Bool} {X:Cx} {e:Expr} {pos pos':Pos} {x:Str}
end
section
variable {T:Tb} {X:Cx} {a b c:Expr} {pos p p2 pos2:Pos} {fa fe fc:Ev}
end
theorem q2X {prog:Program} {w:World} {A:Around} {R:Result->Shared->Prop} {s:Shared} {elt target iter:Expr} {ifs:List Expr} {scope:Scope} {pos:Pos} {it acc:Value} {env:Env} (I:Nat->Shared->Prop)
 (turn:∀n s,I n s->wpAny (model prog w) A (pyNext it) (λr s₁=>match r with
  | none=>R (.ok .next) s₁
  | some v=>wpAny (model prog w) A (letOwnedTupleGo target it v) (λ_ s₁=>wpAny (model prog w) A (assign target env v) (λ_ s₂=>
   wpAny (model prog w) A (forIn ifs true λc r=>if r=true then do let ok <-isTrue c env (eval c env);pure (ForInStep.yield ok) else pure (ForInStep.yield r)) (λok s₃=>
    if ok=true then wpAny (model prog w) A (eval elt env) (λx s₄=>
     wpAny (model prog w) A (call (.builtin "list.append") [acc,x]) (λ_ s₅=>∃m,m < n/\I m s₅) (notedBy (model prog w) A env λe s'=>R (.error e) s') s₄) (notedBy (model prog w) A env λe s'=>R (.error e) s') s₃
    else ∃m,m < n/\I m s₃) (notedBy (model prog w) A env λe s'=>R (.error e) s') s₂) (notedBy (model prog w) A env λe s'=>R (.error e) s') s₁) (notedBy (model prog w) A env λe s'=>R (.error e) s') s₁) (notedBy (model prog w) A env λe s'=>R (.error e) s') s)
 (n:Nat) (h:I n s):codeAny (model prog w) A (.compLoop (.ListComp elt [⟨target,iter,ifs,0⟩] scope pos) 0 it acc env) R s:=by
 refine codeAny_loop rfl I (λn s hI=>?_) n h
 show wpAny _ A ((compTurn (.ListComp elt [⟨target,iter,ifs,0⟩] scope pos) 0 it acc env).onRaise (λx=>do noteFrame x env;theTreesLotGoes x)) _ _ s
 refine wpAny_noted ?_
 rw [compTurn_list]
 refine wpAny_bind (wpAny_standAt (wpAny_bind (wpAny_mono (turn n s hI) (λr s₁ h₁=>?_) λ_ _ h'=>h')))
 cases r with
 | none=>exact wpAny_pure h₁
 | some v=>
  refine wpAny_bind (wpAny_mono h₁ (λ_ s₀ h₀=>?_) λ_ _ h'=>h')
  refine wpAny_bind (wpAny_mono h₀ (λ_ s₂ h₂=>wpAny_bind (wpAny_mono h₂ (λok s₃ h₃=>?_) λ_ _ h'=>h')) λ_ _ h'=>h')
  cases ok with
  | false=>exact wpAny_pure ⟨rfl,h₃⟩
  | true=>
   exact wpAny_bind (wpAny_bind (wpAny_mono h₃ (λx s₄ h₄=>wpAny_bind (wpAny_mono h₄ (λ_ s₅ h₅=>wpAny_pure (wpAny_pure ⟨rfl,h₅⟩)) λ_ _ h'=>h')) λ_ _ h'=>h'))
section
variable {T:Tb} {X:Cx} {elt iter:Expr} {x x2:Str} {px px2 pos pt:Pos} {kk:Nat} {scope:Scope} {ys:List Str} {caps:List Nat} {fe:Ev} {ft:Ro->Out Bool} {tst:Expr} {cl:List (Str×Addr)} {pins:List (Addr×Obj)} {σ:L2.St} {G H2:Hp} {s2:Shared} {J:It} {fp:List Addr} {it:Addr} {tn:Nat->Heap->Prop} {ρ:Ro} {ds es:List D}
end
section
variable {T:Tb} {X:Cx} {elt iter tst:Expr} {x x2:Str} {px px2 pos pt:Pos} {kk:Nat} {scope:Scope} {ys:List Str} {caps:List Nat} {fe:Ev} {ft:Ro->Out Bool} {fl:Ro->Out (List D)}
end
section
open PySem.SeqAt
open PySem.AutoSeq1 (wpAny_loadPart')
end
section
variable {T:Tb} {X:Cx} {o e:Expr} {cpos apos:Pos} {fo fe:Ev}
end
section
variable {T:Tb} {X:Cx}
end
end L3
namespace L3
open PySem PySem.Spec PyProof.Rows L2
section
variable {P:Program} {w:World} {A:Around} {E:Value->Shared->Prop} {s:Shared}
end
section
variable {P:Program} {w:World} {A:Around} {E:Value->Shared->Prop} {s:Shared}
end
section
variable {P:Program} {w:World} {A:Around} {E:Value->Shared->Prop} {s:Shared}
end
section
variable {T:Tb} {X:Cx} {e:Expr} {pos p pos2 p2:Pos} {fl:Ro->Out (List D)}
end
section
variable {P:Program} {w:World} {A:Around} {E:Value->Shared->Prop} {s:Shared}
noncomputable abbrev lit (l:Addr) (k:Int):Obj:={ cls:=.type "list_iterator",data:=.fields #[.ref l,.int k 0] }
end
section
variable {T:Tb} {X:Cx} {a d:Expr} {pos p kp:Pos} {fl:Ro->Out (List D)} {fd:Ev}
end
section
variable {P:Program} {w:World} {A:Around} {E:Value->Shared->Prop} {s:Shared}
end
section
variable {T:Tb} {X:Cx} {a d:Expr} {pos p px kp kp2:Pos} {fl:Ro->Out (List D)} {fv:Ev} {k:Nat} {f:Addr} {fd:FuncData} {ps:List Str} {F:Fn} {x:Str}
end
end L3
namespace L3
open PySem L2
noncomputable def q11 (_:Ro):Fl:=.bad
theorem q0t {T:Tb} {b:Bool} {X:Cx} {sts:List Stmt}:DSs T b X sts q11:=.mk λG E hp pins s σ H D I ⟨ρ,fr,h⟩=>h.elim
end L3
namespace L3
open PySem PySem.Spec PyProof.Rows L2
section
variable {P:Program} {w:World} {A:Around} {E:Value->Shared->Prop} {s:Shared}
end
section
variable {P:Program} {w:World} {K:PySem.W.Frag} {mg:Str->Option Value} {base:Heap} {T:Tb}
end
section
variable {T:Tb} {X:Cx} {e:Expr} {es:List Expr} {pos p:Pos} {fs:Ro->Out (List Sl)} {k n:Nat} {f:Addr} {fd:FuncData} {ps:List Str} {F:Fn} {x:Str}
end
section
variable {T:Tb} {X:Cx} {elt a tst:Expr} {x:Str} {px pos p rpos:Pos} {scope:Scope} {ys:List Str} {caps:List Nat} {fe fa:Ev} {ft:Ro->Out Bool}
end
theorem _root_.L2.Room.le {j k:Nat} {A:Around} (r:Room k A) (h:j<=k:=by decide):Room j A:=r.mono h
noncomputable def FoC (T:Tb) (K:PySem.W.Frag) (at_:Str) (q:Nat×Nat):Prop:=Cls K (T.ca q.1)/\NoAttr K (T.ca q.1) at_/\(T.fl q.1).Nodup/\(T.fl q.1)[q.2]?=some at_
theorem foN {T:Tb} {K:PySem.W.Frag} {a:Str}:∀q∈([]:List (Nat×Nat)),FoC T K a q:=List.forall_mem_nil _
theorem foC {T:Tb} {K:PySem.W.Frag} {a:Str} {c j:Nat} {l:List Str} {r:List (Nat×Nat)} (cl:Cls K (T.ca c)) (na:NoAttr K (T.ca c) a) (e:T.fl c=l) (h:∀q∈r,FoC T K a q) (hd:l.Nodup:=by decide) (hj:l[j]?=some a:=by rfl):∀q∈(c,j)::r,FoC T K a q:=
 List.forall_mem_cons.mpr ⟨⟨cl,na,by show (T.fl c).Nodup;rw [e];exact hd,by show (T.fl c)[j]?=_;rw [e];exact hj⟩,h⟩
theorem flA {T:Tb} {c j:Nat} {l:List Str} {a:Str} (e:T.fl c=l) (h:l[j]?=some a:=by rfl):(T.fl c)[j]?=some a:=by rw [e];exact h
theorem flN {T:Tb} {c:Nat} {l:List Str} (e:T.fl c=l) (h:l.Nodup:=by decide):(T.fl c).Nodup:=by rw [e];exact h
@[simp] noncomputable abbrev eI (i:Int):Ev:=eC (.int i)
@[simp] noncomputable abbrev eS (x:Str):Ev:=eC (.str x)
@[simp] noncomputable abbrev tEq (a b:Ev):Ro->Out Bool:=tB2 (λa b=>bD false (eqS a b)) a b
@[simp] noncomputable abbrev tNe (a b:Ev):Ro->Out Bool:=tB2 (λa b=>bD true (eqS a b)) a b
@[simp] noncomputable abbrev qLt:D->D->Out D:=i2 λi j=>.bl (decide (i < j))
@[simp] noncomputable abbrev qGt:D->D->Out D:=i2 λi j=>.bl (decide (j < i))
@[simp] noncomputable abbrev qLe:D->D->Out D:=i2 λi j=>.bl (decide (i<=j))
@[simp] noncomputable abbrev q9V (a b:Ev):Ev:=e2 (i2 λi j=>.int (i-j)) a b
@[simp] noncomputable abbrev j61 (a b:Ev):Ev:=e2 (i2c q2u λi j=>.int (i*j)) a b
@[simp] noncomputable abbrev q2P (a b:Ev):Ev:=e2 (i2c q6K λi j=>.int (i / j)) a b
@[simp] noncomputable abbrev q1H (a b:Ev):Ev:=e2 (i2c q6H λi j=>.int (i % j)) a b
@[simp] noncomputable abbrev q1z (a b:Ev):Ev:=e2 j4K a b
@[simp] noncomputable abbrev eIx (a b:Ev):Ev:=e2 ixD a b
@[simp] noncomputable abbrev tCh (g g':D->D->Out D) (a b c:Ev):Ro->Out Bool:=fun ρ=>(q8Y g g' a b c ρ).bind D.toB
@[simp] noncomputable abbrev fFr (f:Ro->Out (List D)):Ro->Out Rv:=fun ρ=>(f ρ).bind λds=>.ok (.fr ds)
@[simp] noncomputable abbrev rC (n:Nat) (F:Fn) (fs:Ro->Out (List Sl)):Ro->Out Rv:=j0G (n:=n) F [] fs
noncomputable def hid (H:Hp) (y:Addr) (m:Option Addr):Hp:=λa=>if a=y∨m=some a then none else H a
section
variable {T:Tb} {K:PySem.W.Frag} {G H H':Hp} {σ:L2.St} {ρ:Ro} {y:Addr} {m:Option Addr} {c:Nat} {ds ks:List D}
theorem q8O {b:Addr} {o:HO} (h:H b=some o) (hy:b≠y) (hm:m≠some b):hid H y m b=some o:=by
 unfold hid
 rw [if_neg (λz=>z.elim hy hm)];exact h
theorem j3r {b:Addr} {o:HO} (h:hid H y m b=some o):H b=some o/\b≠y/\m≠some b:=by
 unfold hid at h
 by_cases z:b=y∨m=some b
 ·rw [if_pos z] at h;cases h
 ·rw [if_neg z] at h;exact ⟨h,λq=>z (.inl q),λq=>z (.inr q)⟩
theorem j0a:hid H y m y=none:=by unfold hid;rw [if_pos (.inl rfl)]
theorem q9b {a:Addr} (h:m=some a):hid H y m a=none:=by unfold hid;rw [if_pos (.inr h)]
theorem q2N:Same (hid H y m) H:=λb o e=>(j3r e).1
theorem q52 {o:HO} (h:InsAt T K H c y ds):Pers T false H (upd H y o):=λa u e st=>by
 by_cases z:a=y
 ·subst z
  obtain ⟨dx,fs,e1,e2,e3,_⟩:=h
  rw [e1] at e;cases e
  have st:(!false && decide (fs.map (·.1)=T.fl c))=true:=st
  rw [e2] at st
  have st:(T.fl c).take ds.length=T.fl c:=by simpa using st
  have:=congrArg List.length st
  rw [List.length_take] at this;omega
 ·rw [q0i z];exact e
theorem OutAt.pers {t:Bool} {a:Addr} {us:List V} (p:Pers T false H H') (h:OutAt H t a us):OutAt H' t a us:=by
 cases t with
 | true=>exact p _ _ h rfl
 | false=>
  obtain ⟨o,h⟩:=h
  exact ⟨o,p _ _ h rfl⟩
theorem q9v (h:InsAt T K H c y ds) (hm:q7d T K H m ks) (s:Same (hid H y m) H'):Pers T false H H':=λa u e st=>by
 by_cases z:a=y
 ·have:=q52 (o:=.lst []) h a u e st
  subst z
  rw [q0p] at this;cases this;cases st
 ·by_cases q:m=some a
  ·subst q
   obtain ⟨vs,e1,_⟩:=hm
   rw [e1] at e;cases e;cases st
  ·exact s _ _ (q8O e z q)
theorem SlOk.hop {x:Option (Option V)} {s:Sl} {ex:Addr->Prop} (p:Pers T false H H') (hk:∀a o,H a=some o->¬ex a->H' a=some o) (hx:∀a φ,H a=some (.ext φ)->ex a->∃kvs,s≠.od kvs/\∀kvs,s≠.od kvs) (ho:∀b,q38 H x b s->¬ex b) (hi:(∀ms,s≠.lm ms)∨∀b,T.me≠some b->∀c ds,InsAt T K H c b ds->¬ex b) (hm:∀c ds,s≠.me c ds) (h:SlOk T K G H x s):SlOk T K G H' x s:=by
 have oa:∀{t:Bool} {a:Addr} {us:List V},OutAt H t a us->OutAt H' t a us:=λ{t a us} q=>q.pers p
 cases s with
 | no=>trivial
 | sh d=>obtain ⟨v,z1,z2⟩:=h;exact ⟨v,z1,Rep.pers p _ _ z2⟩
 | ow es=>obtain ⟨b,ws,z1,z2,z3,z4⟩:=h;exact ⟨b,ws,z1,hk _ _ z2 (ho b z1),z3,RepL.pers p _ _ z4⟩
 | mo es=>obtain ⟨b,ws,z0,z1,z2,z3,z4⟩:=h;exact ⟨b,ws,z0,z1,hk _ _ z2 (ho b z1),z3,RepL.pers p _ _ z4⟩
 | bo es=>obtain ⟨b,ws,z1,z2,z4⟩:=h;exact ⟨b,ws,z1,z2,RepL.pers p _ _ z4⟩
 | bi c es=>obtain ⟨b,dx,fs,z1,z2,z3,z4,z5⟩:=h;exact ⟨b,dx,fs,z1,z2,z3,z4,RepL.pers p _ _ z5⟩
 | od kvs=>
  obtain ⟨b,xs,z1,z2,z3,z4,z5,z6⟩:=h
  exact ⟨b,xs,z1,hk _ _ z2 (λz=>by obtain ⟨_,_,q⟩:=hx b _ z2 z;exact q kvs rfl),z3,z4,z5,λq hq=>Rep.pers p _ _ (z6 q hq)⟩
 | me c es=>exact absurd rfl (hm c es)
 | lm ms=>
  obtain ⟨c,us,z1,z2,z3,z4,z5⟩:=h
  refine ⟨c,us,z1,oa z2,z3,λi m v q1 q2=>?_,z5⟩
  have z:=z4 i m v q1 q2
  match m,q1,z with
  | (none,ks),q1,⟨b,ws,y1,y2,y3,y4⟩=>
   subst y1
   exact ⟨b,ws,rfl,hk _ _ y2 (ho b ⟨c,us,i,ks,z1,z2,q2,q1⟩),y3,RepL.pers p _ _ y4⟩
  | (some k,ks),q1,⟨b,y1,y2,y3,dx,fs,w1,w2,w3,w4⟩=>
   refine ⟨b,y1,y2,y3,dx,fs,hk _ _ w1 ?_,w2,w3,RepL.pers p _ _ w4⟩
   rcases hi with hi | hi
   ·exact absurd rfl (hi ms)
   ·exact hi b y2 k ks ⟨dx,fs,w1,w2,w3,w4⟩
 | ox t pre es post=>
  obtain ⟨c,vp,b,vq,ws,z1,z2,z3,z4,z5,z6,z7⟩:=h
  exact ⟨c,vp,b,vq,ws,z1,oa z2,RepL.pers p _ _ z3,RepL.pers p _ _ z4,hk _ _ z5 (ho b (j63 z1 z2 z3)),z6,RepL.pers p _ _ z7⟩
theorem FR.me_new {c':Nat} {ds':List D} (fr:FR T K G H σ ρ) (e:ρ[0]?=some (.me c ds)) (hi:T.me=some y->InsAt T K H c y ds) (p:Pers T false H H') (hk:∀a o,H a=some o->T.me≠some a->H' a=some o) (hn:∀a,T.me=some a->InsAt T K H' c' a ds'):FR T K G H' σ (ρ.set 0 (.me c' ds')):=by
 obtain ⟨a,dx,fs,m0,e1,e2,e3,e4,r⟩:=fr.sl 0 _ e
 have h0:0 < ρ.length:=(List.getElem?_eq_some_iff.mp e).1
 have lst:∀{b:Addr} {vs:List V},H b=some (.lst vs)->T.me≠some b:=λq z=>by
  rw [m0] at z;cases z;rw [e2] at q;cases q
 have at_:∀{j:Nat} {z:Sl},(ρ.set 0 (.me c' ds'))[j]?=some z->(j=0/\z=.me c' ds')∨(j≠0/\ρ[j]?=some z):=λ{j z} q=>by
  by_cases hj:j=0
  ·subst hj
   rw [List.getElem?_set_self h0] at q;exact .inl ⟨rfl,(Option.some.inj q).symm⟩
  ·rw [List.getElem?_set_ne (Ne.symm hj)] at q;exact .inr ⟨hj,q⟩
 refine ⟨λb o q=>hk b o (fr.same b o q) λz=>?_,by simp [fr.len],λj s q=>?_,λj k s1 s2 b hjk q1 q2 o1 o2=>?_,fr.me,λj c2 es q=>?_⟩
 ·rw [m0] at z;cases z;rw [e3] at q;cases q
 ·rcases at_ q with ⟨rfl,rfl⟩ | ⟨hj,q⟩
  ·obtain ⟨dx',fs',w1,w2,w3,w4⟩:=hn a m0
   exact ⟨a,dx',fs',m0,e1,w1,e3,w2,w4⟩
  ·refine SlOk.hop (ex:=λb=>T.me=some b) p hk (λb φ z1 z2=>by rw [m0] at z2;cases z2;rw [e2] at z1;cases z1) (λb o=>?_) (.inr λb z _ _ _=>z) (λc2 es z=>?_) (fr.sl j s q)
   ·obtain ⟨⟨ws,w⟩,_⟩:=(fr.sl j s q).own o
    exact lst w
   ·subst z;exact hj (fr.me0 j c2 es q)
 ·rcases at_ q1 with ⟨rfl,rfl⟩ | ⟨hj,q1⟩
  ·exact o1
  ·rcases at_ q2 with ⟨rfl,rfl⟩ | ⟨hj2,q2⟩
   ·exact o2
   ·have bk:∀(x:Addr) (u:HO),H x=some u->(∀xs,u≠.lst xs)->(∀c dx fs,u≠.ins c dx fs)->H' x=some u:=λx u w _ n=>hk x u w λz=>by
     rw [m0] at z;cases z;rw [e2] at w;cases w;exact n _ _ _ rfl
    exact fr.ne j k s1 s2 b hjk q1 q2 ((fr.sl j s1 q1).back bk o1) ((fr.sl k s2 q2).back bk o2)
 ·rcases at_ q with ⟨rfl,_⟩ | ⟨hj,q⟩
  ·rfl
  ·exact fr.me0 j c2 es q
end
inductive j4A where
 | ok (r:D) (ds ks:List D) | exc (c:Nat) (ds ks:List D) | bad
noncomputable abbrev FnM:=List D->List D->List Sl->j4A
noncomputable def j3A (T:Tb) (K:PySem.W.Frag) (c:Nat) (H:Hp) (y:Addr) (m:Option Addr) (Q:VK) (E:Nat->Hp->Prop):j4A->Prop
 | .ok r ds ks=>∀v H',Same (hid H y m) H'->InsAt T K H' c y ds->q7d T K H' m ks->Rep T K H' r v->Q v H'
 | .exc x ds ks=>∀H',Same (hid H y m) H'->InsAt T K H' c y ds->q7d T K H' m ks->E x H'
 | .bad=>False
noncomputable def spM (T:Tb) (K:PySem.W.Frag) (c:Nat) (mo:Bool) (n:Nat) (F:FnM):Sp:=λvs H Q E=>∃(y:Addr) (m:Option Addr) (rest:List V) (ds ks:List D) (ss:List Sl),vs=.ref y::(m.toList.map V.ref++rest)/\m.isSome=mo/\InsAt T K H c y ds/\q7d T K H m ks/\ArgsOk T K (hid H y m) rest ss/\vs.length=n /\
 j3A T K c H y m Q (λx H'=>E (.ref (T.ca x)) none H') (F ds ks ss)
section
variable {T:Tb} {z u:Option Addr} {K:PySem.W.Frag}
theorem q2r {H:Hp} {m:Option Addr} {ks:List D}:q7d { T with me:=z,mo:=u } K H m ks↔q7d T K H m ks:=by
 cases m with
 | none=>exact Iff.rfl
 | some a=>exact ⟨λ⟨vs,e,r⟩=>⟨vs,e,(repL_me _ _).mp r⟩,λ⟨vs,e,r⟩=>⟨vs,e,(repL_me _ _).mpr r⟩⟩
theorem j2g {c n:Nat} {mo:Bool} {F:FnM} {vs:List V} {H:Hp} {Q:VK} {E:XK} (h:spM { T with me:=z,mo:=u } K c mo n F vs H Q E):spM T K c mo n F vs H Q E:=by
 obtain ⟨y,m,rest,ds,ks,ss,h1,h2,h3,h4,h5,h6,h7⟩:=h
 refine ⟨y,m,rest,ds,ks,ss,h1,h2,q05.mp h3,q2r.mp h4,(q1W ss rest).mp h5,h6,?_⟩
 cases e:F ds ks ss with
 | ok r ds' ks'=>rw [e] at h7;exact λv H' s a b r=>h7 v H' s (q05.mpr a) (q2r.mpr b) ((q1h _ _).mpr r)
 | exc x ds' ks'=>rw [e] at h7;exact λH' s a b=>h7 H' s (q05.mpr a) (q2r.mpr b)
 | bad=>rw [e] at h7;exact h7
theorem j5D {P:Program} {w:World} {mg:Str->Option Value} {base:Heap} {k:Nat} {f:Addr} {fd:FuncData} {ps:List Str} {c n:Nat} {mo:Bool} {F:FnM} (h:q0M P w K mg base (CXE T P w) k f fd ps (spM T K c mo n F)):q0M P w K mg base (CXE { T with me:=z,mo:=u } P w) k f fd ps (spM { T with me:=z,mo:=u } K c mo n F):=
 ⟨λvs H Q E q=>h.len vs H Q E (j2g q),λA outer s H args us vs Q E hr he hb hv hs=>h.run A outer s H args us vs Q E hr he hb hv (j2g hs)⟩
end
@[simp] noncomputable def q8T (mo:Bool) (ρ:Ro):Option (List D):=if mo=true then (match (ρ[1]?:Option Sl) with | some (.mo ks)=>some ks | _=>none) else some []
@[simp] noncomputable def j3m {α:Type} (c ar:Nat) (mo:Bool) (ρ:Ro) (bad:α) (k:List D->List D->α):α:=match (ρ[0]?:Option Sl) with
 | some (.me c' ds)=>if c'=c/\ds.length=ar then (match q8T mo ρ with | some ks=>k ds ks | none=>bad) else bad
 | _=>bad
@[simp] noncomputable def q4g (mo:Bool) (ks:List D):List Sl:=if mo=true then [.mo ks] else []
@[simp] noncomputable def mF (n c ar:Nat) (mo:Bool) (f:Ro->Fl) (ds ks:List D) (ss:List Sl):j4A:=match f (.me c ds::(q4g mo ks++ss)++List.replicate (n-((q4g mo ks++ss).length+1)) .no) with
 | .nx ρ=>j3m c ar mo ρ .bad λds ks=>.ok .non ds ks
 | .rm r c' ds ks=>if c'=c then .ok r ds ks else .bad
 | .exc x ρ=>j3m c ar mo ρ .bad λds ks=>.exc x ds ks
 | _=>.bad
section
variable {P:Program} {w:World} {K:PySem.W.Frag} {mg:Str->Option Value} {base:Heap} {T:Tb}
theorem q3J {G H:Hp} {σ:L2.St} {ρ:Ro} {c ar:Nat} {mo:Bool} {α:Type} {bad:α} {k:List D->List D->α} {R:α->Prop} (hb:¬R bad) (har:ar < (T.fl c).length) (hmo:T.mo.isSome=mo) (fr:FR T K G H σ ρ) (h:R (j3m c ar mo ρ bad k)) :
 ∃y ds ks,T.me=some y/\ρ[0]?=some (.me c ds)/\ds.length=ar/\q8T mo ρ=some ks/\InsAt T K H c y ds/\q7d T K H T.mo ks/\R (k ds ks):=by
 cases e0:ρ[0]? with
 | none=>simp only [j3m,e0] at h;exact absurd h hb
 | some sl=>
  cases sl with
  | me c' ds=>
   simp only [j3m,e0] at h
   by_cases hc:c'=c/\ds.length=ar
   ·rw [if_pos hc] at h
    obtain ⟨rfl,hl⟩:=hc
    cases ek:q8T mo ρ with
    | none=>simp only [ek] at h;exact absurd h hb
    | some ks=>
     simp only [ek] at h
     obtain ⟨a,dx,fs,m0,e1,e2,e3,e4,r⟩:=fr.sl 0 _ e0
     refine ⟨a,ds,ks,m0,rfl,hl,rfl,⟨dx,fs,e2,e4,by omega,r⟩,?_,h⟩
     cases mo with
     | false=>
      cases em:T.mo with
      | some _=>rw [em] at hmo;cases hmo
      | none=>cases ek;rfl
     | true=>
      have ek:(match (ρ[1]?:Option Sl) with | some (.mo ks)=>some ks | _=>none)=some ks:=ek
      cases e5:ρ[1]? with
      | none=>rw [e5] at ek;cases ek
      | some s1=>
       rw [e5] at ek
       cases s1 with
       | mo ks'=>
        cases ek
        obtain ⟨b,vs,q0,q1,q2,q3,q4⟩:=fr.sl 1 _ e5
        rw [q0];exact ⟨vs,q2,q4⟩
       | _=>cases ek
   ·rw [if_neg hc] at h;exact absurd h hb
  | _=>simp only [j3m,e0] at h;exact absurd h hb
theorem w1v {H:Hp} {N:List Str} {y:Addr} {m:Option Addr} {rest:List V} {ss:List Sl} {ds ks:List D} {c:Nat} {mo:Bool} (hmo:m.isSome=mo) (hi:InsAt T K H c y ds) (hk:q7d T K H m ks) (h:ArgsOk T K (hid H y m) rest ss) (hN:(m.toList.map V.ref++rest).length+1<=N.length) :
 FR { T with me:=some y,mo:=m } K (hid H y m) H (L2.start N (.ref y::(m.toList.map V.ref++rest))) (.me c ds::(q4g mo ks++ss)++List.replicate (N.length-((q4g mo ks++ss).length+1)) .no):=by
 have hl:=ArgsOk.length ss rest h
 have st:∀(i:Nat) (v:V),(V.ref y::(m.toList.map V.ref++rest))[i]?=some v->(L2.start N (.ref y::(m.toList.map V.ref++rest)))[i]?=some (some v):=λi v e=>by
  unfold L2.start
  have hi:i < (V.ref y::(m.toList.map V.ref++rest)).length:=(List.getElem?_eq_some_iff.mp e).1
  rw [List.getElem?_append_left (by simpa using hi),List.getElem?_map,e];rfl
 have hlm:(q4g mo ks).length=(m.toList.map V.ref).length:=by
  cases m with
  | none=>subst hmo;rfl
  | some a=>subst hmo;rfl
 have cases_:∀(i:Nat) (s:Sl),(Sl.me c ds::(q4g mo ks++ss)++List.replicate (N.length-((q4g mo ks++ss).length+1)) Sl.no)[i]?=some s->(i=0/\s=.me c ds)∨(i=1/\mo=true/\s=.mo ks)∨(∃j,i=(q4g mo ks).length+j+1/\ss[j]?=some s)∨s=.no:=λi s e=>by
  cases i with
  | zero=>exact .inl ⟨rfl,by simpa using e.symm⟩
  | succ j=>
   rw [List.cons_append,List.getElem?_cons_succ] at e
   by_cases hj:j < (q4g mo ks++ss).length
   ·rw [List.getElem?_append_left hj] at e
    by_cases hj2:j < (q4g mo ks).length
    ·rw [List.getElem?_append_left hj2] at e
     cases mo with
     | false=>exact absurd hj2 (Nat.not_lt_zero _)
     | true=>
      have:j=0:=by
       have:j < 1:=hj2
       omega
      subst this
      exact .inr (.inl ⟨rfl,rfl,(Option.some.inj e).symm⟩)
    ·rw [List.getElem?_append_right (by omega)] at e
     exact .inr (.inr (.inl ⟨j-(q4g mo ks).length,by omega,e⟩))
   ·rw [List.getElem?_append_right (by omega),List.getElem?_replicate] at e
    split at e
    ·cases e;exact .inr (.inr (.inr rfl))
    ·cases e
 have arg:∀(j:Nat) (s:Sl),ss[j]?=some s->∃v,(V.ref y::(m.toList.map V.ref++rest))[(q4g mo ks).length+j+1]?=some v/\ArgOk T K (hid H y m) v s:=λj s q=>by
  obtain ⟨v,e1,r⟩:=ArgsOk.get ss rest j s h q
  refine ⟨v,?_,r⟩
  rw [List.getElem?_cons_succ,List.getElem?_append_right (by omega),hlm,Nat.add_sub_cancel_left]
  exact e1
 have ow:∀(i:Nat) (s:Sl) (x:Option (Option V)) (b:Addr),(Sl.me c ds::(q4g mo ks++ss)++List.replicate (N.length-((q4g mo ks++ss).length+1)) Sl.no)[i]?=some s->q38 H x b s->i=1:=λi s x b q o=>by
  rcases cases_ i s q with ⟨_,z⟩ | ⟨z,_⟩ | ⟨j,_,z⟩ | z
  ·subst z;exact o.elim
  ·exact z
  ·obtain ⟨v,_,r⟩:=arg j s z
   cases s with
   | sh d=>exact o.elim
   | bo ds=>exact o.elim
   | bi c ds=>exact o.elim
   | _=>exact r.elim
  ·subst z;exact o.elim
 refine ⟨q2N,?_,λi s e=>?_,λi j s t b hij q1 q2 o1 o2=>?_,λx e=>?_,λi c' es q=>?_⟩
 ·unfold L2.start;simp only [List.length_append,List.length_cons,List.length_replicate,List.length_map] at hN ⊢
  have:(q4g mo ks++ss).length=(m.toList.map V.ref++rest).length:=by rw [List.length_append,List.length_append,hlm,hl]
  simp only [List.length_append,List.length_map] at this
  omega
 ·rcases cases_ i s e with ⟨rfl,rfl⟩ | ⟨rfl,rfl,rfl⟩ | ⟨j,rfl,q⟩ | rfl
  ·obtain ⟨dx,fs,e1,e2,e3,r⟩:=hi
   exact ⟨y,dx,fs,rfl,st 0 _ rfl,e1,j0a,e2,(repL_me _ _).mpr r⟩
  ·cases m with
   | none=>cases hmo
   | some a=>
    obtain ⟨vs,e1,r⟩:=hk
    exact ⟨a,vs,rfl,st 1 _ rfl,e1,q9b rfl,(repL_me _ _).mpr r⟩
  ·obtain ⟨v,e1,r⟩:=arg j s q
   rw [st _ v e1]
   cases s with
   | sh d=>exact ⟨v,rfl,(q1h d v).mpr (Rep.mono q2N _ _ r)⟩
   | bo ds=>
    obtain ⟨a,us,rfl,r2,r3⟩:=r
    exact ⟨a,us,rfl,r2,(repL_me ds us).mpr (RepL.mono q2N _ _ r3)⟩
   | bi c ds=>
    obtain ⟨a,rfl,dx,fs,r2,r3,r4,r5⟩:=r
    exact ⟨a,dx,fs,rfl,r2,r3,r4,(repL_me ds _).mpr (RepL.mono q2N _ _ r5)⟩
   | _=>exact r.elim
  ·trivial
 ·exact hij ((ow i s _ b q1 o1).trans (ow j t _ b q2 o2).symm)
 ·cases e;exact st 0 _ rfl
 ·rcases cases_ i _ q with ⟨z,_⟩ | ⟨_,_,z⟩ | ⟨j,_,z⟩ | z
  ·exact z
  ·cases z
  ·obtain ⟨v,_,r⟩:=arg j _ z;exact r.elim
  ·cases z
theorem w0r {c ar:Nat} {mo:Bool} {x qual:Str} {st:Stmt} {fa:Addr} {fd:FuncData} {N ps:List Str} {k:Nat} {f:Ro->Fl} (har:ar < (T.fl c).length) (F:∃(oc:Value) (od:Option Addr) (dV kV doc pm:Value) (an:Option Addr) (cdv ct:Value) (osl:Array (Option Value)),
 fd=PySem.W.fnOf x qual (q1r st) (q0Z st) (q0g st) dV kV doc pm an cdv ct/\K.lookup fa=some ⟨oc,od,.func fd,osl⟩/\PySem.W.codeIn K cdv qual=true) (S:q0l N ps (q0g st))
 (hb:∀(y:Addr) (m:Option Addr) (cdv:Value) (A:Around) (outer:List Env) (s:Shared) (H:Hp) (E:XK),m.isSome=mo->Room k (A.deeper (envOfC qual (q0g st) s.heap.objs.size fa cdv))->DSs { T with me:=some y,mo:=m } false (CxD T P w K mg base N qual (q0g st) fa cdv A outer s H E) (q0Z st) f) :
 q0M P w K mg base (CXE T P w) (k+1) fa fd ps (spM T K c mo ps.length (mF N.length c ar mo f)):=by
 obtain ⟨oc,od,dV,kV,doc,pm,an,cdv,ct,osl,rfl,lk,hcd⟩:=F
 refine j4n lk hcd S (λvs H Q E ⟨_,_,_,_,_,_,_,_,_,_,_,e,_⟩=>e) λA outer s H vs Q E hr ⟨y,m,rest,ds,ks,ss,ev,hmo,hi,hk,ha,hl,ho⟩=>?_
 subst ev
 have hpl:ps.length<=N.length:=by have:=congrArg List.length S.pre;rw [List.length_take] at this;omega
 have fr:=w1v (N:=N) hmo hi hk ha (by rw [List.length_cons] at hl;omega)
 refine ⟨_,(hb y m cdv A outer s H E hmo hr).run (hid H y m) (CxD T P w K mg base N qual (q0g st) fa cdv A outer s H E).xe PassesOwn.leaving,_,fr,?_⟩
 have ho:j3A T K c H y m Q (λx H'=>E (.ref (T.ca x)) none H') (mF N.length c ar mo f ds ks ss):=ho
 unfold mF at ho
 cases e:f (.me c ds::(q4g mo ks++ss)++List.replicate (N.length-((q4g mo ks++ss).length+1)) .no) with
 | nx ρ=>
  rw [e] at ho
  intro σ H' fr' _
  obtain ⟨y',ds',ks',m0,_,_,_,h1,h2,h3⟩:=q3J (T:={ T with me:=some y,mo:=m }) (R:=j3A T K c H y m Q (λx H'=>E (.ref (T.ca x)) none H')) (bad:=j4A.bad) (λz=>z) har hmo fr' ho
  cases m0
  exact h3 .non H' fr'.same (q05.mp h1) (q2r.mp h2) rfl
 | rm r c' ds' ks'=>
  rw [e] at ho
  have ho:j3A T K c H y m Q _ (if c'=c then .ok r ds' ks' else .bad):=ho
  by_cases hc:c'=c
  ·rw [if_pos hc] at ho
   subst hc
   intro v H' sm rv ⟨a,m0,h1⟩ h2
   cases m0
   exact ho v H' sm (q05.mp h1) (q2r.mp h2) ((q1h _ _).mp rv)
  ·rw [if_neg hc] at ho;exact ho.elim
 | exc x ρ=>
  rw [e] at ho
  intro σ' H' fr' _ pins s' u H'' I hs fl
  obtain ⟨y',ds',ks',m0,_,_,_,h1,h2,h3⟩:=q3J (T:={ T with me:=some y,mo:=m }) (R:=j3A T K c H y m Q (λx H'=>E (.ref (T.ca x)) none H')) (bad:=j4A.bad) (λz=>z) har hmo fr' ho
  cases m0
  refine q2g I rfl rfl rfl fl (h3 H'' (fr'.same.trans hs) (q05.mp (h1.mono hs)) ?_)
  refine (q2r (T:=T) (z:=some y) (u:=m)).mp ?_
  revert h2
  show q7d _ K H' m ks'->q7d _ K H'' m ks'
  cases m with
  | none=>exact λz=>z
  | some a=>exact λ⟨vs,e1,r⟩=>⟨vs,hs _ _ e1,RepL.mono hs _ _ r⟩
 | rt r=>rw [e] at ho;exact ho.elim
 | bk ρ=>rw [e] at ho;exact ho.elim
 | ct ρ=>rw [e] at ho;exact ho.elim
 | bad=>rw [e] at ho;exact ho.elim
end
inductive OutE where
 | ok (d:D) (ρ:Ro) | exc (c:Nat) (ρ:Ro) | bad
noncomputable def AccE (T:Tb) (X:Cx) (G:Hp) (E:Value->Shared->Prop) (σ:L2.St) (H:Hp) (Q:VK):OutE->Prop
 | .ok d ρ=>∀v H',FR T X.K G H' σ ρ->Pers T false H H'->Rep T X.K H' d v->Q v H'
 | .exc c ρ=>∀H',FR T X.K G H' σ ρ->Pers T false H H'->XW T X E σ H' c
 | .bad=>False
noncomputable def tM (T:Tb) (X:Cx) (G:Hp) (E:Value->Shared->Prop) (f:Ro->OutE):TE:=fun σ H Q=>∃ρ,FR T X.K G H σ ρ/\AccE T X G E σ H Q (f ρ)
structure DM (T:Tb) (X:Cx) (e:Expr) (f:Ro->OutE):Prop where
 mk ::
 run:∀(G:Hp) (E:Value->Shared->Prop),PassesOwn (model X.prog X.w) X.A X.env E->PE (X.wish E) e (tM T X G E f)
@[simp] noncomputable def OutE.fl (o:OutE) (k:D->Ro->Fl):Fl:=match o with
 | .ok d ρ=>k d ρ
 | .exc c ρ=>.exc c ρ
 | .bad=>.bad
section
variable {T:Tb} {X:Cx} {G H:Hp} {σ:L2.St} {E:Value->Shared->Prop} {Q:VK} {D₀:Ends}
theorem AccE.fl {o:OutE} {k:D->Ro->Fl} (h:AccS T false X G E H (o.fl k) D₀) (hk:∀d ρ,o=.ok d ρ->∀v H',FR T X.K G H' σ ρ->Pers T false H H'->Rep T X.K H' d v->AccS T false X G E H' (k d ρ) D₀->Q v H'):AccE T X G E σ H Q o:=by
 cases o with
 | ok d ρ=>exact λv H' fr p r=>hk d ρ rfl v H' fr p r (AccS.heap p h)
 | exc c ρ=>exact λH' fr p=>h σ H' fr p
 | bad=>exact h
end
section
variable {T:Tb} {X:Cx} {e a b:Expr} {es:List Expr} {pos p p2 p3 apos:Pos} {fe fa fb:Ev} {fs:Ro->Out (List Sl)} {k n c ar:Nat} {f:Addr} {fd:FuncData} {ps:List Str} {F:FnM} {x z:Str} {fM:Ro->OutE} {body:List Stmt} {fbo:Ro->Fl}
theorem j8J {mo:Bool} {pins:List (Addr×Obj)} {σ:L2.St} {H:Hp} {s:Shared} {E:Value->Shared->Prop} {Q:VK} {us:List Value} {y:Addr} {m:Option Addr} {rest:List V} {ds ks:List D} {ss:List Sl} (FO:q0M X.prog X.w X.K X.mg X.base (CXE T X.prog X.w) k f fd ps (spM T X.K c mo ps.length F)) (hr:Room k X.A) (hb:Binds X.K fd ps [])
 (I:Inv (X.wish E) pins σ H s) (r:Vals (.ref y::(m.toList.map V.ref++rest)) us) (hmo:m.isSome=mo) (hi:InsAt T X.K H c y ds) (hk:q7d T X.K H m ks) (ha:ArgsOk T X.K (hid H y m) rest ss) (hl:us.length=ps.length)
 (h:j3A T X.K c H y m Q (λx H'=>XW T X E σ H' x) (F ds ks ss)) :
 wpAny (model X.prog X.w) X.A (call (.ref f) us) (EP (X.wish E) pins σ Q) E s:=by
 have IX:Inv X pins σ H s:=I.unwish
 let EX:XK:=λcls _ H'=>∃x,cls=.ref (T.ca x)/\XW T X E σ H' x
 refine wpAny_call (codeAny_mono (FO.run X.A X.stack s H ⟨us,[]⟩ us _ Q EX hr IX.env0 (by have:=hb s us IX.kIn (by simpa using hl);simpa using this) r ⟨y,m,rest,ds,ks,ss,rfl,hmo,hi,hk,ha,r.length.trans hl,?_⟩) λres s' hq=>?_)
 ·cases e:F ds ks ss with
  | ok r ds' ks'=>rw [e] at h;exact h
  | exc x ds' ks'=>rw [e] at h;exact λH' s i k=>⟨x,rfl,h H' s i k⟩
  | bad=>rw [e] at h;exact h.elim
 ·cases res with
  | error ev=>
   obtain ⟨c1,H',I',fl,c',ec,hx⟩:=Inv.flown IX hq
   refine hx pins s' ev H' I' (Same.refl _) ?_
   obtain ⟨ea,rfl,h1,h2,nc,oe,vs',a0,he,hc,rest⟩:=fl
   exact ⟨ea,rfl,h1,h2,nc,oe,vs',a0,he,hc.trans ec,rest⟩
  | ok fl=>
   cases fl with
   | ret u=>
    obtain ⟨v,H',I',rv,q⟩:=IX.after hq
    exact ⟨v,H',I'.wish E,rv,q⟩
   | next=>exact False.elim hq
   | brk=>exact False.elim hq
   | cont=>exact False.elim hq
noncomputable def j4w:Sl->Bool
 | .sh _=>true
 | _=>false
theorem j1H {H H':Hp} (p:Pers T false H H'):∀(ss:List Sl) (vs:List V),ss.all j4w=true->ArgsOk T X.K H vs ss->ArgsOk T X.K H' vs ss
 | [],_,_,h=>h
 | s::ss,_,q,⟨v,r,e,h1,h2⟩=>by
  rw [List.all_cons,Bool.and_eq_true] at q
  refine ⟨v,r,e,?_,j1H p ss r q.2 h2⟩
  cases s with
  | sh d=>exact Rep.pers p _ _ h1
  | _=>cases q.1
theorem pers0 {K:PySem.W.Frag} {H H':Hp} {y:Addr} {ds:List D} (h:InsAt T K H c y ds) (s:Same (hid H y none) H'):Pers T false H H':=q9v (m:=none) (ks:=[]) h rfl s
@[simp] noncomputable def j39 (c:Nat) (ρ:Ro):j4A->OutE
 | .ok r ds _=>.ok r (ρ.set 0 (.me c ds))
 | .exc x ds _=>.exc x (ρ.set 0 (.me c ds))
 | .bad=>.bad
@[simp] noncomputable def j9A (n:Nat) (o:Out (List Sl)) (ρ:Ro) (k:List Sl->OutE):OutE:=match o with
 | .ok ss=>if ss.length=n/\ss.all j4w=true then k ss else .bad
 | .exc x=>.exc x ρ
 | .bad=>.bad
@[simp] noncomputable def eM (n c ar:Nat) (F:FnM) (fs:Ro->Out (List Sl)) (ρ:Ro):OutE:=match (ρ[0]?:Option Sl) with
 | some (.me c' ds)=>if c'=c/\ds.length=ar then j9A n (fs ρ) ρ λss=>j39 c ρ (F ds [] ss) else .bad
 | _=>.bad
theorem j6G {G H H1:Hp} {σ:L2.St} {ρ:Ro} {E:Value->Shared->Prop} {Q:VK} {y:Addr} {ds:List D} {ss:List Sl} (fr:FR T X.K G H1 σ ρ) (e0:ρ[0]?=some (.me c ds)) (m0:T.me=some y) (hi:InsAt T X.K H1 c y ds) (p:Pers T false H H1) (h:AccE T X G E σ H Q (j39 c ρ (F ds [] ss))) :
 j3A T X.K c H1 y none Q (λx H'=>XW T X E σ H' x) (F ds [] ss):=by
 have nw:∀{ds':List D} {H':Hp},Same (hid H1 y none) H'->InsAt T X.K H' c y ds'->FR T X.K G H' σ (ρ.set 0 (.me c ds')):=λ{ds' H'} s i=>
  fr.me_new e0 (λz=>by rw [m0] at z;cases z;exact hi) (pers0 hi s) (λa o q n=>s _ _ (q8O q (λz=>n (z ▸ m0)) (by simp))) (λa z=>by rw [m0] at z;cases z;exact i)
 cases e:F ds [] ss with
 | ok r ds' ks'=>rw [e] at h;exact λv H' s i _ rv=>h v H' (nw s i) (p.trans (pers0 hi s)) rv
 | exc x ds' ks'=>rw [e] at h;exact λH' s i _=>h H' (nw s i) (p.trans (pers0 hi s))
 | bad=>rw [e] at h;exact h.elim
theorem j5m {G H:Hp} {σ:L2.St} {ρ:Ro} {ds:List D} (har:ar < (T.fl c).length) (fr:FR T X.K G H σ ρ) (e0:ρ[0]?=some (.me c ds)) (hl:ds.length=ar):∃y,T.me=some y/\σ[0]?=some (some (.ref y))/\InsAt T X.K H c y ds:=by
 obtain ⟨a,dx,fs,m0,e1,e2,e3,e4,r⟩:=fr.sl 0 _ e0
 exact ⟨a,m0,e1,dx,fs,e2,e4,by omega,r⟩
theorem j3I {mth:Str} {pl:Sem Bool} (har:ar < (T.fl c).length) (cls:Cls X.K (T.ca c)) (hm:Meth X.K (T.ca c) mth f) (hmf:mth∉T.fl c) (FO:q0M X.prog X.w X.K X.mg X.base (CXE T X.prog X.w) k f fd ps (spM T X.K c false ps.length F)) (hr:Room k X.A) (hb:Binds X.K fd ps []) (hn:n+1=ps.length) (ha:DG T X (e::es) fs)
 (hN:X.N[0]?=some x:=by rfl) (hv:Vis X.env.scope x:=by walk_at "v0") (hd:(x==("__debug__" : Str))=false:=by decide) (hcd:(x==("__classdict__" : Str))=false:=by decide)
 (hst:starEach (e::es) X.env=(false,eval e X.env)::starEach es X.env:=by exact q0B rfl) (hpl:(backTo pos (starEach es X.env)).any (·.1)=false:=by exact q0F rfl)
 (ht:eval (.Call (.Attribute (.Name x p) mth apos) (e::es) [] pos) X.env=(do
  let ov <-eval (.Name x p) X.env
  standAt apos.atName
  let (f,first) <-holding [ov] (getMethod ov mth pl)
  callWith pos f first (backTo pos (starEach (e::es) X.env)) (backToKw pos (keywordEach [] X.env))):=by rfl) :
 DM T X (.Call (.Attribute (.Name x p) mth apos) (e::es) [] pos) (eM n c ar F fs):=.mk λG E hp=>by
 rintro pins s σ H Q I ⟨ρ,fr,h⟩
 have h:AccE T X G E σ H Q (eM n c ar F fs ρ):=h
 unfold eM at h
 cases e0:ρ[0]? with
 | none=>simp only [e0] at h;exact h.elim
 | some sl=>
  cases sl with
  | me c' ds=>
   simp only [e0] at h
   by_cases hc:c'=c/\ds.length=ar
   ·rw [if_pos hc] at h
    obtain ⟨rfl,hl⟩:=hc
    obtain ⟨y,m0,e1,hi⟩:=j5m har fr e0 hl
    refine PySem.W.methodCall_KW (pl:=pl) (thn (q1V (X:=X.wish E) hN hv hd hcd pins s σ H (λx H1=>x=.ref y/\H1=H) I ⟨_,e1,rfl,rfl⟩) λu s1 ⟨xv,H1,I1,rx,ex,eH⟩=>?_) ht
    subst ex eH
    obtain rfl:u=Value.ref y:=rx
    obtain ⟨dx,fl,q1,q2,q3,q4⟩:=id hi
    refine q3q (X:=X.wish E) I1 q1 cls hm (q1Y (by rw [q2];exact λz=>hmf (List.mem_of_mem_take z))) ?_
    refine PySem.W.callWith_K (first:=[.ref y]) (h₀:=X.base) I.ok.mod.kin hm.kp (thn (ha.run G E hp pos pins s1 σ H1 (λvs H2=>∃ss,ArgsOk T X.K H2 vs ss/\ss.length=n/\ss.all j4w=true/\Same H1 H2/\AccE T X G E σ H1 Q (j39 c' ρ (F ds [] ss))) I1 ⟨ρ,fr,?_⟩) λus s2 ⟨vs,H2,I2,r,ss,ha2,hl2,hsh,s2',q2⟩=>⟨I2.kIn,?_⟩) hst hpl
    ·cases ef:fs ρ with
     | ok ss=>
      rw [ef] at h
      by_cases hls:ss.length=n/\ss.all j4w=true
      ·simp only [j9A,if_pos hls] at h
       exact λvs H1 s1 r1=>⟨ss,r1,hls.1,hls.2,s1,h⟩
      ·simp only [j9A,if_neg hls] at h;exact h.elim
     | exc x=>rw [ef] at h;exact h H1 fr (Pers.refl H1)
     | bad=>rw [ef] at h;exact h.elim
    ·have hi1:=hi.mono s2'
     have la:=ArgsOk.length ss vs ha2
     have lr:=r.length
     exact j8J (X:=X) (us:=.ref y::us) (m:=none) (ks:=[]) FO hr hb I2 (.cons rfl r) rfl hi1 rfl (j1H (pers0 hi1 (Same.refl _)) _ _ hsh ha2) (by rw [List.length_cons];omega) (j6G (fr.mono s2') e0 m0 hi1 (Pers.of s2') q2)
   ·rw [if_neg hc] at h;exact h.elim
  | _=>simp only [e0] at h;exact h.elim
@[simp] noncomputable def w0e (c ar:Nat) (mo:Bool) (d:D) (ρ:Ro):Fl:=j3m c ar mo ρ .bad λds ks=>.rm d c ds ks
theorem j0b {mo:Bool} {G H:Hp} {σ:L2.St} {ρ:Ro} {E:Value->Shared->Prop} {d:D} {v:V} {D₀:Ends} (har:ar < (T.fl c).length) (hmo:T.mo.isSome=mo) (fr:FR T X.K G H σ ρ) (r:Rep T X.K H d v) (h:AccS T false X G E H (w0e c ar mo d ρ) D₀):D₀.rt v H:=by
 obtain ⟨y,ds,ks,m0,_,_,_,h1,h2,h3⟩:=q3J (T:=T) (R:=λo=>AccS T false X G E H o D₀) (bad:=Fl.bad) (λz=>z) har hmo fr h
 exact h3 v H fr.same r ⟨y,m0,h1⟩ h2
@[simp] noncomputable def j6i (c ar:Nat) (mo:Bool) (fe:Ev) (ρ:Ro):Fl:=(fe ρ).fl ρ λd=>w0e c ar mo d ρ
theorem j3b {mo:Bool} (har:ar < (T.fl c).length) (hmo:T.mo.isSome=mo) (he:DE T X e fe):DS T false X (.Return (some e) pos) (j6i c ar mo fe):=.mk λG E hp=>
 PS.imp (q53 (he.run G E hp)) λD σ H ⟨ρ,fr,h⟩=>⟨ρ,fr,Acc.mono (AccS.fl fr h) λd _ hd v H1 s1 r1=>j0b har hmo (fr.mono s1) r1 (AccS.heap (Pers.of s1) hd)⟩
end
section
variable {T:Tb} {ib:Bool} {X:Cx} {e o a b:Expr} {es:List Expr} {pos pos' p p1 p2 p3 p4 apos:Pos} {fe fa fb:Ev} {fs:Ro->Out (List Sl)} {k n c ar:Nat} {f:Addr} {fd:FuncData} {ps:List Str} {F:FnM} {x z:Str} {fl:Ro->Out (List D)}
theorem q5I {a:Str} {v:V}:∀{fs:List (Str×V)} {j:Nat},(fs.map (·.1)).Nodup->(fs.map (·.1))[j]?=some a->(q2F a v fs).map (·.1)=fs.map (·.1)/\(q2F a v fs).map (·.2)=(fs.map (·.2)).set j v
 | [],_,_,h=>by simp at h
 | (b,u)::r,0,_,h=>by
  obtain rfl:b=a:=by simpa using h
  rw [q2F,if_pos rfl];exact ⟨rfl,rfl⟩
 | (b,u)::r,j+1,nd,h=>by
  rw [List.map_cons,List.nodup_cons] at nd
  rw [List.map_cons,List.getElem?_cons_succ] at h
  have hb:¬b=a:=λz=>nd.1 (z ▸ List.mem_of_getElem? h)
  obtain ⟨q1,q2⟩:=q5I (v:=v) nd.2 h
  rw [q2F,if_neg hb]
  exact ⟨by rw [List.map_cons,List.map_cons,q1],by rw [List.map_cons,List.map_cons,List.set_cons_succ,q2]⟩
@[simp] noncomputable def j0H (c j ar:Nat) (fe:Ev) (ρ:Ro):Fl:=(fe ρ).fl ρ λd=>match (ρ[0]?:Option Sl) with
 | some (.me c' ds)=>if c'=c/\j<=ds.length/\ds.length<=ar then .nx (ρ.set 0 (.me c (if j < ds.length then ds.set j d else ds++[d]))) else .bad
 | _=>.bad
theorem q40 {at_:Str} (j:Nat) (har:ar < (T.fl c).length) (hja:j < ar) (cl:Cls X.K (T.ca c)) (na:NoAttr X.K (T.ca c) at_) (hj:(T.fl c)[j]?=some at_) (hnd:(T.fl c).Nodup) (h1000:ar < 1000) (he:DE T X e fe) (hN:X.N[0]?=some x:=by rfl) (hv:Vis X.env.scope x:=by walk_at "v0")
 (hs:swapsWith e (some (.Attribute (.Name x p) at_ pos')) pos.line X.env=pure false:=by exact q1k rfl) (hd:(x==("__debug__" : Str))=false:=by decide) (hcd:(x==("__classdict__" : Str))=false:=by decide) :
 DS T false X (.Assign [.Attribute (.Name x p) at_ pos'] e pos) (j0H c j ar fe):=.mk λG E hp=>by
 refine PS.imp (j2u (X:=X.wish E) (q1V (X:=X.wish E) hN hv hd hcd) (he.run G E hp) hs) λD σ H ⟨ρ,fr,h⟩=>⟨ρ,fr,Acc.mono (AccS.fl fr h) λd _ hd2 v H1 s1 rd=>?_⟩
 have fr1:=fr.mono s1
 cases e0:ρ[0]? with
 | none=>simp only [e0] at hd2;exact hd2.elim
 | some sl=>
  cases sl with
  | me c' ds=>
   simp only [e0] at hd2
   by_cases hc:c'=c/\j<=ds.length/\ds.length<=ar
   ·rw [if_pos hc] at hd2
    obtain ⟨rfl,hjl,hla⟩:=hc
    obtain ⟨y,dx,fs,m0,e1,e2,e3,e4,r⟩:=fr1.sl 0 _ e0
    have hi:InsAt T X.K H1 c' y ds:=⟨dx,fs,e2,e4,by omega,r⟩
    have hfl:fs.length=ds.length:=by have:=RepL.length _ _ r;simpa using this
    have hnds:(fs.map (·.1)).Nodup:=by rw [e4];exact hnd.sublist (List.take_sublist _ _)
    refine ⟨_,e1,y,T.ca c',dx,fs,rfl,e2,cl,na,by omega,?_⟩
    have p:Pers T false H1 (upd H1 y (.ins (T.ca c') dx (q2F at_ v fs))):=q52 hi
    refine hd2 σ _ (fr1.me_new e0 (λz=>by rw [m0] at z;cases z;exact hi) p (λa o q n=>by rw [q0i (λz=>by subst z;exact n m0)];exact q) λa z=>?_) ((Pers.of s1).trans p)
    rw [m0] at z;cases z
    by_cases hlt:j < ds.length
    ·rw [if_pos hlt]
     have ej:(fs.map (·.1))[j]?=some at_:=by rw [e4,List.getElem?_take_of_lt hlt];exact hj
     obtain ⟨q1,q2⟩:=q5I (v:=v) hnds ej
     refine ⟨dx,_,q0p,by rw [q1,e4,List.length_set],by rw [List.length_set];omega,?_⟩
     rw [q2]
     exact RepL.set _ _ _ _ _ (RepL.pers p _ _ r) (Rep.pers p _ _ rd)
    ·rw [if_neg hlt]
     have hjj:ds.length=j:=by omega
     have hnm:at_∉fs.map (·.1):=λz=>by
      rw [e4,hjj] at z
      obtain ⟨i,hi⟩:=List.getElem?_of_mem z
      obtain ⟨hi1,_⟩:=List.getElem?_eq_some_iff.mp hi
      rw [List.length_take] at hi1
      rw [List.getElem?_take_of_lt (by omega)] at hi
      have:=q2J hnd hi hj
      omega
     refine ⟨dx,_,q0p,?_,by rw [List.length_append,List.length_cons,List.length_nil];omega,?_⟩
     ·rw [q2i hnm,List.map_append,e4,List.length_append,List.length_cons,List.length_nil,hjj,List.take_succ,hj];rfl
     ·have q:(q2F at_ v fs).map (·.2)=fs.map (·.2)++[v]:=by rw [q2i hnm,List.map_append];rfl
      rw [q]
      exact RepL.append _ _ _ _ (RepL.pers p _ _ r) ⟨v,[],rfl,Rep.pers p _ _ rd,rfl⟩
   ·rw [if_neg hc] at hd2;exact hd2.elim
  | _=>simp only [e0] at hd2;exact hd2.elim
@[simp] noncomputable def atN (ds:List D) (j:Nat):Out D:=match ds[j]? with
 | some d=>.ok d
 | none=>.bad
@[simp] noncomputable def q99 (i c j:Nat) (ρ:Ro):Out D:=match ρ[i]? with
 | some (.me c' ds)=>if c'=c then atN ds j else .bad
 | some (.bi c' ds)=>if c'=c then atN ds j else .bad
 | _=>.bad
theorem j38 {K:PySem.W.Frag} {H:Hp} {at_:Str} {j:Nat} {ds:List D} {fs:List (Str×V)} {d:D} (e:fs.map (·.1)=(T.fl c).take ds.length) (r:RepL T K H ds (fs.map (·.2))) (hj:(T.fl c)[j]?=some at_) (hnd:(T.fl c).Nodup) (ed:ds[j]?=some d):∃w,fs.lookup at_=some w/\Rep T K H d w:=by
 obtain ⟨w,ew,rw'⟩:=RepL.get _ _ _ _ r ed
 have hl:j < ds.length:=(List.getElem?_eq_some_iff.mp ed).1
 exact ⟨w,q3g (by rw [e];exact hnd.sublist (List.take_sublist _ _)) (by rw [e,List.getElem?_take_of_lt hl];exact hj) ew,rw'⟩
theorem q8W {at_:Str} (i j:Nat) (cl:Cls X.K (T.ca c)) (na:NoAttr X.K (T.ca c) at_) (hj:(T.fl c)[j]?=some at_) (hnd:(T.fl c).Nodup) (hN:X.N[i]?=some x:=by rfl) (hv:Vis X.env.scope x:=by walk_at "v0")
 (hb:attributeBase (.Name x p) at_ X.env (eval (.Name x p) X.env)=eval (.Name x p) X.env:=by rfl) (hd:(x==("__debug__" : Str))=false:=by decide) (hcd:(x==("__classdict__" : Str))=false:=by decide):DE T X (.Attribute (.Name x p) at_ pos) (q99 i c j):=.mk λG E hp=>
 PE.imp (j1c (X:=X.wish E) (q1V (X:=X.wish E) hN hv hd hcd) hb) fun σ H Q ⟨ρ,fr,q⟩=>by
  unfold q99 at q
  have key:∀{ds:List D} {y dx:Addr} {fs:List (Str×V)},σ[i]?=some (some (.ref y))->H y=some (.ins (T.ca c) dx fs)->fs.map (·.1)=(T.fl c).take ds.length->RepL T X.K H ds (fs.map (·.2))->Acc T X E σ H (atN ds j) (kE T X.K H Q)->w0D X.K (w0H i) at_ σ H Q:=λ{ds y dx fs} e1 e2 e4 r q=>by
   unfold atN at q
   cases ed:ds[j]? with
   | none=>simp only [ed] at q;exact q.elim
   | some d=>
    simp only [ed] at q
    obtain ⟨w,ew,rw'⟩:=j38 e4 r hj hnd ed
    exact ⟨_,e1,y,T.ca c,dx,fs,w,rfl,e2,cl,na,ew,q w H (Same.refl H) rw'⟩
  split at q
  ·rename_i c' ds e0
   by_cases hc:c'=c
   ·rw [if_pos hc] at q;subst hc
    obtain ⟨y,dx,fs,m0,e1,e2,e3,e4,r⟩:=fr.sl i _ e0
    exact key e1 e2 e4 r q
   ·rw [if_neg hc] at q;exact q.elim
  ·rename_i c' ds e0
   by_cases hc:c'=c
   ·rw [if_pos hc] at q;subst hc
    obtain ⟨y,dx,fs,e1,e2,e4,e5,r⟩:=fr.sl i _ e0
    exact key e1 (fr.same _ _ e2) e4 r q
   ·rw [if_neg hc] at q;exact q.elim
  ·exact q.elim
end
noncomputable abbrev Mu:=Option Nat×List D
section
variable {T:Tb} {X:Cx} {e o a b:Expr} {es:List Expr} {pos pos' p p1 p2 p3 p4 apos:Pos} {fe fa fb:Ev} {fs:Ro->Out (List Sl)} {fu:Ro->Out (List Mu)} {fl:Ro->Out (List D)} {k n c ar:Nat} {f:Addr} {fd:FuncData} {ps:List Str} {F:FnM} {x z:Str}
@[simp] noncomputable def uMk (n c:Nat) (F:FnM) (fs:Ro->Out (List Sl)) (ρ:Ro):Out Mu:=(fs ρ).bind λss=>if ss.length=n then (match F [] [] ss with | .ok .non ds _=>.ok (some c,ds) | .exc x _ _=>.exc x | _=>.bad) else .bad
noncomputable def tU1 (T:Tb) (X:Cx) (G:Hp) (E:Value->Shared->Prop) (f:Ro->Out Mu):TE:=fun σ H Q=>∃ρ,FR T X.K G H σ ρ/\Acc T X E σ H (f ρ) (λm=>∀v H',Same H H'->MuAt T X.K H H' v m->Q v H')
theorem j5c {pins:List (Addr×Obj)} {σ:L2.St} {H:Hp} {s:Shared} {E:Value->Shared->Prop} {Q:VK} {us:List Value} {vs:List V} {ss:List Sl} (M:Mk X.K (T.ca c) f) (FO:q0M X.prog X.w X.K X.mg X.base (CXE T X.prog X.w) k f fd ps (spM T X.K c false ps.length F)) (hr:Room (k+1) X.A) (hb:Binds X.K fd ps []) (h0:0 < (T.fl c).length)
 (I:Inv (X.wish E) pins σ H s) (r:Vals vs us) (ha:ArgsOk T X.K H vs ss) (hl:us.length+1=ps.length)
 (h:match F [] [] ss with | .ok .non ds _=>∀a H',Same H H'->H a=none->InsAt T X.K H' c a ds->Q (.ref a) H' | .exc x _ _=>∀H',Same H H'->XW T X E σ H' x | _=>False) :
 wpAny (model X.prog X.w) X.A (call (.ref (T.ca c)) us) (EP (X.wish E) pins σ Q) E s:=by
 have IX:Inv X pins σ H s:=I.unwish
 have I2:=Inv.made (C:=T.ca c) IX
 have hx:=IX.hok.fresh (a:=s.heap.objs.size+1) (Nat.le_succ _)
 have hdx:=IX.hok.fresh (a:=s.heap.objs.size) (Nat.le_refl _)
 have r2:Vals (V.ref (s.heap.objs.size+1)::vs) (Value.ref (s.heap.objs.size+1)::us):=.cons rfl r
 have hi:InsAt T X.K (upd (upd H s.heap.objs.size (.own (s.heap.objs.size+1))) (s.heap.objs.size+1) (.ins (T.ca c) s.heap.objs.size [])) c (s.heap.objs.size+1) []:=⟨s.heap.objs.size,[],q0p,by simp,h0,rfl⟩
 have sm:Same H (hid (upd (upd H s.heap.objs.size (.own (s.heap.objs.size+1))) (s.heap.objs.size+1) (.ins (T.ca c) s.heap.objs.size [])) (s.heap.objs.size+1) none):=λb o e=>by
  have n1:b≠s.heap.objs.size+1:=λz=>by rw [z,hx] at e;cases e
  have n2:b≠s.heap.objs.size:=λz=>by rw [z,hdx] at e;cases e
  exact q8O (by rw [q0i n1,q0i n2];exact e) n1 (by simp)
 let EX:XK:=λcls _ H'=>∃x,cls=.ref (T.ca x)/\XW T X E σ H' x
 have hsp:spM T X.K c false ps.length F (V.ref (s.heap.objs.size+1)::vs) (upd (upd H s.heap.objs.size (.own (s.heap.objs.size+1))) (s.heap.objs.size+1) (.ins (T.ca c) s.heap.objs.size [])) (λv H2=>v=.non/\Q (.ref (s.heap.objs.size+1)) H2) EX:=by
  refine ⟨_,none,vs,[],[],ss,rfl,rfl,hi,rfl,ha.mono sm,by rw [r2.length];simpa using hl,?_⟩
  cases ef:F [] [] ss with
  | ok rr ds' ks'=>
   rw [ef] at h
   cases rr with
   | non=>exact λv H' s' i' _ rv=>⟨rv,h _ H' (sm.trans s') hx i'⟩
   | _=>exact h.elim
  | exc x ds' ks'=>rw [ef] at h;exact λH' s' i' _=>⟨x,rfl,h H' (sm.trans s')⟩
  | bad=>rw [ef] at h;exact h.elim
 have hl2:(Value.ref (s.heap.objs.size+1)::us++[]).length=ps.length:=by simpa using hl
 refine wpAny_call (q5u (f:=f) IX.kIn M.makes M.init (beq_iff_eq.mp M.fn) (codeAny_mono (FO.run _ X.stack _ _ ⟨Value.ref (s.heap.objs.size+1)::us,[]⟩ (Value.ref (s.heap.objs.size+1)::us) _ _ EX (hr.make (T.ca c) us [])
  (I2.env0.make (T.ca c) us []) (by have:=hb _ (Value.ref (s.heap.objs.size+1)::us) I2.kIn hl2;simpa using this) r2 hsp) λres s' hq=>?_))
 cases res with
 | error ev=>
  obtain ⟨c1,H',I',fl,c',ec,hx'⟩:=Inv.flown I2 hq
  refine hx' pins s' ev H' I' (Same.refl _) ?_
  obtain ⟨ea,rfl,h1,h2,nc,oe,vs',a0,he,hc,rest⟩:=fl
  exact ⟨ea,rfl,h1,h2,nc,oe,vs',a0,he,hc.trans ec,rest⟩
 | ok fl=>
  cases fl with
  | ret u=>
   obtain ⟨v,H',I3,rv,ev,q3⟩:=I2.after hq
   subst ev
   exact ⟨rv,⟨V.ref (s.heap.objs.size+1),H',I3.wish E,rfl,q3⟩⟩
  | next=>exact False.elim hq
  | brk=>exact False.elim hq
  | cont=>exact False.elim hq
theorem j36 (hT:T.me=none) (M:Mk X.K (T.ca c) f) (FO:q0M X.prog X.w X.K X.mg X.base (CXE T X.prog X.w) k f fd ps (spM T X.K c false ps.length F)) (hr:Room (k+1) X.A) (h0:0 < (T.fl c).length) (hg:Gl X x) (hm:X.mg x=some (.ref (T.ca c))) (hb:Binds X.K fd ps [])
 (hn:n+1=ps.length) (ha:DG T X (e::es) fs) (hdb:(x==("__debug__" : Str))=false:=by decide) (he:starEach (e::es) X.env=(false,eval e X.env)::starEach es X.env:=by exact q0B rfl) (hpl:(backTo pos (starEach es X.env)).any (·.1)=false:=by exact q0F rfl)
 (G:Hp) (E:Value->Shared->Prop) (hp:PassesOwn (model X.prog X.w) X.A X.env E):PE (X.wish E) (.Call (.Name x p) (e::es) [] pos) (tU1 T X G E (uMk n c F fs)):=by
 rintro pins s σ H Q I ⟨ρ,fr,h⟩
 refine wpAny_Call_Name_kw (q2o (X:=X.wish E) I hg hm ?_ hdb)
 refine PySem.W.callWith_K (h₀:=X.base) I.ok.mod.kin M.kp (thn (ha.run G E hp pos pins s σ H (λvs H1=>∃ss,ArgsOk T X.K H1 vs ss/\ss.length=n/\Same H H1/\Acc T X E σ H1 (match F [] [] ss with | .ok .non ds _=>.ok (some c,ds) | .exc x _ _=>.exc x | _=>.bad) (λm=>∀v H',Same H H'->MuAt T X.K H H' v m->Q v H')) I ⟨ρ,fr,?_⟩) λus s1 ⟨vs,H1,I1,r,ss,ha1,hl1,s1',q⟩=>⟨I1.kIn,?_⟩) he hpl
 ·refine Acc.mono (Acc.bind h) λss _ hss vs H1 s1 r1=>?_
  by_cases hl:ss.length=n
  ·rw [if_pos hl] at hss
   exact ⟨ss,r1,hl,s1,Acc.heap s1 hss⟩
  ·rw [if_neg hl] at hss;exact hss.elim
 ·have la:=ArgsOk.length ss vs ha1
  have lr:=r.length
  refine j5c (X:=X) M FO hr hb h0 I1 r ha1 (by simp only [List.nil_append];omega) ?_
  cases ef:F [] [] ss with
  | ok rr ds' ks'=>
   rw [ef] at q
   cases rr with
   | non=>exact λa H' s2 hn' i'=>q (.ref a) H' (s1'.trans s2) ⟨a,rfl,by rw [hT];simp,s1'.free hn',i'⟩
   | _=>exact q.elim
  | exc x' ds' ks'=>rw [ef] at q;exact λH' s2=>XW.mono s2 q
  | bad=>rw [ef] at q;exact q.elim
end
section
variable {T:Tb} {X:Cx} {e o a b:Expr} {es:List Expr} {pos pos' p p1 p2 p3 p4 apos:Pos} {fe fa fb:Ev} {fs:Ro->Out (List Sl)} {k n c ar:Nat} {f:Addr} {fd:FuncData} {ps:List Str} {F:FnM} {x z:Str}
end
theorem q2z {T:Tb} {c ar:Nat} {l:List Str} (e:T.fl c=l) (h:ar < l.length:=by decide):ar < (T.fl c).length:=by rw [e];exact h
theorem j2y {T:Tb} {z u:Option Addr} {K:PySem.W.Frag} {c n:Nat} {F:Fn} {vs:List V} {H:Hp} {Q:VK} {E:XK} (h:spI { T with me:=z,mo:=u } K c n F vs H Q E):spI T K c n F vs H Q E:=by
 obtain ⟨x,dx,rest,ss,G,h1,h2,h3,h4,h5,h6,h7,h8⟩:=h
 refine ⟨x,dx,rest,ss,G,h1,h2,h3,h4,h5,(q1W ss rest).mp h6,h7,?_⟩
 cases e:F ss with
 | ok r=>
  rw [e] at h8
  cases r with
  | sh d=>exact λH' s r=>h8 H' s ((q1h _ _).mpr r)
  | _=>exact h8.elim
 | exc x=>rw [e] at h8;exact h8
 | bad=>rw [e] at h8;exact h8
theorem j6a {T:Tb} {z u:Option Addr} {K:PySem.W.Frag} {P:Program} {w:World} {mg:Str->Option Value} {base:Heap} {k:Nat} {f:Addr} {fd:FuncData} {ps:List Str} {c n:Nat} {F:Fn} (h:q0M P w K mg base (CXE T P w) k f fd ps (spI T K c n F)):q0M P w K mg base (CXE { T with me:=z,mo:=u } P w) k f fd ps (spI { T with me:=z,mo:=u } K c n F):=
 ⟨λvs H Q E q=>h.len vs H Q E (j2y q),λA outer s H args us vs Q E hr he hb hv hs=>h.run A outer s H args us vs Q E hr he hb hv (j2y hs)⟩
section
variable {P:Program} {w:World} {h h':Heap}
noncomputable def j5M (P:Program) (w:World):KI->Int
 | .inl i=>(intKind P w).hash i
 | .inr is=>tupleKeyHash (intKind P w) is
variable {A:Around} {E:Value->Shared->Prop} {s:Shared}
noncomputable def keyHash (P:Program) (w:World) (ks:List KI):Int:=reduceHash (Builtin.Tuple.tupleHashOf (ks.map (j5M P w)))
end
namespace Fd
end Fd
section
variable {P:Program} {w:World} {h h':Heap}
variable {A:Around} {R:Result->Shared->Prop} {J:Addr} {fp wr:List Addr} {G:Array GenState->Array GenState->Prop} {St:Nat->Shared->Prop}
end
section
variable {P:Program} {w:World} {A:Around} {E:Value->Shared->Prop} {s:Shared}
end
section
variable {T:Tb} {X:Cx} {pins:List (Addr×Obj)} {σ:L2.St} {H:Hp} {s:Shared}
end
section
variable {T:Tb} {K:PySem.W.Frag} {G H H':Hp} {σ:L2.St} {ρ:Ro}
end
section
variable {T:Tb} {X:Cx}
end
section
variable {T:Tb} {ib:Bool} {X:Cx} {e ew:Expr} {pos p p2 p3 p4 pos':Pos} {fl:Ro->Out (List D)} {fe ff:Ev} {k:Nat}
end
end L3
set_option maxHeartbeats 1600000
namespace L3
open PySem PySem.Spec PyProof.Rows L2
section
variable {P:Program} {w:World} {A:Around} {R:Result->Shared->Prop} {l I S:Addr} {xs:Array (Int×Tok)} {d:Value} {h0:Heap}
end
section
variable {T:Tb} {X:Cx} {a d:Expr} {pos p kp:Pos} {fl:Ro->Out (List D)} {fd:Ev}
end
section
variable {step:D->Option (Option D)}
noncomputable def q09 (step:D->Option (Option D)):List D->Option (List D)
 | []=>some []
 | d::ds=>match step d with
  | some r=>(match q09 step ds with | some es=>some (r.toList++es) | none=>none)
  | none=>none
theorem q4m:∀{a b es:List D},q09 step (a++b)=some es->∃xs,q09 step a=some xs
 | [],_,_,_=>⟨[],rfl⟩
 | d::a,b,es,h=>by
  rw [List.cons_append,q09] at h
  cases e:step d with
  | none=>rw [e] at h;cases h
  | some r=>
   rw [e] at h
   cases e2:q09 step (a++b) with
   | none=>simp only [e2] at h;cases h
   | some ys=>
    obtain ⟨xs,q⟩:=q4m e2
    exact ⟨r.toList++xs,by rw [q09,e,q]⟩
theorem q3w {d:D}:∀{a xs es:List D},q09 step a=some xs->q09 step (a++[d])=some es->∃r,step d=some r/\es=xs++r.toList
 | [],xs,es,h,h2=>by
  cases h
  cases e:step d with
  | none=>rw [List.nil_append,q09,e] at h2;cases h2
  | some r=>rw [List.nil_append,q09,e] at h2;cases h2;exact ⟨r,rfl,by simp⟩
 | c::a,xs,es,h,h2=>by
  rw [List.cons_append,q09] at h2
  rw [q09] at h
  cases e:step c with
  | none=>rw [e] at h;cases h
  | some q=>
   rw [e] at h h2
   cases e1:q09 step a with
   | none=>simp only [e1] at h;cases h
   | some ys=>
    cases e2:q09 step (a++[d]) with
    | none=>simp only [e2] at h2;cases h2
    | some zs=>
     simp only [e1] at h
     simp only [e2] at h2
     cases h;cases h2
     obtain ⟨r,er,rfl⟩:=q3w e1 e2
     exact ⟨r,er,by rw [List.append_assoc]⟩
theorem q4C:∀{a xs:List D},q09 step a=some xs->xs.length<=a.length
 | [],xs,h=>by cases h;exact Nat.le_refl _
 | c::a,xs,h=>by
  rw [q09] at h
  cases e:step c with
  | none=>rw [e] at h;cases h
  | some q=>
   rw [e] at h
   cases e1:q09 step a with
   | none=>simp only [e1] at h;cases h
   | some ys=>
    simp only [e1] at h
    cases h
    have:=q4C e1
    cases q<;>simp<;>omega
end
noncomputable def q89 (X:Cx) (T:Tb) (N:List Str) (scope:Scope) (cl:List (Str×Addr)) (fp:List Addr) (H2:Hp) (cs:L2.St) (pre:Nat) (tg elt:Expr) (ifs:List Expr) (step:D->Option (Option D)):Prop:=
 ∀(C:Addr) (s₀:Shared) (H₀:Hp) (pn:List (Addr×Obj)) (w:L2.St) (H5:Hp) (s5:Shared) (y:V) (u:Value) (d:D) (r:Option D),w.length=pre->Inv ((CxC X N scope cl C s₀ H₀ fp).wish λ_ _=>False) pn (w++cs) H5 s5->RelV y u->Rep T X.K H5 d y->Same H2 H5->step d=some r ->
  wpAny (model X.prog X.w) X.A (assign tg (compEnvC scope cl C X.env) u) (λ_ s6=>wpAny (model X.prog X.w) X.A (forIn ifs true λc r=>if r=true then do let ok <-isTrue c (compEnvC scope cl C X.env) (eval c (compEnvC scope cl C X.env));pure (ForInStep.yield ok) else pure (ForInStep.yield r)) (λok s7=>
   ∃(w':L2.St) (H7:Hp),w'.length=pre/\Inv ((CxC X N scope cl C s₀ H₀ fp).wish λ_ _=>False) pn (w'++cs) H7 s7/\Same H5 H7/\(match r with
    | none=>ok=false
    | some e=>ok=true/\wpAny (model X.prog X.w) X.A (eval elt (compEnvC scope cl C X.env)) (λu7 s8=>∃v7 H8,Inv ((CxC X N scope cl C s₀ H₀ fp).wish λ_ _=>False) pn (w'++cs) H8 s8/\RelV v7 u7/\Same H7 H8/\Rep T X.K H8 e v7) (λ_ _=>False) s7)) (λ_ _=>False) s6) (λ_ _=>False) s5
section
variable {T:Tb} {X:Cx} {elt tg iter:Expr} {ifs:List Expr} {x:Str} {N ys:List Str} {pos:Pos} {pre:Nat} {scope:Scope} {caps:List Nat} {step:D->Option (Option D)} {cl:List (Str×Addr)} {pins:List (Addr×Obj)} {σ:L2.St} {G H2:Hp} {s2:Shared} {J:It} {fp:List Addr} {it:Addr} {tn:Nat->Heap->Prop} {ρ:Ro} {ds es:List D}
theorem q67 {RR:Value->Addr->Result->Shared->Prop} {E:Value->Shared->Prop} (hc:X.calm=true) (cp:Cap X scope x ys caps) (h1:∀y c,cl.lookup y=some c->X.env.cells.lookup y=some c) (h2:∀y∈scope.names,y.2=.free->∃c,cl.lookup y.1=some c)
 (hI:∀{C:Addr} {s₀:Shared} {H₀ H:Hp} {s:Shared},Inv (CxC X (x::ys) scope cl C s₀ H₀ fp) [] (none::caps.map λi=>σ.getD i none) H s->∃w0:L2.St,w0.length=pre/\Inv (CxC X N scope cl C s₀ H₀ fp) [] (w0++caps.map λi=>σ.getD i none) H s)
 (body:q89 X T N scope cl fp H2 (caps.map λi=>σ.getD i none) pre tg elt ifs step)
 (hun:∀{C:Addr} {s₀ s':Shared} {H₀ H':Hp} {σ':L2.St},Inv X pins σ H₀ s₀->Inv (CxC X N scope cl C s₀ H₀ fp) [] σ' H' s'->(∀b∈fp,q4o X pins H₀ b)->Inv X pins σ H' s')
 (I2:Inv X pins σ H2 s2) (Tn:Turn X.prog X.w X.K tg J fp it tn) (t0:tn 0 s2.heap) (f2:∀b∈fp,q4o X pins H2 b)
 (fr:Same G H2) (wk:Walk T X.K G J ds H2) (hm:q09 step ds=some es) (hl:ds.length<=1000000)
 (hRR:∀(a C:Addr) (s':Shared) (m':Str->Option Value) (Hn:Hp) (vs:List V),Inv X pins σ Hn s'->q4o X pins Hn C->s'.heap.Ns C m'->Same H2 Hn->H2 a=none->Hn a=some (.lst vs)->RepL T X.K Hn es vs->RR (.ref a) C (.ok .next) s') :
 wpAny (model X.prog X.w) X.A (newList []) (λacc s3=>wpAny (model X.prog X.w) X.A (newFunctionEnv scope X.env.globals cl [] X.env.qual none .none (some X.env)) (λcenv s4=>
  codeAny (model X.prog X.w) X.A (.compStart (.ListComp elt [⟨tg,iter,ifs,0⟩] scope pos) 0 (.ref it) acc { cenv with scope:=relabel scope X.env }) (RR acc cenv.locals) s4) E s3) E s2:=by
 refine wpAny_newList (wpAny_newFunctionEnv cp.nocell (by intro y hy;simp at hy) (λh' hns hsb=>?_) cp.kind)
 have I3:Inv X pins σ (upd H2 s2.heap.objs.size (.lst [])) { s2 with heap:=s2.heap.push { cls:=.type "list",data:=.seq ([]:List Value).toArray } }:=I2.lnew (t':=s2.toks) .nil (Nat.zero_le _)
 have bl:∀b∈fp,b < s2.heap.objs.size:=λb hb=>by
  obtain ⟨o,e,_⟩:=Tn.obj 0 _ t0 b hb
  exact Heap.lt_size e
 have ha0:H2 s2.heap.objs.size=none:=I2.hok.fresh (Nat.le_refl _)
 generalize hA:s2.heap.objs.size=a at *
 have f3:∀b∈fp,q4o X pins (upd H2 a (.lst [])) b:=λb hb=>⟨by rw [q0i (Nat.ne_of_lt (bl b hb))];exact (f2 b hb).1,(f2 b hb).2⟩
 have hs3:(s2.heap.push { cls:=.type "list",data:=.seq ([]:List Value).toArray }).objs.size=a+1:=by rw [Heap.size_push,hA]
 generalize hH:s2.heap.push { cls:=.type "list",data:=.seq ([]:List Value).toArray }=hp3 at *
 have up3:∀b o,s2.heap.get? b=some o->hp3.get? b=some o:=λb o e=>hH ▸ Heap.get?_push_of_some _ e
 have k3:∀b o,hp3.get? b=some o->h'.get? b=some o:=λb o e=>
  hsb.extBut b o (Nat.ne_of_lt (Heap.lt_size e)) (Heap.get?_push_of_some _ e)
 have t1:tn 0 h':=Tn.keep 0 _ _ t0 λb hb o e=>k3 b o (up3 b o e)
 generalize hC:hp3.objs.size=C at *
 have I4:∃w0:L2.St,w0.length=pre/\Inv (CxC X N scope cl C { s2 with heap:=hp3 } (upd H2 a (.lst [])) fp) [] (w0++caps.map λi=>σ.getD i none) (upd H2 a (.lst [])) { s2 with heap:=h',toks:=s2.toks+([]:List (Str×Value)).length }:=by
  have:=q96 (ex:=fp) (tk:=s2.toks+([]:List (Str×Value)).length) (h':=h') I3 cp h1 h2 (λb hb=>⟨f3 b hb,by show b < hp3.objs.size;rw [hC,hs3];exact Nat.lt_succ_of_lt (bl b hb)⟩) (by show h'.Ns hp3.objs.size _;rw [hC];exact hns) k3
  have e:({ s2 with heap:=hp3 }:Shared).heap.objs.size=C:=hC
  rw [e] at this
  exact hI this
 obtain ⟨w0,hw0,I4⟩:=I4
 have sm0:Same H2 (upd H2 a (.lst [])):=λb o e=>by
  have:b≠a:=λz=>by rw [z,ha0] at e;cases e
  rw [q0i this];exact e
 have Icf:q4o X pins (upd H2 a (.lst [])) C:=I3.fpOk (by show hp3.objs.size<=C;rw [hC];exact Nat.le_refl _) I4.free
 have fpc:∀{pn:List (Addr×Obj)} {H:Hp},(∀b∈fp,H b=none)->(∀b∈fp,∀p∈pn,p.1≠b)->∀b∈fp,q4o (CxC X N scope cl C { s2 with heap:=hp3 } (upd H2 a (.lst [])) fp) pn H b:=λhn hp b hb=>
  ⟨hn b hb,(I4.ok.exf b hb).1,I4.ok.exfs b hb,.inl hb,(I4.ok.exf b hb).2,hp b hb⟩
 have loop:∀s':Shared,s'={ s2 with heap:=h',toks:=s2.toks+([]:List (Str×Value)).length } ->
  codeAny (model X.prog X.w) X.A (.compLoop (.ListComp elt [⟨tg,iter,ifs,0⟩] scope pos) 0 (.ref it) (.ref a) (compEnvC scope cl C X.env)) (RR (.ref a) C) s':=by
  rintro s' rfl
  refine q2X (λn s'=>∃(i:Nat) (w:L2.St) (H':Hp) (vs:List V),n=ds.length-i/\i<=ds.length/\w.length=pre/\Inv (CxC X N scope cl C { s2 with heap:=hp3 } (upd H2 a (.lst [])) fp) [] (w++caps.map λi=>σ.getD i none) H' s'/\tn i s'.heap/\(∀b∈fp,H' b=none) /\
   Same H2 H'/\H' a=some (.lst vs)/\∃xs,q09 step (ds.take i)=some xs/\RepL T X.K H' xs vs) ?_ ds.length ⟨0,w0,_,[],rfl,Nat.zero_le _,hw0,I4,t1,λb hb=>(f3 b hb).1,sm0,q0p,[],by rw [List.take_zero];rfl,rfl⟩
  rintro n s' ⟨i,w,H',vs,rfl,hi,hw,I',ti,fn,sm,hv,xs,ex,rp⟩
  obtain ⟨w1,w2⟩:=wk i H' (Pers.of sm) (fr.trans sm)
  by_cases hlt:i < ds.length
  ·obtain ⟨d,e1⟩:∃d,ds[i]?=some d:=⟨ds[i],by simp [hlt]⟩
   obtain ⟨go,yl⟩:=w1 d e1
   have tk1:ds.take (i+1)=ds.take i++[d]:=by
    obtain ⟨q1,q2⟩:=List.getElem?_eq_some_iff.mp e1
    rw [List.take_succ_eq_append_getElem q1,q2]
   obtain ⟨xs',ex'⟩:=q4m (a:=ds.take (i+1)) (b:=ds.drop (i+1)) (by rw [List.take_append_drop];exact hm)
   have stp:=q3w ex (by rw [<-tk1];exact ex')
   refine wpAny_mono (Tn.item ((CxC X N scope cl C { s2 with heap:=hp3 } (upd H2 a (.lst [])) fp).wish λ_ _=>False) rfl rfl rfl hc i [] s' _ H' (λ_ _=>False) (I'.wish _) (fpc fn λ_ _ p hp=>by cases hp) ti go) (λr s1 h=>?_) λ_ _ z=>z.elim
   obtain ⟨u,rfl,h⟩:=h
   refine wpAny_mono h (λ_ s5 h5=>?_) λ_ _ z=>z.elim
   obtain ⟨y,H5,I5,r5,y5,t5,f5⟩:=h5
   obtain ⟨s5',rd⟩:=yl y H5 y5
   have I5':=I5.pinned (fpc f5 λ_ _ p hp=>by cases hp) (Tn.obj _ _ t5)
   obtain ⟨r,er,rfl⟩:=stp
   have lv:vs.length<=i:=by rw [RepL.length _ _ rp];exact Nat.le_trans (q4C ex) (by rw [List.length_take];exact Nat.min_le_left _ _)
   refine wpAny_mono (body C { s2 with heap:=hp3 } (upd H2 a (.lst [])) _ w H5 s5 y u d r hw I5' r5 rd (sm.trans s5') er) (λ_ s6 h6=>wpAny_mono h6 (λok s7 h7=>?_) λ_ _ z=>z.elim) λ_ _ z=>z.elim
   obtain ⟨w',H7,hw',I7,sm7,h7⟩:=h7
   cases r with
   | none=>
    obtain rfl:ok=false:=h7
    show ∃m,m < ds.length-i/\_
    refine ⟨ds.length-(i+1),by omega,i+1,w',H7,vs,rfl,hlt,hw',I7.unwish.unpinned,?_,λb hb=>?_,λb o q=>sm7 _ _ (s5' _ _ (sm _ _ q)),sm7 _ _ (s5' _ _ hv),_,ex',by rw [Option.toList_none,List.append_nil];exact RepL.mono sm7 _ _ (RepL.mono s5' _ _ rp)⟩
    ·exact Tn.keep _ _ _ t5 λb hb o q=>(I7.pin (b,o) (List.mem_append_right _ (List.mem_append_right _ (q1o hb q)))).1
    ·obtain ⟨o,q,d'⟩:=Tn.obj _ _ t5 b hb
     exact (I7.pin (b,o) (List.mem_append_right _ (List.mem_append_right _ (q1o hb q)))).2.1
   | some e=>
    obtain ⟨rfl,h7⟩:ok=true/\_:=h7
    show wpAny (model X.prog X.w) X.A (eval elt (compEnvC scope cl C X.env)) _ _ s7
    refine wpAny_mono h7 (λu7 s8 h8=>?_) λ_ _ z=>z.elim
    obtain ⟨v7,H8,I8,r7,sm8,rp7⟩:=h8
    have hv7:H8 a=some (.lst vs):=sm8 _ _ (sm7 _ _ (s5' _ _ hv))
    refine wpAny_mono (q4J (X:=(CxC X N scope cl C { s2 with heap:=hp3 } (upd H2 a (.lst [])) fp).wish λ_ _=>False) _ s8 _ H8 (.ref a) [v7] (.ref a) [u7] (λ_ H9=>H9=upd H8 a (.lst (vs++[v7]))) I8 rfl (.cons r7 .nil) ⟨a,vs,v7,rfl,rfl,hv7,Nat.lt_of_le_of_lt lv (Nat.lt_of_lt_of_le hlt (Nat.le_trans hl (by unfold sizeLine;decide))),rfl⟩) (λ_ s9 h9=>?_) λ_ _ z=>z.elim
    obtain ⟨_,H9,I9,_,rfl⟩:=h9
    have p8:Pers T false H8 (upd H8 a (.lst (vs++[v7]))):=q2I hv7
    refine ⟨ds.length-(i+1),by omega,i+1,w',_,vs++[v7],rfl,hlt,hw',I9.unwish.unpinned,?_,λb hb=>?_,λb o q=>?_,q0p,xs++[e],ex',?_⟩
    ·exact Tn.keep _ _ _ t5 λb hb o q=>(I9.pin (b,o) (List.mem_append_right _ (List.mem_append_right _ (q1o hb q)))).1
    ·obtain ⟨o,q,d'⟩:=Tn.obj _ _ t5 b hb
     exact (I9.pin (b,o) (List.mem_append_right _ (List.mem_append_right _ (q1o hb q)))).2.1
    ·have:b≠a:=λz=>by rw [z,ha0] at q;cases q
     rw [q0i this]
     exact sm8 _ _ (sm7 _ _ (s5' _ _ (sm _ _ q)))
    ·exact RepL.append _ _ _ _ (RepL.pers p8 _ _ (RepL.mono sm8 _ _ (RepL.mono sm7 _ _ (RepL.mono s5' _ _ rp)))) ⟨v7,[],rfl,Rep.pers p8 _ _ rp7,rfl⟩
  ·have e:i=ds.length:=by omega
   refine wpAny_mono (Tn.done ((CxC X N scope cl C { s2 with heap:=hp3 } (upd H2 a (.lst [])) fp).wish λ_ _=>False) rfl rfl rfl hc i [] s' _ H' (λ_ _=>False) (I'.wish _) (fpc fn λ_ _ p hp=>by cases hp) ti (w2 (by omega))) (λr s1 h=>?_) λ_ _ z=>z.elim
   obtain ⟨rfl,I1⟩:=h
   have I1:=I1.unwish
   obtain ⟨m',hn,_⟩:=I1.loc
   refine hRR a C s1 m' H' vs (hun I3 I1 f3) ⟨I1.free,Icf.2⟩ hn sm ha0 hv ?_
   have:ds.take i=ds:=by rw [List.take_of_length_le (by omega)]
   rw [this,hm] at ex
   cases ex
   exact rp
 exact codeAny_compStart_list (loop _ rfl) (Tn.self _ 0 _ _ _ t1 (loop _ rfl))
end
@[simp] noncomputable def j4J:Out D->Option (Option D)
 | .ok e=>some (some e)
 | _=>none
theorem q4w (f:D->Out D):∀ds:List D,q6b f ds=q09 (λd=>j4J (f d)) ds
 | []=>rfl
 | d::ds=>by
  rw [q6b,q09,q4w f ds]
  cases f d with
  | ok e=>show _=(match q09 (λd=>j4J (f d)) ds with | some es=>some ([e]++es) | none=>none);cases q09 (λd=>j4J (f d)) ds<;>rfl
  | exc c=>rfl
  | bad=>rfl
section
variable {T T0:Tb} {X:Cx} {elt iter tst:Expr} {ifs:List Expr} {x x2:Str} {px px2 pos pt:Pos} {kk:Nat} {N ys:List Str} {pre:Nat} {scope:Scope} {caps:List Nat} {stp:Ro->Option (Option D)} {cl:List (Str×Addr)} {σ:L2.St} {G H2:Hp} {fp:List Addr} {ρ:Ro} {cs:L2.St} {fe:Ev} {ft:Ro->Out Bool}
noncomputable def Tail (X:Cx) (T T0:Tb) (N:List Str) (scope:Scope) (cl:List (Str×Addr)) (fp:List Addr) (elt:Expr) (ifs:List Expr) (stp:Ro->Option (Option D)):Prop:=
 ∀(C:Addr) (s₀:Shared) (H₀:Hp) (pn:List (Addr×Obj)) (w:L2.St) (H6:Hp) (s6:Shared) (ρ6:Ro) (r:Option D),Inv ((CxC X N scope cl C s₀ H₀ fp).wish λ_ _=>False) pn w H6 s6->FR T0 X.K (λ_=>none) H6 w ρ6->stp ρ6=some r ->
  wpAny (model X.prog X.w) X.A (forIn ifs true λc r=>if r=true then do let ok <-isTrue c (compEnvC scope cl C X.env) (eval c (compEnvC scope cl C X.env));pure (ForInStep.yield ok) else pure (ForInStep.yield r)) (λok s7=>
   ∃(H7:Hp),Inv ((CxC X N scope cl C s₀ H₀ fp).wish λ_ _=>False) pn w H7 s7/\Same H6 H7/\(match r with
    | none=>ok=false
    | some e=>ok=true/\wpAny (model X.prog X.w) X.A (eval elt (compEnvC scope cl C X.env)) (λu7 s8=>∃v7 H8,Inv ((CxC X N scope cl C s₀ H₀ fp).wish λ_ _=>False) pn w H8 s8/\RelV v7 u7/\Same H7 H8/\Rep T X.K H8 e v7) (λ_ _=>False) s7)) (λ_ _=>False) s6
theorem j2U (hT:T0={ T with me:=none }) (he:∀(cl:List (Str×Addr)) (C:Addr) (s₀:Shared) (H₀:Hp) (ex:List Addr),DE T0 (CxC X N scope cl C s₀ H₀ ex) elt fe) {C:Addr} {s₀:Shared} {H₀ H6:Hp} {pn:List (Addr×Obj)} {w:L2.St} {s6:Shared} {ρ6:Ro} {e:D}
 (I6:Inv ((CxC X N scope cl C s₀ H₀ fp).wish λ_ _=>False) pn w H6 s6) (fr6:FR T0 X.K (λ_=>none) H6 w ρ6) (ef:fe ρ6=.ok e) :
 wpAny (model X.prog X.w) X.A (eval elt (compEnvC scope cl C X.env)) (λu7 s8=>∃v7 H8,Inv ((CxC X N scope cl C s₀ H₀ fp).wish λ_ _=>False) pn w H8 s8/\RelV v7 u7/\Same H6 H8/\Rep T X.K H8 e v7) (λ_ _=>False) s6:=by
 refine wpAny_mono ((he cl C s₀ H₀ fp).run (λ_=>none) (λ_ _=>False) PassesOwn.never pn s6 w H6 (λv H7=>Same H6 H7/\Rep T0 X.K H7 e v) I6 ⟨ρ6,fr6,by rw [ef];exact λv H7 s7 r7=>⟨s7,r7⟩⟩) (λu7 s7 h7=>?_) λ_ _ z=>z.elim
 obtain ⟨v7,H7,I7,r7,sm7,rp7⟩:=h7
 exact ⟨v7,H7,I7,r7,sm7,by subst hT;exact (q1h _ _).mp rp7⟩
theorem tail0 (hT:T0={ T with me:=none }) (he:∀(cl:List (Str×Addr)) (C:Addr) (s₀:Shared) (H₀:Hp) (ex:List Addr),DE T0 (CxC X N scope cl C s₀ H₀ ex) elt fe):Tail X T T0 N scope cl fp elt [] fun ρ6=>j4J (fe ρ6):=λC s₀ H₀ pn w H6 s6 ρ6 r I6 fr6 er=>by
 have er:j4J (fe ρ6)=some r:=er
 cases ef:fe ρ6 with
 | ok e=>
  rw [ef] at er;cases er
  exact wpAny_pure ⟨H6,I6,Same.refl H6,rfl,j2U hT he I6 fr6 ef⟩
 | exc c=>rw [ef] at er;cases er
 | bad=>rw [ef] at er;cases er
theorem head1 (hT:T0={ T with me:=none }) (cp:Cap X scope x ys caps) (fr:FR T X.K G H2 σ ρ) (tl:Tail X T T0 (x::ys) scope cl fp elt ifs stp):q89 X T (x::ys) scope cl fp H2 (caps.map λi=>σ.getD i none) 1 (.Name x px) elt ifs (λd=>stp (q1t caps ρ d)):=λC s₀ H₀ pn w H5 s5 y u d r hw I5 r5 rd sm er=>by
 obtain ⟨w0,rfl⟩:=List.length_eq_one_iff.mp hw
 have own:(CxC X (x::ys) scope cl C s₀ H₀ fp).env.scope.names.lookup x=some .local:=lookup_relabel_local cp.own
 refine wpAny_mono (q3L (X:=(CxC X (x::ys) scope cl C s₀ H₀ fp).wish λ_ _=>False) (i:=0) cp.nodup rfl (.inl own) (.inr own) pn s5 _ H5 y u (fun σ' H''=>σ'=some y::caps.map (λi=>σ.getD i none)/\H''=H5) I5 r5 ⟨rfl,rfl⟩) (λ_ s6 h6=>?_) λ_ _ z=>z.elim
 obtain ⟨σ6,H6,I6,rfl,rfl⟩:=h6
 refine wpAny_mono (tl C s₀ H₀ pn _ H6 s6 (q1t caps ρ d) r I6 (j4t (w:=w0) hT fr (Pers.of sm) rd) er) (λok s7 h7=>?_) λ_ _ z=>z
 obtain ⟨H7,I7,sm7,h7⟩:=h7
 exact ⟨[some y],H7,rfl,I7,sm7,h7⟩
end
structure DC (T:Tb) (X:Cx) (e:Expr) (scope:Scope) (gs:List Comprehension) (pos:Pos) (f:Ro->Out (List D)):Prop where
 mk ::
 run:∀(G:Hp) (E:Value->Shared->Prop),PassesOwn (model X.prog X.w) X.A X.env E->CompOk (X.wish E) (.ListComp e gs scope pos) scope (firstIterPos gs pos) (firstIter gs X.env) (tF T X G E f)
noncomputable def q73 (fl:Ro->Out (List D)) (step:Ro->D->Option (Option D)) (ρ:Ro):Out (List D):=(fl ρ).bind λds=>if ds.length<=1000000 then (match q09 (step ρ) ds with | some es=>.ok es | none=>.bad) else .bad
section
variable {T T0:Tb} {X:Cx} {elt tg iter tst:Expr} {ifs:List Expr} {x x2 y:Str} {px px2 pos pt py spos:Pos} {kk:Nat} {N ys zs:List Str} {pre:Nat} {scope:Scope} {caps:List Nat} {fe:Ev} {ft:Ro->Out Bool} {fl f:Ro->Out (List D)} {step:Ro->D->Option (Option D)} {gs:List Comprehension}
theorem w09 (hc:X.calm=true) (hi:DI T X tg iter fl) (cp:Cap X scope x ys caps)
 (hI:∀{cl:List (Str×Addr)} {fp:List Addr} {cs:L2.St} {C:Addr} {s₀:Shared} {H₀ H:Hp} {s:Shared},Inv (CxC X (x::ys) scope cl C s₀ H₀ fp) [] (none::cs) H s->∃w0:L2.St,w0.length=pre/\Inv (CxC X (x::zs) scope cl C s₀ H₀ fp) [] (w0++cs) H s)
 (body:∀{cl:List (Str×Addr)} {fp:List Addr} {G H2:Hp} {σ:L2.St} {ρ:Ro},FR T X.K G H2 σ ρ->q89 X T (x::zs) scope cl fp H2 (caps.map λi=>σ.getD i none) pre tg elt ifs (step ρ))
 (hs:∀x,foldedSetIterable iter X.env x=pure x):DC T X elt scope [⟨tg,iter,ifs,0⟩] pos (q73 fl step):=.mk λG E hp=>by
 rintro pins s σ H Q use QQ I ⟨ρ,fr,h⟩ k
 obtain ⟨cl,hclos,h1,h2⟩:=q6I X.env scope λy hy hf=>I.ok.has y.1 (cp.free y hy hf)
 refine wpAny_comprehension_free rfl hs hclos cp.kind cp.names ?_
 refine wpAny_mono (hi.run G E hp pins s σ H (λJ H'=>∃ds es,Same H H'/\Walk T X.K G J ds H'/\q09 (step ρ) ds=some es/\ds.length<=1000000/\∀a vs H'',Same H H''->H a=none->H'' a=some (.lst vs)->RepL T X.K H'' es vs->Q (.ref a) H'') I
  ⟨ρ,fr,Acc.mono (Acc.bind h) λds _ hd J H1 s1 wk=>?_⟩) (λv s1 h1'=>wpAny_mono h1' (λitv s2 h2'=>?_) λ_ _ z=>z) λ_ _ z=>z
 ·by_cases hl:ds.length<=1000000
  ·rw [if_pos hl] at hd
   cases hm:q09 (step ρ) ds with
   | none=>rw [hm] at hd;exact hd.elim
   | some es=>
    rw [hm] at hd
    exact ⟨ds,es,s1,wk,hm,hl,hd⟩
  ·rw [if_neg hl] at hd;exact hd.elim
 ·obtain ⟨it,fp,tn,J,H2,rfl,I2,Tn,t0,f2,ds,es,sm,wk,hm,hl,kq⟩:=h2'
  refine q67 (X:=X) (E:=E) (G:=G) (RR:=λacc C=>compPost (model X.prog X.w) X.A E use QQ acc C) hc cp h1 h2 hI (body (fr.mono sm)) (λa b c=>q6T a b c) I2.unwish Tn t0 f2 (fr.same.trans sm) wk hm hl ?_
  intro a C s' m' Hn vs I' f hn smn ha hv rp
  exact k a C s' m' Hn (I'.wish E) f hn (kq a vs Hn (sm.trans smn) (sm.free ha) hv rp)
theorem j9L (fl:Ro->Out (List D)) (caps:List Nat) (fe:Ev):q0L fl caps fe=q73 fl fun ρ d=>j4J (fe (q1t caps ρ d)):=by
 funext ρ
 unfold q0L q73
 simp only [q4w]<;>rfl
theorem q03 (hT:T0={ T with me:=none }) (hc:X.calm=true) (hi:DI T X (.Name x px) iter fl) (cp:Cap X scope x ys caps)
 (he:∀(cl:List (Str×Addr)) (C:Addr) (s₀:Shared) (H₀:Hp) (ex:List Addr),DE T0 (CxC X (x::ys) scope cl C s₀ H₀ ex) elt fe) (hs:∀x,foldedSetIterable iter X.env x=pure x:=by intro _;rfl):DC T X elt scope [⟨.Name x px,iter,[],0⟩] pos (q0L fl caps fe):=by
 rw [j9L]
 exact w09 hc hi cp (λI=>⟨[none],rfl,I⟩) (λfr=>head1 hT cp fr (tail0 hT he)) hs
theorem DC.df (h:DC T X elt scope gs pos f) (ha:firstAsync gs=false:=by rfl):DF T X (.ListComp elt gs scope pos) f:=.mk λG E hp=>CompOk.pe (X:=X.wish E) (h.run G E hp) ha
variable {ib:Bool}
theorem DC.setF (i:Nat) (hN:X.N.Nodup) (h:DC T X elt scope gs pos f) (hiN:X.N[i]?=some y:=by rfl) (hy:Loc X.env.scope y:=by walk_at "v3")
 (hf:X.fn y=true∨X.env.scope.names.lookup y=some .local:=by walk_at "v2")
 (hz:T.me=none∨i≠0:=by walk_at "v1")
 (hsw:swapsWith (.ListComp elt gs scope pos) (some (.Name y py)) spos.line X.env=pure true:=by rfl) (ha:firstAsync gs=false:=by rfl) :
 DS T ib X (.Assign [.Name y py] (.ListComp elt gs scope pos) spos) (q1n i (q1l f)):=.mk λG E hp=>
 PS.imp (CompOk.ps (X:=X.wish E) (i:=i) (CompOk.freeze (h.run G E hp)) hN hiN hy hf hsw ha) λD σ H ⟨ρ,fr,h⟩=>⟨ρ,fr,Acc.mono (Acc.bind (AccS.fl fr h)) λds _ hd a vs H1 s1 ha ha' r=>⟨a,vs,rfl,ha',λo=>by
  have s2:Same H (upd H1 a (.frz o (.lst vs))):=λb u e=>by
   rw [q0i (λz=>by rw [z,ha] at e;cases e)];exact s1 b u e
  exact hd _ _ ((fr.mono s2).set_sh ⟨a,vs,rfl,.inl ⟨o,q0p⟩,RepL.froz ha' _ _ r⟩ hz) (Pers.of s2)⟩⟩
end
structure Cal (K:PySem.W.Frag) (mg:Str->Option Value) (f:Addr) (fd:FuncData) (x:Str) (ps:List Str):Prop where
 m:mg x=some (.ref f)
 k:PySem.W.keepIn K (.ref f)=true
 b:Binds K fd ps []
theorem q0e {T:Tb} {X:Cx} {e:Expr} {es:List Expr} {pos p:Pos} {fs:Ro->Out (List Sl)} {k n:Nat} {f:Addr} {fd:FuncData} {ps:List Str} {F:Fn} {x:Str} (FO:q0M X.prog X.w X.K X.mg X.base (CXE T X.prog X.w) k f fd ps (spD T X.K ps.length F)) (hr:Room k X.A) (c:Cal X.K X.mg f fd x ps) (ha:DG T X (e::es) fs)
 (hg:Gl X x:=by rfl) (hn:n=ps.length:=by rfl) (hdb:(x==("__debug__" : Str))=false:=by decide) (he:starEach (e::es) X.env=(false,eval e X.env)::starEach es X.env:=by exact q0B rfl) (hpl:(backTo pos (starEach es X.env)).any (·.1)=false:=by exact q0F rfl) :
 DR T X (.Call (.Name x p) (e::es) [] pos) (j0G (n:=n) F [] fs):=j3c FO hr hg c.m c.k c.b .nil (λ_=>rfl) hn ha hdb he hpl
theorem j0s {X:Cx} {pins:List (Addr×Obj)} {σ:L2.St} {H:Hp} {s:Shared} {x0:Str} (I:Inv X pins σ H s):Inv { X with N:=x0::X.N } pins (none::σ) H s:=by
 obtain ⟨⟨a1,a2,a3,a4,a5,a6,a7,a8,a9,a10,a11,a12,a13,a14,a15,a16,a17,a18⟩,b2,b3,b4,⟨m,b5,b6⟩,b7,b8,b9,b10,b11,b12⟩:=I
 refine ⟨⟨a1,a2,a3,a4,a5,a6,a7,a8,a9,a10,a11,a12,a13,a14,a15,a16,a17,a18⟩,b2,b3,b4,⟨m,b5,λi x v h1 h2 h3=>?_⟩,b7,b8,b9,b10,b11,?_⟩
 ·cases i with
  | zero=>cases h2
  | succ i=>exact b6 i x v h1 h2 h3
 ·show _=(x0::X.N).length
  simp [b12]
structure PSc (x0:Str) (N P:List Str) (sc:Scope):Prop where
 S:q0l N P sc
 nd:(x0::N).Nodup
theorem j5K {CX:CXT} {P:Program} {w:World} {K:PySem.W.Frag} {mg:Str->Option Value} {base:Heap} {k:Nat} {f:Addr} {name qual x0:Str} {params:Arguments} {body:List Stmt} {scope:Scope} {dV kV doc pm cdv ct oc:Value} {an od:Option Addr}
 {osl:Array (Option Value)} {N ps:List Str} {sp:Sp} (lk:K.lookup f=some ⟨oc,od,.func (PySem.W.fnOf name qual params body scope dV kV doc pm an cdv ct),osl⟩) (hcd:PySem.W.codeIn K cdv qual=true) (S:q0l N ps scope)
 (len:∀vs H Q E,sp vs H Q E->vs.length=ps.length)
 (hbody:∀(A:Around) (outer:List Env) (s:Shared) (H:Hp) (vs:List V) (Q:VK) (E:XK),Room k (A.deeper (envOfC qual scope s.heap.objs.size f cdv))->sp vs H Q E ->
  ∃t,PSs (j0d CX P w K mg base (x0::N) qual scope f cdv A outer s H E) body t/\t { nx:=λ_ H'=>Q .non H',rt:=Q } (none::start N vs) H) :
 q0M P w K mg base CX (k+1) f (PySem.W.fnOf name qual params body scope dV kV doc pm an cdv ct) ps sp:=by
 refine ⟨len,λA outer s H args us vs Q E hr e0 hb r hsp=>?_⟩
 have hl:=len _ _ _ _ hsp
 have KX:K.In s.heap:=e0.mod.kin.keeps λb o e=>(e0.bs b o e).1
 have lim:s.heap.NoLimit:=e0.mod.nolimit.keeps λb o e=>(e0.bs b o e).1
 have hkind:∀y∈ps.zip us,scope.names.lookup y.1=some .local∨(scope.names.lookup y.1=some .cell/\((cellsFrom (s.heap.objs.size+1) scope.names []).lookup y.1).isSome=true):=λ⟨n,v⟩ hy=>by
  rcases S.par n (List.of_mem_zip hy).1 with q | q
  ·exact .inl q
  ·exact .inr ⟨q,PySem.W.cellsFrom_some _ _ _ (.inl q)⟩
 refine codeAny_call_function hr.depth (KX _ _ lk) rfl S.co S.gen rfl (PySem.W.codeRec_of KX hcd) (hb _ _ _ _ ?_)
 refine wpAny_newFunctionEnv_cells S.kind hkind λenv he s1 x=>?_
 subst he
 refine ⟨lim.keeps x.toInCall.keep,codeAny_func ?_⟩
 obtain ⟨t,ht,hq⟩:=hbody A outer s H vs Q E (hr.deeper _) hsp
 have I:Inv (j0d CX P w K mg base (x0::N) qual scope f cdv A outer s H E) [] (none::start N vs) H s1:=j0s (q4s true S (λ_=>hr.hd) e0 hl r x)
 refine wpAny_mono (ht [] s1 _ H _ I hq) (λfl s' hs=>?_) λe s' hs=>hs
 have fin:∀{σ':L2.St} {H':Hp} {v:V} {u:Value},Inv (j0d CX P w K mg base (x0::N) qual scope f cdv A outer s H E) [] σ' H' s'->RelV v u->Q v H'->CE outer P w H s Q u s':=
  λ{σ' H' v u} J rv q=>⟨v,H',J.os,J.bare,J.base,J.hok,rv,q⟩
 cases fl with
 | ret u=>
  obtain ⟨v,σ',H',J,rv,q⟩:=hs
  exact fin J rv q
 | next=>
  obtain ⟨σ',H',J,q⟩:=hs
  exact fin (v:=V.non) (u:=Value.none) J rfl q
 | brk=>
  obtain ⟨_,_,_,q⟩:=hs
  exact False.elim q
 | cont=>
  obtain ⟨_,_,_,q⟩:=hs
  exact False.elim q
theorem j2Y {T:Tb} {K:PySem.W.Frag} {G H:Hp} {σ:L2.St} {ρ:Ro} (hT:T.me=none) (fr:FR T K G H σ ρ):FR T K G H (none::σ) (.no::ρ):=by
 refine ⟨fr.same,by simp [fr.len],λi s e=>?_,λi j s t b hij e1 e2 o1 o2=>?_,(λx e=>by rw [hT] at e;cases e),λi c ds e=>?_⟩
 ·cases i with
  | zero=>cases e;trivial
  | succ i=>exact fr.sl i s e
 ·cases i with
  | zero=>cases e1;exact o1
  | succ i=>cases j with
   | zero=>cases e2;exact o2
   | succ j=>exact fr.ne i j s t b (by omega) e1 e2 o1 o2
 ·cases i with
  | zero=>rfl
  | succ i=>
   obtain ⟨_,_,_,z,_⟩:=fr.sl i _ e
   rw [hT] at z;cases z
section
variable {P:Program} {w:World} {K:PySem.W.Frag} {mg:Str->Option Value} {base:Heap} {T:Tb}
theorem w14 {x qual x0:Str} {st:Stmt} {fa:Addr} {fd:FuncData} {N ps:List Str} {k:Nat} {f:Ro->Fl} (hT:T.me=none) (F:L2.Fun K x qual st fa fd) (S:q0l N ps (q0g st))
 (hb:∀(cdv:Value) (A:Around) (outer:List Env) (s:Shared) (H:Hp) (E:XK),Room k (A.deeper (envOfC qual (q0g st) s.heap.objs.size fa cdv))->DSs T false (CxD T P w K mg base (x0::N) qual (q0g st) fa cdv A outer s H E) (q0Z st) f) :
 q0M P w K mg base (CXE T P w) (k+1) fa fd ps (spD T K ps.length (fnF N.length fun ρ=>f (.no::ρ))):=by
 obtain ⟨oc,od,kV,doc,pm,an,cdv,ct,osl,rfl,lk,hcd⟩:=F.ex
 refine j5K (x0:=x0) lk hcd S (λvs H Q E ⟨ss,_,e,_⟩=>e) λA outer s H vs Q E hr ⟨ss,ha,hl,ho⟩=>?_
 have fr:=j2Y hT (q5S (N:=N) hT ha)
 have hb':=hb cdv A outer s H E hr
 refine ⟨_,hb'.run H (CxD T P w K mg base (x0::N) qual (q0g st) fa cdv A outer s H E).xe PassesOwn.leaving,_,fr,?_⟩
 unfold fnF at ho
 cases e:f (.no::(ss++List.replicate (N.length-ss.length) .no)) with
 | nx ρ=>
  simp only [e] at ho
  exact fun σ H' fr' _=>ho .non H' fr'.same rfl
 | rt r=>
  simp only [e] at ho
  exact λv H' hs r'=>ho v H' hs r'
 | exc c ρ=>
  simp only [e] at ho
  intro σ' H' fr' _ pins s' u H'' I hs fl
  exact q2g I rfl rfl rfl fl (ho H'' (fr'.same.trans hs))
 | rm r c ds ks=>simp only [e] at ho;exact ho.elim
 | bk ρ=>simp only [e] at ho;exact ho.elim
 | ct ρ=>simp only [e] at ho;exact ho.elim
 | bad=>simp only [e] at ho;exact ho.elim
end
section
variable {T:Tb} {X:Cx} {K:PySem.W.Frag} {G H:Hp} {σ:L2.St} {ρ:Ro} {y:Addr}
theorem j3v {x:Option (Option V)} {s:Sl} (hT:T.me=none) (hy:H y=none) (h:SlOk T K G H x s):SlOk { T with me:=some y } K G H x s:=by
 cases s with
 | no=>trivial
 | sh d=>obtain ⟨v,e1,r⟩:=h;exact ⟨v,e1,(q1h (u:=T.mo) d v).mpr r⟩
 | ow ds=>obtain ⟨a,vs,e1,e2,e3,r⟩:=h;exact ⟨a,vs,e1,e2,e3,(repL_me (u:=T.mo) _ _).mpr r⟩
 | bo ds=>obtain ⟨a,vs,e1,e2,r⟩:=h;exact ⟨a,vs,e1,e2,(repL_me (u:=T.mo) _ _).mpr r⟩
 | me c ds=>obtain ⟨_,_,_,z,_⟩:=h;rw [hT] at z;cases z
 | ox t pre ds post=>obtain ⟨a,vp,b,vq,ws,e1,e2,r1,r2,e3,e4,r3⟩:=h;exact ⟨a,vp,b,vq,ws,e1,e2,(repL_me (u:=T.mo) _ _).mpr r1,(repL_me (u:=T.mo) _ _).mpr r2,e3,e4,(repL_me (u:=T.mo) _ _).mpr r3⟩
 | od kvs=>obtain ⟨d,xs,e1,e2,e3,e4,e5,e6⟩:=h;exact ⟨d,xs,e1,e2,e3,e4,e5,λq hq=>(q1h (u:=T.mo) _ _).mpr (e6 q hq)⟩
 | mo ds=>obtain ⟨a,vs,e0,e1,e2,e3,r⟩:=h;exact ⟨a,vs,e0,e1,e2,e3,(repL_me (u:=T.mo) _ _).mpr r⟩
 | lm ms=>
  obtain ⟨a,us,e1,e2,e3,e4,e5⟩:=h
  refine ⟨a,us,e1,e2,e3,λi m v q1 q2=>?_,e5⟩
  have z:=e4 i m v q1 q2
  match m,z with
  | (none,ks),⟨b,ws,y1,y2,y3,y4⟩=>exact ⟨b,ws,y1,y2,y3,(repL_me (u:=T.mo) _ _).mpr y4⟩
  | (some k,ks),⟨b,y1,y2,y3,y4⟩=>exact ⟨b,y1,(λq=>by cases q;obtain ⟨_,_,w,_⟩:=y4;rw [hy] at w;cases w),y3,(q05 (u:=T.mo)).mpr y4⟩
 | bi c ds=>obtain ⟨a,dx,fs,e1,e2,e3,e4,r⟩:=h;exact ⟨a,dx,fs,e1,e2,e3,e4,(repL_me (u:=T.mo) _ _).mpr r⟩
theorem j3e {x:Option (Option V)} {s:Sl} (hT:T.me=none) (hs:∀c ds,s≠.me c ds) (h:SlOk { T with me:=some y } K G H x s):SlOk T K G H x s:=by
 cases s with
 | no=>trivial
 | sh d=>obtain ⟨v,e1,r⟩:=h;exact ⟨v,e1,(q1h (u:=T.mo) d v).mp r⟩
 | ow ds=>obtain ⟨a,vs,e1,e2,e3,r⟩:=h;exact ⟨a,vs,e1,e2,e3,(repL_me (u:=T.mo) _ _).mp r⟩
 | bo ds=>obtain ⟨a,vs,e1,e2,r⟩:=h;exact ⟨a,vs,e1,e2,(repL_me (u:=T.mo) _ _).mp r⟩
 | me c ds=>exact absurd rfl (hs c ds)
 | ox t pre ds post=>obtain ⟨a,vp,b,vq,ws,e1,e2,r1,r2,e3,e4,r3⟩:=h;exact ⟨a,vp,b,vq,ws,e1,e2,(repL_me (u:=T.mo) _ _).mp r1,(repL_me (u:=T.mo) _ _).mp r2,e3,e4,(repL_me (u:=T.mo) _ _).mp r3⟩
 | od kvs=>obtain ⟨d,xs,e1,e2,e3,e4,e5,e6⟩:=h;exact ⟨d,xs,e1,e2,e3,e4,e5,λq hq=>(q1h (u:=T.mo) _ _).mp (e6 q hq)⟩
 | mo ds=>obtain ⟨a,vs,e0,e1,e2,e3,r⟩:=h;exact ⟨a,vs,e0,e1,e2,e3,(repL_me (u:=T.mo) _ _).mp r⟩
 | lm ms=>
  obtain ⟨a,us,e1,e2,e3,e4,e5⟩:=h
  refine ⟨a,us,e1,e2,e3,λi m v q1 q2=>?_,e5⟩
  have z:=e4 i m v q1 q2
  match m,z with
  | (none,ks),⟨b,ws,y1,y2,y3,y4⟩=>exact ⟨b,ws,y1,y2,y3,(repL_me (u:=T.mo) _ _).mp y4⟩
  | (some k,ks),⟨b,y1,y2,y3,y4⟩=>exact ⟨b,y1,by rw [hT];simp,y3,(q05 (u:=T.mo)).mp y4⟩
 | bi c ds=>obtain ⟨a,dx,fs,e1,e2,e3,e4,r⟩:=h;exact ⟨a,dx,fs,e1,e2,e3,e4,(repL_me (u:=T.mo) _ _).mp r⟩
theorem FR.un {ds:List D} (hT:T.me=none) (fr:FR { T with me:=some y } K G H σ ρ):FR T K G H σ (ρ.set 0 .no):=by
 have at0:∀(j:Nat) (s:Sl),(ρ.set 0 .no)[j]?=some s->(s=.no)∨(j≠0/\ρ[j]?=some s):=λj s q=>by
  by_cases hj:j=0
  ·subst hj
   left
   have hl:0 < ρ.length:=by
    have:=(List.getElem?_eq_some_iff.mp q).1;simpa using this
   rw [List.getElem?_set_self hl] at q;cases q;rfl
  ·rw [List.getElem?_set_ne (Ne.symm hj)] at q;exact .inr ⟨hj,q⟩
 refine ⟨fr.same,by simp [fr.len],λj s q=>?_,λi j s t b hij e1 e2 o1 o2=>?_,(λx e=>by rw [hT] at e;cases e),λj c ds q=>?_⟩
 ·rcases at0 j s q with rfl | ⟨hj,q⟩
  ·trivial
  ·exact j3e hT (λc ds z=>by subst z;exact hj (fr.me0 j c ds q)) (fr.sl j s q)
 ·rcases at0 i s e1 with rfl | ⟨_,q1⟩
  ·exact o1
  ·rcases at0 j t e2 with rfl | ⟨_,q2⟩
   ·exact o2
   ·exact fr.ne i j s t b hij q1 q2 o1 o2
 ·rcases at0 j _ q with z | ⟨hj,q⟩
  ·cases z
  ·exact absurd (fr.me0 j c ds q) hj
theorem FR.to {H1:Hp} {c:Nat} {ds:List D} (hT:T.me=none) (fr:FR T K G H σ ρ) (s1:Same H H1) (hy:H y=none) (hi:InsAt T K H1 c y ds) (hl:0 < ρ.length):FR { T with me:=some y } K G H1 (σ.set 0 (some (.ref y))) (ρ.set 0 (.me c ds)):=by
 have at0:∀(j:Nat) (s:Sl),(ρ.set 0 (.me c ds))[j]?=some s->(j=0/\s=.me c ds)∨(j≠0/\ρ[j]?=some s/\(σ.set 0 (some (.ref y)))[j]?=σ[j]?):=λj s q=>by
  by_cases hj:j=0
  ·subst hj
   rw [List.getElem?_set_self hl] at q;cases q;exact .inl ⟨rfl,rfl⟩
  ·rw [List.getElem?_set_ne (Ne.symm hj)] at q;exact .inr ⟨hj,q,List.getElem?_set_ne (Ne.symm hj)⟩
 have h0:(σ.set 0 (some (.ref y)))[0]?=some (some (.ref y)):=List.getElem?_set_self (by rw [<-fr.len];exact hl)
 refine ⟨fr.same.trans s1,by simp [fr.len],λj s q=>?_,λi j s t b hij e1 e2 o1 o2=>?_,λx e=>by cases e;exact h0,λj c ds q=>?_⟩
 ·rcases at0 j s q with ⟨rfl,rfl⟩ | ⟨hj,q,e⟩
  ·obtain ⟨dx,fs,i1,i2,i3,i4⟩:=hi
   rw [h0]
   exact ⟨y,dx,fs,rfl,rfl,i1,fr.same.free hy,i2,(repL_me (u:=T.mo) _ _).mpr i4⟩
  ·rw [e];exact SlOk.mono s1 (j3v hT hy (fr.sl j s q))
 ·have fm:=fr.mono s1
  rcases at0 i s e1 with ⟨_,rfl⟩ | ⟨_,q1,z1⟩
  ·exact o1
  ·rcases at0 j t e2 with ⟨_,rfl⟩ | ⟨_,q2,z2⟩
   ·exact o2
   ·rw [z1] at o1;rw [z2] at o2;exact fm.ne i j s t b hij q1 q2 o1 o2
 ·rcases at0 j _ q with ⟨rfl,_⟩ | ⟨hj,q,_⟩
  ·rfl
  ·exact fr.me0 j c ds q
end
@[simp] noncomputable def w0g:Fl->Fl
 | .nx ρ=>.nx (ρ.set 0 .no)
 | .rt r=>.rt r
 | .exc c ρ=>.exc c (ρ.set 0 .no)
 | _=>.bad
@[simp] noncomputable def j1V (fu:Ro->Out Mu) (k:Ro->Fl) (ρ:Ro):Fl:=(fu ρ).fl ρ λm=>match m with
 | (some c,ds)=>if 0 < ρ.length then w0g (k (ρ.set 0 (.me c ds))) else .bad
 | _=>.bad
@[simp] noncomputable def j5i (i:Nat) (fM:Ro->OutE) (ρ:Ro):Fl:=(fM ρ).fl λd ρ'=>.nx (ρ'.set i (.sh d))
section
variable {T:Tb} {X:Cx} {e:Expr} {pos pos':Pos} {x:Str} {fu:Ro->Out Mu} {k:Ro->Fl} {rest:List Stmt} {fM:Ro->OutE}
theorem AccS.un {G H:Hp} {E:Value->Shared->Prop} {D₀:Ends} {y:Addr} {o:Fl} (hT:T.me=none) (h:AccS T false X G E H (w0g o) D₀):AccS { T with me:=some y } false X G E H o D₀:=by
 cases o with
 | nx ρ=>exact fun σ H' fr p=>h σ H' (FR.un (ds:=[]) hT fr) p
 | rt r=>
  exact λv H' s rv=>h v H' s ((q70 (u:=T.mo) r).mp rv)
 | exc c ρ=>exact fun σ H' fr p=>h σ H' (FR.un (ds:=[]) hT fr) p
 | _=>exact h.elim
theorem q7Y (hN:X.N.Nodup) (hT:T.me=none) (he:∀(G:Hp) (E:Value->Shared->Prop),PassesOwn (model X.prog X.w) X.A X.env E->PE (X.wish E) e (tU1 T X G E fu)) (hr:∀y,DSs { T with me:=some y } false X rest k)
 (hi:X.N[0]?=some x:=by rfl) (hx:Loc X.env.scope x:=by walk_at "v3") (hs:swapsWith e (some (.Name x pos')) pos.line X.env=pure false:=by exact q1k rfl) (hf:X.fn x=true∨X.env.scope.names.lookup x=some .local:=by walk_at "v2") :
 DSs T false X (.Assign [.Name x pos'] e pos::rest) (j1V fu k):=.mk λG E hp=>by
 refine PSs.imp (q5U (u:=λD σ H=>∃y,tS { T with me:=some y } false X G E k D σ H) (q55 (X:=X.wish E) hN hi hx (he G E hp) hs hf) (λpins s σ H D I ⟨y,h⟩=>(hr y).run G E hp pins s σ H D I h)) λD σ H ⟨ρ,fr,h⟩=>⟨ρ,fr,Acc.mono (AccS.fl fr h) λm _ hd v H1 s1 mu=>?_⟩
 match m,hd,mu with
 | (none,_),hd,_=>exact hd.elim
 | (some c,ds),hd,⟨a,q1,q2,q3,q4⟩=>
  subst q1
  by_cases hl:0 < ρ.length
  ·simp only [if_pos hl] at hd
   exact ⟨a,_,FR.to hT fr s1 q3 q4 hl,AccS.un hT (AccS.heap (Pers.of s1) hd)⟩
  ·simp only [if_neg hl] at hd;exact hd.elim
theorem j27 (i:Nat) (hN:X.N.Nodup) (he:DM T X e fM) (hi:X.N[i]?=some x:=by rfl) (hx:Loc X.env.scope x:=by walk_at "v3") (hs:swapsWith e (some (.Name x pos')) pos.line X.env=pure false:=by exact q1k rfl) (hf:X.fn x=true∨X.env.scope.names.lookup x=some .local:=by walk_at "v2")
 (hz:T.me=none∨i≠0:=by walk_at "v1") :
 DS T false X (.Assign [.Name x pos'] e pos) (j5i i fM):=.mk λG E hp=>
 PS.imp (q55 (X:=X.wish E) hN hi hx (he.run G E hp) hs hf) λD σ H ⟨ρ,fr,h⟩=>⟨ρ,fr,AccE.fl (o:=fM ρ) h λd ρ' _ v H1 fr1 p1 r1 hd=>hd _ _ (fr1.set_sh r1 hz) (Pers.refl H1)⟩
@[simp] noncomputable def q84 (i:Nat) (fe:Ev) (ρ:Ro):Out D:=match ρ[i]? with
 | some (.ow ds)=>(fe (ρ.set i (.sh (.lst ds)))).bind λd=>if nl d=true then .ok d else .bad
 | _=>.bad
theorem j0r {fe:Ev} (i:Nat) (h:DE T X e fe):DE T X e (q84 i fe):=.mk λG E hp=>by
 rintro pins s σ H Q I ⟨ρ,fr,q⟩
 unfold q84 at q
 cases e0:ρ[i]? with
 | none=>simp only [e0] at q;exact q.elim
 | some w=>
  cases w with
  | ow ds=>
   simp only [e0] at q
   obtain ⟨b,ws,e1,e2,e3,r⟩:=fr.sl i _ e0
   obtain ⟨o,I2⟩:=Inv.freeze I e2
   have hx:=Inv.unfrz I.unwish e2
   have fr2:=j6q (o:=o) fr e0 e1 e2 e3 r
   refine thn (h.run G E hp pins s σ _ (λv H1=>Same (upd H b (.frz o (.lst ws))) H1/\Q v (upd H1 b (.lst ws))) I2 ⟨_,fr2,?_⟩) λv s1 ⟨u,H1,I1,rv,sm,qk⟩=>?_
   ·cases eg:fe (ρ.set i (.sh (.lst ds))) with
    | ok d=>
     simp only [eg,Out.ok_bind] at q
     intro v H1 s1 r
     by_cases n:nl d=true
     ·rw [if_pos n] at q
      exact ⟨s1,q v _ (q4L e2 s1) (Rep.thaw (s1 b _ q0p) d v n r)⟩
     ·rw [if_neg n] at q;exact q.elim
    | exc c=>simp only [eg] at q;exact XW.thaw q e2 hx
    | bad=>simp only [eg] at q;exact q.elim
   ·exact ⟨u,_,(Inv.thaw I1.unwish (sm b _ q0p) hx).wish E,rv,qk⟩
  | _=>simp only [e0] at q;exact q.elim
end
end L3
namespace L3
open PySem L2
theorem j5I {l:PySem.W.OpenLaw} {k:Nat} {q:Program} {loose:List Str} {XP:(Str->Option Value)->Heap->Prop} {YP:World->Heap->Prop} {d:DefRec} {x:Str} {F:Fn}
 (hn:l.most=some 63) (hdf:d.params.defaults=[]) (hr:Room k callerA)
 (FF:∀(w:World) (mg:Str->Option Value) (fa:Addr) (h:Heap),YP w h->h.Ns mainGlobals mg->mg d.name=some (.ref fa) ->
  ∃K:PySem.W.Frag,K.In h/\∃fd:FuncData,(∀(s:Shared) (u:Value),BindsTo s fd ⟨[u],[]⟩ [(x,u)])/\∃T:Tb,∀base:Heap,K.In base->base.Ns mainGlobals mg->q0M l.prog w K mg base (CXE T l.prog w) k fa fd [x] (spD T K 1 F))
 (hL:∀ns:List Int,ns.length<=63->F [.sh (.lst (ns.map D.int))]=.ok (.sh (.bl true))) :
 PySem.W.WalkO q loose XP YP l.row.toRowW d [] (λf vs=>PySem.call f vs):=by
 refine Att.attach_call hn hdf λw s₀ s₁ mg mb fa o pm cd doc a vs ns G Y ho hd hcd hmg hobj hints hlen hg=>?_
 obtain ⟨K,KX,fd,hb,T,hF⟩:=FF w mg fa _ Y G.T.g hmg
 refine q9E KX G.T.g G.T.b G.T.builtins G.T.nolimit hg hobj hints (Nat.le_trans hlen (by rw [sizeLine_eq];decide)) hr hF hb (λH hO hS=>?_) λH e s' h=>?_
 ·refine ⟨[.sh (.lst (ns.map D.int))],⟨_,[],rfl,⟨a,ns.map V.int,rfl,?_,RepL.ints ns⟩,rfl⟩,rfl,?_⟩
  ·rcases hS with (h | ⟨ob,h⟩) | h
   ·rcases hO a with z | ⟨_,_,z⟩
    ·rw [h] at z;cases z
    ·rw [h] at z;cases z
   ·exact .inl ⟨ob,h⟩
   ·exact .inr h
  ·rw [hL ns hlen]
   exact λv H' _ r=>r
 ·obtain ⟨_,_,_,_,_,_,_,_,_,z⟩:=h
  exact z
end L3
namespace Lw
open PySem L2 L3
structure Tx (K:PySem.W.Frag) (mg:Str->Option Value) (fa:Nat->Addr) (fd:Nat->FuncData) (T:Tb):Prop where
 me:T.me=none
 F1:L2.Fun K "check_name" "check_name" s_1 (fa 1) (fd 1)
 c1:Cal K mg (fa 1) (fd 1) "check_name" ["name"]
 F2:L2.Fun K "check_number" "check_number" s_2 (fa 2) (fd 2)
 c2:Cal K mg (fa 2) (fd 2) "check_number" ["number","lowest","highest"]
 F3:L2.Fun K "check_count" "check_count" s_3 (fa 3) (fd 3)
 c3:Cal K mg (fa 3) (fd 3) "check_count" ["count","lowest","highest"]
 F4:L2.Fun K "check_batch" "check_batch" s_4 (fa 4) (fd 4)
 c4:Cal K mg (fa 4) (fd 4) "check_batch" ["batch","count"]
 F5:L2.Fun K "__init__" "Order.__init__" s_5 (fa 5) (fd 5)
 b5:Binds K (fd 5) ["self","bread","loaves","due"] []
 F6:L2.Fun K "__init__" "Batch.__init__" s_6 (fa 6) (fd 6)
 b6:Binds K (fd 6) ["self","order","first","loaves"] []
 F7:L2.Fun K "greatest" "greatest" s_7 (fa 7) (fd 7)
 c7:Cal K mg (fa 7) (fd 7) "greatest" ["bakery"]
 F8:L2.Fun K "check_due" "check_due" s_8 (fa 8) (fd 8)
 c8:Cal K mg (fa 8) (fd 8) "check_due" ["due","night"]
 F9:L2.Fun K "accept" "accept" s_9 (fa 9) (fd 9)
 c9:Cal K mg (fa 9) (fd 9) "accept" ["bakery","orders"]
 F10:L2.Fun K "batches_of" "batches_of" j7u (fa 10) (fd 10)
 c10:Cal K mg (fa 10) (fd 10) "batches_of" ["orders","most"]
 F11:L2.Fun K "cut" "cut" j7c (fa 11) (fd 11)
 c11:Cal K mg (fa 11) (fd 11) "cut" ["bakery","orders"]
 F13:L2.Fun K "__init__" "Bakery.__init__" j7J (fa 13) (fd 13)
 b13:Binds K (fd 13) ["self","night","hands","benches","ovens","breads"] []
 F14:L2.Fun K "bread_of" "Bakery.bread_of" j7X (fa 14) (fd 14)
 b14:Binds K (fd 14) ["self","name"] []
 mt14:Meth K (T.ca 18) "bread_of" (fa 14)
 F15:L2.Fun K "check_names_apart" "check_names_apart" j7P (fa 15) (fd 15)
 c15:Cal K mg (fa 15) (fd 15) "check_names_apart" ["names"]
 F16:L2.Fun K "__init__" "Oven.__init__" j7q (fa 16) (fd 16)
 b16:Binds K (fd 16) ["self","room","rate","heat"] []
 F21:j8A K "__init__" "Run.__init__" j9k (fa 21) (fd 21)
 b21:Binds K (fd 21) ["self","begin","lengths","oven"] []
 F24:L2.Fun K "__init__" "Part.__init__" j8j (fa 24) (fd 24)
 b24:Binds K (fd 24) ["self","batch","stage","begin","until","loaves","oven"] []
 F26:L2.Fun K "fitted" "fitted" j7K (fa 26) (fd 26)
 c26:Cal K mg (fa 26) (fd 26) "fitted" ["bakery","orders","plan"]
 F28:L2.Fun K "parts_of" "parts_of" j7i (fa 28) (fd 28)
 c28:Cal K mg (fa 28) (fd 28) "parts_of" ["bakery","orders","plan"]
 F29:L2.Fun K "lasting" "lasting" j7C (fa 29) (fd 29)
 c29:Cal K mg (fa 29) (fd 29) "lasting" ["parts","minute"]
 F32:L2.Fun K "held" "held" j7b (fa 32) (fd 32)
 c32:Cal K mg (fa 32) (fd 32) "held" ["bakery","orders","plan","minute"]
 F33:L2.Fun K "stand" "stand" j7m (fa 33) (fd 33)
 c33:Cal K mg (fa 33) (fd 33) "stand" ["bakery","orders","plan","minute"]
 F35:L2.Fun K "fault" "fault" j7k (fa 35) (fd 35)
 c35:Cal K mg (fa 35) (fd 35) "fault" ["bakery","orders","plan"]
 F42:L2.Fun K "late" "late" j7t (fa 42) (fd 42)
 c42:Cal K mg (fa 42) (fd 42) "late" ["bakery","orders","plan","batch","minutes"]
 F43:L2.Fun K "heats" "heats" j7V (fa 43) (fd 43)
 c43:Cal K mg (fa 43) (fd 43) "heats" ["bakery","orders","plan","oven"]
 F46:L2.Fun K "stage_rows" "stage_rows" j7B (fa 46) (fd 46)
 c46:Cal K mg (fa 46) (fd 46) "stage_rows" ["parts"]
 F47:L2.Fun K "door_rows" "door_rows" j7M (fa 47) (fd 47)
 c47:Cal K mg (fa 47) (fd 47) "door_rows" ["bakery","orders","plan"]
 F49:L2.Fun K "board" "board" j7Q (fa 49) (fd 49)
 c49:Cal K mg (fa 49) (fd 49) "board" ["bakery","orders","plan"]
 F50:j8A K "__init__" "Stage.__init__" j7p (fa 50) (fd 50)
 b50:Binds K (fd 50) ["self","name","least","most","want","heat"] []
 F51:L2.Fun K "__init__" "Bread.__init__" j7T (fa 51) (fd 51)
 b51:Binds K (fd 51) ["self","name","stages"] []
 F55:L2.Fun K "narrow" "narrow" j71 (fa 55) (fd 55)
 c55:Cal K mg (fa 55) (fd 55) "narrow" ["bakery","orders"]
 F60:L2.Fun K "ways" "ways" j7x (fa 60) (fd 60)
 c60:Cal K mg (fa 60) (fd 60) "ways" ["bakery","orders","batch"]
 F61:L2.Fun K "all_ways" "all_ways" j7r (fa 61) (fd 61)
 c61:Cal K mg (fa 61) (fd 61) "all_ways" ["bakery","orders"]
 F63:L2.Fun K "good_plans" "good_plans" j7R (fa 63) (fd 63)
 c63:Cal K mg (fa 63) (fd 63) "good_plans" ["bakery","orders","rows"]
 F66:L2.Fun K "latest" "latest" j7A (fa 66) (fd 66)
 c66:Cal K mg (fa 66) (fd 66) "latest" ["bakery","orders"]
 F67:L2.Fun K "last_begin" "last_begin" j7o (fa 67) (fd 67)
 c67:Cal K mg (fa 67) (fd 67) "last_begin" ["bakery","orders","batch"]
 F68:L2.Fun K "slack" "slack" j7G (fa 68) (fd 68)
 c68:Cal K mg (fa 68) (fd 68) "slack" ["bakery","orders"]
 F69:L2.Fun K "go_together" "go_together" j7Y (fa 69) (fd 69)
 c69:Cal K mg (fa 69) (fd 69) "go_together" ["bakery","orders"]
 F70:L2.Fun K "few" "few" j73 (fa 70) (fd 70)
 c70:Cal K mg (fa 70) (fd 70) "few" ["bakery","orders"]
 F71:L2.Fun K "__init__" "Night.__init__" j7I (fa 71) (fd 71)
 b71:Binds K (fd 71) ["self","bakery"] []
 F72:L2.Fun K "put" "Night.put" j7L (fa 72) (fd 72)
 b72:Binds K (fd 72) ["self","bread","loaves","due"] []
 mt72:Meth K (T.ca 24) "put" (fa 72)
 F76:L2.Fun K "_law_at" "_law_at" j72 (fa 76) (fd 76)
 c76:Cal K mg (fa 76) (fd 76) "_law_at" ["_law_script","_law_k"]
 F77:L2.Fun K "_law_pick" "_law_pick" j7S (fa 77) (fd 77)
 c77:Cal K mg (fa 77) (fd 77) "_law_pick" ["_law_script","_law_k"]
 F78:L2.Fun K "_law_is" "_law_is" j7g (fa 78) (fd 78)
 c78:Cal K mg (fa 78) (fd 78) "_law_is" ["_law_found","_law_due_here"]
 F79:L2.Fun K "_law_names" "_law_names" j7H (fa 79) (fd 79)
 c79:Cal K mg (fa 79) (fd 79) "_law_names" ["_law_cell","_law_many"]
 F80:L2.Fun K "_law_stayed" "_law_stayed" j7U (fa 80) (fd 80)
 c80:Cal K mg (fa 80) (fd 80) "_law_stayed" ["_law_orders","_law_asked","_law_names_here"]
 F81:L2.Fun K "_law_wishes" "_law_wishes" j7O (fa 81) (fd 81)
 c81:Cal K mg (fa 81) (fd 81) "_law_wishes" ["_law_script","_law_night","_law_many","_law_kinds"]
 F82:L2.Fun K "_law_due" "_law_due" j7y (fa 82) (fd 82)
 c82:Cal K mg (fa 82) (fd 82) "_law_due" ["_law_asked","_law_night","_law_kinds","_law_most"]
 F83:L2.Fun K "_law_call" "_law_call" j7W (fa 83) (fd 83)
 c83:Cal K mg (fa 83) (fd 83) "_law_call" ["_law_bakery","_law_orders","_law_which"]
 F84:L2.Fun K "_law_refused" "_law_refused" j7j (fa 84) (fd 84)
 c84:Cal K mg (fa 84) (fd 84) "_law_refused" ["_law_bakery","_law_orders","_law_which"]
 F85:L2.Fun K "_law_put" "_law_put" j7z (fa 85) (fd 85)
 c85:Cal K mg (fa 85) (fd 85) "_law_put" ["_law_bakery","_law_asked","_law_names_here"]
 F86:L2.Fun K "law" "law" j7d (fa 86) (fd 86)
 c86:Cal K mg (fa 86) (fd 86) "law" ["_law_script"]
 mC0:mg "DoughError" = some (.ref (T.ca 0))
 xc0:q3S K (T.ca 0)
 mC1:mg "BadName" = some (.ref (T.ca 1))
 xc1:q3S K (T.ca 1)
 mC2:mg "BadWant" = some (.ref (T.ca 2))
 xc2:q3S K (T.ca 2)
 mC3:mg "BadNumber" = some (.ref (T.ca 3))
 xc3:q3S K (T.ca 3)
 mC4:mg "BadCount" = some (.ref (T.ca 4))
 xc4:q3S K (T.ca 4)
 mC5:mg "TwiceNamed" = some (.ref (T.ca 5))
 xc5:q3S K (T.ca 5)
 mC6:mg "NoBread" = some (.ref (T.ca 6))
 xc6:q3S K (T.ca 6)
 mC7:mg "BeyondNight" = some (.ref (T.ca 7))
 xc7:q3S K (T.ca 7)
 mC8:mg "TooMany" = some (.ref (T.ca 8))
 xc8:q3S K (T.ca 8)
 mC9:mg "BadPlan" = some (.ref (T.ca 9))
 xc9:q3S K (T.ca 9)
 mC10:mg "NoBatch" = some (.ref (T.ca 10))
 xc10:q3S K (T.ca 10)
 mC11:mg "NoOven" = some (.ref (T.ca 11))
 xc11:q3S K (T.ca 11)
 mC12:mg "Faulty" = some (.ref (T.ca 12))
 xc12:q3S K (T.ca 12)
 mC13:mg "TooCold" = some (.ref (T.ca 13))
 xc13:q3S K (T.ca 13)
 mC14:mg "TooWide" = some (.ref (T.ca 14))
 xc14:q3S K (T.ca 14)
 mC15:mg "NoPlan" = some (.ref (T.ca 15))
 xc15:q3S K (T.ca 15)
 mC16:mg "Order" = some (.ref (T.ca 16))
 cC16:Cls K (T.ca 16)
 mk16:Mk K (T.ca 16) (fa 5)
 fl16:T.fl 16=(["bread","loaves","due"]:List Str)
 na16_bread:NoAttr K (T.ca 16) "bread"
 na16_loaves:NoAttr K (T.ca 16) "loaves"
 na16_due:NoAttr K (T.ca 16) "due"
 mC17:mg "Batch" = some (.ref (T.ca 17))
 cC17:Cls K (T.ca 17)
 mk17:Mk K (T.ca 17) (fa 6)
 fl17:T.fl 17=(["order","first","loaves"]:List Str)
 na17_order:NoAttr K (T.ca 17) "order"
 na17_first:NoAttr K (T.ca 17) "first"
 na17_loaves:NoAttr K (T.ca 17) "loaves"
 mC18:mg "Bakery" = some (.ref (T.ca 18))
 cC18:Cls K (T.ca 18)
 mk18:Mk K (T.ca 18) (fa 13)
 fl18:T.fl 18=(["night","hands","benches","ovens","breads"]:List Str)
 na18_night:NoAttr K (T.ca 18) "night"
 na18_hands:NoAttr K (T.ca 18) "hands"
 na18_benches:NoAttr K (T.ca 18) "benches"
 na18_ovens:NoAttr K (T.ca 18) "ovens"
 na18_breads:NoAttr K (T.ca 18) "breads"
 mC19:mg "Oven" = some (.ref (T.ca 19))
 cC19:Cls K (T.ca 19)
 mk19:Mk K (T.ca 19) (fa 16)
 fl19:T.fl 19=(["room","rate","heat"]:List Str)
 na19_room:NoAttr K (T.ca 19) "room"
 na19_rate:NoAttr K (T.ca 19) "rate"
 na19_heat:NoAttr K (T.ca 19) "heat"
 mC20:mg "Run" = some (.ref (T.ca 20))
 cC20:Cls K (T.ca 20)
 mk20:Mk K (T.ca 20) (fa 21)
 fl20:T.fl 20=(["begin","lengths","oven"]:List Str)
 na20_begin:NoAttr K (T.ca 20) "begin"
 na20_lengths:NoAttr K (T.ca 20) "lengths"
 na20_oven:NoAttr K (T.ca 20) "oven"
 mC21:mg "Part" = some (.ref (T.ca 21))
 cC21:Cls K (T.ca 21)
 mk21:Mk K (T.ca 21) (fa 24)
 fl21:T.fl 21=(["batch","stage","begin","until","loaves","oven"]:List Str)
 na21_batch:NoAttr K (T.ca 21) "batch"
 na21_stage:NoAttr K (T.ca 21) "stage"
 na21_begin:NoAttr K (T.ca 21) "begin"
 na21_until:NoAttr K (T.ca 21) "until"
 na21_loaves:NoAttr K (T.ca 21) "loaves"
 na21_oven:NoAttr K (T.ca 21) "oven"
 mC22:mg "Stage" = some (.ref (T.ca 22))
 cC22:Cls K (T.ca 22)
 mk22:Mk K (T.ca 22) (fa 50)
 fl22:T.fl 22=(["name","least","most","want","heat"]:List Str)
 na22_name:NoAttr K (T.ca 22) "name"
 na22_least:NoAttr K (T.ca 22) "least"
 na22_most:NoAttr K (T.ca 22) "most"
 na22_want:NoAttr K (T.ca 22) "want"
 na22_heat:NoAttr K (T.ca 22) "heat"
 mC23:mg "Bread" = some (.ref (T.ca 23))
 cC23:Cls K (T.ca 23)
 mk23:Mk K (T.ca 23) (fa 51)
 fl23:T.fl 23=(["name","stages"]:List Str)
 na23_name:NoAttr K (T.ca 23) "name"
 na23_stages:NoAttr K (T.ca 23) "stages"
 mC24:mg "Night" = some (.ref (T.ca 24))
 cC24:Cls K (T.ca 24)
 mk24:Mk K (T.ca 24) (fa 71)
 fl24:T.fl 24=(["bakery","orders","$"]:List Str)
 na24_bakery:NoAttr K (T.ca 24) "bakery"
 na24_orders:NoAttr K (T.ca 24) "orders"
 exm0_4:PySem.W.exmOne K (.ref (T.ca 0)) (.ref (T.ca 4))=some false
 exm0_6:PySem.W.exmOne K (.ref (T.ca 0)) (.ref (T.ca 6))=some false
 exm0_7:PySem.W.exmOne K (.ref (T.ca 0)) (.ref (T.ca 7))=some false
 exm0_8:PySem.W.exmOne K (.ref (T.ca 0)) (.ref (T.ca 8))=some false
 exm1_4:PySem.W.exmOne K (.ref (T.ca 1)) (.ref (T.ca 4))=some false
 exm1_6:PySem.W.exmOne K (.ref (T.ca 1)) (.ref (T.ca 6))=some false
 exm1_7:PySem.W.exmOne K (.ref (T.ca 1)) (.ref (T.ca 7))=some false
 exm1_8:PySem.W.exmOne K (.ref (T.ca 1)) (.ref (T.ca 8))=some false
 exm2_4:PySem.W.exmOne K (.ref (T.ca 2)) (.ref (T.ca 4))=some false
 exm2_6:PySem.W.exmOne K (.ref (T.ca 2)) (.ref (T.ca 6))=some false
 exm2_7:PySem.W.exmOne K (.ref (T.ca 2)) (.ref (T.ca 7))=some false
 exm2_8:PySem.W.exmOne K (.ref (T.ca 2)) (.ref (T.ca 8))=some false
 exm3_4:PySem.W.exmOne K (.ref (T.ca 3)) (.ref (T.ca 4))=some false
 exm3_6:PySem.W.exmOne K (.ref (T.ca 3)) (.ref (T.ca 6))=some false
 exm3_7:PySem.W.exmOne K (.ref (T.ca 3)) (.ref (T.ca 7))=some false
 exm3_8:PySem.W.exmOne K (.ref (T.ca 3)) (.ref (T.ca 8))=some false
 exm4_4:PySem.W.exmOne K (.ref (T.ca 4)) (.ref (T.ca 4))=some true
 exm4_6:PySem.W.exmOne K (.ref (T.ca 4)) (.ref (T.ca 6))=some false
 exm4_7:PySem.W.exmOne K (.ref (T.ca 4)) (.ref (T.ca 7))=some false
 exm4_8:PySem.W.exmOne K (.ref (T.ca 4)) (.ref (T.ca 8))=some false
 exm5_4:PySem.W.exmOne K (.ref (T.ca 5)) (.ref (T.ca 4))=some false
 exm5_6:PySem.W.exmOne K (.ref (T.ca 5)) (.ref (T.ca 6))=some false
 exm5_7:PySem.W.exmOne K (.ref (T.ca 5)) (.ref (T.ca 7))=some false
 exm5_8:PySem.W.exmOne K (.ref (T.ca 5)) (.ref (T.ca 8))=some false
 exm6_4:PySem.W.exmOne K (.ref (T.ca 6)) (.ref (T.ca 4))=some false
 exm6_6:PySem.W.exmOne K (.ref (T.ca 6)) (.ref (T.ca 6))=some true
 exm6_7:PySem.W.exmOne K (.ref (T.ca 6)) (.ref (T.ca 7))=some false
 exm6_8:PySem.W.exmOne K (.ref (T.ca 6)) (.ref (T.ca 8))=some false
 exm7_4:PySem.W.exmOne K (.ref (T.ca 7)) (.ref (T.ca 4))=some false
 exm7_6:PySem.W.exmOne K (.ref (T.ca 7)) (.ref (T.ca 6))=some false
 exm7_7:PySem.W.exmOne K (.ref (T.ca 7)) (.ref (T.ca 7))=some true
 exm7_8:PySem.W.exmOne K (.ref (T.ca 7)) (.ref (T.ca 8))=some false
 exm8_4:PySem.W.exmOne K (.ref (T.ca 8)) (.ref (T.ca 4))=some false
 exm8_6:PySem.W.exmOne K (.ref (T.ca 8)) (.ref (T.ca 6))=some false
 exm8_7:PySem.W.exmOne K (.ref (T.ca 8)) (.ref (T.ca 7))=some false
 exm8_8:PySem.W.exmOne K (.ref (T.ca 8)) (.ref (T.ca 8))=some true
 exm9_4:PySem.W.exmOne K (.ref (T.ca 9)) (.ref (T.ca 4))=some false
 exm9_6:PySem.W.exmOne K (.ref (T.ca 9)) (.ref (T.ca 6))=some false
 exm9_7:PySem.W.exmOne K (.ref (T.ca 9)) (.ref (T.ca 7))=some false
 exm9_8:PySem.W.exmOne K (.ref (T.ca 9)) (.ref (T.ca 8))=some false
 exm10_4:PySem.W.exmOne K (.ref (T.ca 10)) (.ref (T.ca 4))=some false
 exm10_6:PySem.W.exmOne K (.ref (T.ca 10)) (.ref (T.ca 6))=some false
 exm10_7:PySem.W.exmOne K (.ref (T.ca 10)) (.ref (T.ca 7))=some false
 exm10_8:PySem.W.exmOne K (.ref (T.ca 10)) (.ref (T.ca 8))=some false
 exm11_4:PySem.W.exmOne K (.ref (T.ca 11)) (.ref (T.ca 4))=some false
 exm11_6:PySem.W.exmOne K (.ref (T.ca 11)) (.ref (T.ca 6))=some false
 exm11_7:PySem.W.exmOne K (.ref (T.ca 11)) (.ref (T.ca 7))=some false
 exm11_8:PySem.W.exmOne K (.ref (T.ca 11)) (.ref (T.ca 8))=some false
 exm12_4:PySem.W.exmOne K (.ref (T.ca 12)) (.ref (T.ca 4))=some false
 exm12_6:PySem.W.exmOne K (.ref (T.ca 12)) (.ref (T.ca 6))=some false
 exm12_7:PySem.W.exmOne K (.ref (T.ca 12)) (.ref (T.ca 7))=some false
 exm12_8:PySem.W.exmOne K (.ref (T.ca 12)) (.ref (T.ca 8))=some false
 exm13_4:PySem.W.exmOne K (.ref (T.ca 13)) (.ref (T.ca 4))=some false
 exm13_6:PySem.W.exmOne K (.ref (T.ca 13)) (.ref (T.ca 6))=some false
 exm13_7:PySem.W.exmOne K (.ref (T.ca 13)) (.ref (T.ca 7))=some false
 exm13_8:PySem.W.exmOne K (.ref (T.ca 13)) (.ref (T.ca 8))=some false
 exm14_4:PySem.W.exmOne K (.ref (T.ca 14)) (.ref (T.ca 4))=some false
 exm14_6:PySem.W.exmOne K (.ref (T.ca 14)) (.ref (T.ca 6))=some false
 exm14_7:PySem.W.exmOne K (.ref (T.ca 14)) (.ref (T.ca 7))=some false
 exm14_8:PySem.W.exmOne K (.ref (T.ca 14)) (.ref (T.ca 8))=some false
 exm15_4:PySem.W.exmOne K (.ref (T.ca 15)) (.ref (T.ca 4))=some false
 exm15_6:PySem.W.exmOne K (.ref (T.ca 15)) (.ref (T.ca 6))=some false
 exm15_7:PySem.W.exmOne K (.ref (T.ca 15)) (.ref (T.ca 7))=some false
 exm15_8:PySem.W.exmOne K (.ref (T.ca 15)) (.ref (T.ca 8))=some false
 c_FASTEST:∃t,mg "FASTEST" = some (.int 300 t)
 c_HOTTEST:∃t,mg "HOTTEST" = some (.int 300 t)
 c_LETTERS:∃t,mg "LETTERS" = some (.str "abcdefghijklmnopqrstuvwxyz" t)
 c_LONGEST_NAME:∃t,mg "LONGEST_NAME" = some (.int 12 t)
 c_MOST_BATCHES:∃t,mg "MOST_BATCHES" = some (.int 24 t)
 c_MOST_BENCHES:∃t,mg "MOST_BENCHES" = some (.int 6 t)
 c_MOST_BREADS:∃t,mg "MOST_BREADS" = some (.int 8 t)
 c_MOST_HANDS:∃t,mg "MOST_HANDS" = some (.int 6 t)
 c_MOST_LOAVES:∃t,mg "MOST_LOAVES" = some (.int 60 t)
 c_MOST_ORDERS:∃t,mg "MOST_ORDERS" = some (.int 12 t)
 c_MOST_OVENS:∃t,mg "MOST_OVENS" = some (.int 3 t)
 c_MOST_ROOM:∃t,mg "MOST_ROOM" = some (.int 30 t)
 c_MOST_STAGES:∃t,mg "MOST_STAGES" = some (.int 6 t)
 c_NIGHT:∃t,mg "NIGHT" = some (.int 720 t)
 c_WANTS:j4f K mg "WANTS" [.str "nothing",.str "hands",.str "bench",.str "oven"]
 n_all:mg "all" = none
 n_bool:mg "bool" = none
 n_enumerate:mg "enumerate" = none
 n_int:mg "int" = none
 n_isinstance:mg "isinstance" = none
 n_len:mg "len" = none
 n_max:mg "max" = none
 n_min:mg "min" = none
 n_range:mg "range" = none
 n_set:mg "set" = none
 n_sum:mg "sum" = none
 n_tuple:mg "tuple" = none
 n_zip:mg "zip" = none
local macro_rules | `(tactic| walk_at "sc")=>`(tactic| exact ⟨rfl,rfl,rfl,by decide +kernel,rfl,by decide +kernel,by decide +kernel⟩)
section
variable {P:Program} {w:World} {K:PySem.W.Frag} {mg:Str->Option Value} {base:Heap} {fa:Nat->Addr} {fd:Nat->FuncData} {T:Tb}
theorem fo0 (x:Tx K mg fa fd T):∀q∈[(18,0)],FoC T K "night" q:=foC x.cC18 x.na18_night x.fl18 foN
theorem fo1 (x:Tx K mg fa fd T):∀q∈[(16,0)],FoC T K "bread" q:=foC x.cC16 x.na16_bread x.fl16 foN
theorem fo2 (x:Tx K mg fa fd T):∀q∈[(16,2)],FoC T K "due" q:=foC x.cC16 x.na16_due x.fl16 foN
theorem fo3 (x:Tx K mg fa fd T):∀q∈[(18,4)],FoC T K "breads" q:=foC x.cC18 x.na18_breads x.fl18 foN
theorem fo4 (x:Tx K mg fa fd T):∀q∈[(22,0),(23,0)],FoC T K "name" q:=foC x.cC22 x.na22_name x.fl22 (foC x.cC23 x.na23_name x.fl23 foN)
theorem fo5 (x:Tx K mg fa fd T):∀q∈[(16,1),(17,2),(21,4)],FoC T K "loaves" q:=foC x.cC16 x.na16_loaves x.fl16 (foC x.cC17 x.na17_loaves x.fl17 (foC x.cC21 x.na21_loaves x.fl21 foN))
theorem fo6 (x:Tx K mg fa fd T):∀q∈[(18,3)],FoC T K "ovens" q:=foC x.cC18 x.na18_ovens x.fl18 foN
theorem fo7 (x:Tx K mg fa fd T):∀q∈[(19,0)],FoC T K "room" q:=foC x.cC19 x.na19_room x.fl19 foN
theorem j9I:q0l ["_law_script","_law_k"] ["_law_script","_law_k"] (q0g j72):=by walk_at "sc"
noncomputable def q7v (ρ:Ro):Fl:=(q2G (eIx (q0f 0) (q0f 1))) ρ
noncomputable def q7T (ρ:Ro):Fl:=(q2G (eI 0)) ρ
noncomputable def q7K (ρ:Ro):Fl:=((sIf (tB2 qLt (q0f 1) (eCB q2W (q0q (q0f 0) q0K))) q7v Fl.nx) ρ).bind q7T
noncomputable def q1M:Fn:=fnF 2 q7K
theorem q14 (x:Tx K mg fa fd T):q0M P w K mg base (CXE T P w) 1 (fa 76) (fd 76) ["_law_script","_law_k"] (spD T K 2 q1M):=
 have hT:=x.me
 have hT0:=q0o x.me
 q1A x.me x.F76 j9I λcdv A outer s H E hr=>
  (q0c (q0I (q0y j6g (q0a 1) (q0s q0T rfl x.n_len rfl (q0k (q0a 0) q0n)) (nomark _)) (q0h (q0O (q0U (q0a 0) (q0a 1)))) q0v)
   (q0h (q0O q0b)))
theorem q6B:q0l ["_law_cell","_law_many","_law_letters","_law_shift","_law_stem","_law_place","_law_row"] ["_law_cell","_law_many"] (q0g j7H):=by walk_at "sc"
noncomputable def q5T (ρ:Ro):Fl:=(q6O (fFr (q0L (q5d (n1 (q0f 1))) [6,0] (q6D (q0f 1) oNo (oSo (q1z (q1z (q0f 0) (eI 1)) (q1H (q2P (q0f 2) (eI 2)) (eI 3)))))))) ρ
noncomputable def j19 (ρ:Ro):Fl:=((q1n 6 (q1z (q6D (q0f 2) (oSo (q0f 3)) oNo) (q6D (q0f 2) oNo (oSo (q0f 3))))) ρ).bind q5T
noncomputable def q6e (ρ:Ro):Fl:=(q6O (fFr (q0L (q5d (n1 (q0f 1))) [4,2,5,3] (q1z (q1z (q6D (q0f 1) oNo (oSo (q0f 3))) (eIx (q0f 2) (q1H (q1z (q0f 4) (q0f 0)) (eI 26)))) (q6D (q0f 1) (oSo (q0f 3)) oNo))))) ρ
noncomputable def j2O (ρ:Ro):Fl:=((q1n 5 (q1H (q2P (q0f 0) (eI 24)) (q1z (eCB q2W (q0q (q0f 4) q0K)) (eI 1)))) ρ).bind q6e
noncomputable def q58 (ρ:Ro):Fl:=((q1n 4 (eMt q5G q9c (eS "") (q0q (q1l (q0L (q5d (n1 (q1H (q2P (q0f 0) (eI 2)) (eI 12)))) [2,0] (eIx (q0f 1) (q1H (q1z (q2P (q0f 2) (eI 7)) (j61 (q0f 0) (q1z (q0f 0) (eI 2)))) (eI 26))))) q0K))) ρ).bind j2O
noncomputable def q7r (ρ:Ro):Fl:=((sIf (tEq (q1H (q0f 0) (eI 2)) (eI 1)) j19 Fl.nx) ρ).bind q58
noncomputable def q8f (ρ:Ro):Fl:=((q1n 3 (q1H (q2P (q0f 0) (eI 288)) (eI 26))) ρ).bind q7r
noncomputable def q86 (ρ:Ro):Fl:=((q1n 2 (eS "abcdefghijklmnopqrstuvwxyz")) ρ).bind q8f
noncomputable def j4H:Fn:=fnF 7 q86
theorem j8x (x:Tx K mg fa fd T):q0M P w K mg base (CXE T P w) 1 (fa 79) (fd 79) ["_law_cell","_law_many"] (spD T K 2 j4H):=
 have hT:=x.me
 have hT0:=q0o x.me
 q1A x.me x.F79 q6B λcdv A outer s H E hr=>
  (q0c (q0w 2 q6B.nd q4I)
   (q0c (q0w 3 q6B.nd (q0m q0x (q0m q0H (q0a 0) q0b) q0b))
   (q0c (q0I (q0y q1b (q0m q0x (q0a 0) q0b) q0b (nomark _)) (q0c (q0w 6 q6B.nd (q0m q0z (q27 (q0a 2) (q6S (q0a 3)) q62) (q27 (q0a 2) q62 (q6S (q0a 3)))))
   (q0h (q3e (DF.dr (DC.df (q03 hT0 rfl (q2w (j00 rfl x.n_range (q0a 1))) (j3y ["_law_row","_law_cell"] [6,0] (hc:=(q1g rfl rfl rfl (q1g rfl rfl rfl q3i)))) (λcl C s₀ H₀ ex=>(q27 (q0a 1) q62 (q6S (q0m q0z (q0m q0z (q0a 0) q0b) (q0m q0x (q0m q0H (q0a 2) q0b) q0b))))))))))) q0v)
   (q0c (q0w 4 q6B.nd (j6L j3h PySem.F.slot_str_join PySem.F.type_str_join q4I (q0k (DF.de (DC.df (q03 hT0 rfl (q2w (j00 rfl x.n_range (q0m q0x (q0m q0H (q0a 0) q0b) q0b))) (j3y ["_law_letters","_law_cell"] [2,0] (hc:=(q1g rfl rfl rfl (q1g rfl rfl rfl q3i)))) (λcl C s₀ H₀ ex=>(q0U (q0a 1) (q0m q0x (q0m q0z (q0m q0H (q0a 2) q0b) (q0m q6a (q0a 0) (q0m q0z (q0a 0) q0b))) q0b)))))) q0n)))
   (q0c (q0w 5 q6B.nd (q0m q0x (q0m q0H (q0a 0) q0b) (q0m q0z (q0s q0T rfl x.n_len rfl (q0k (q0a 4) q0n)) q0b)))
   (q0h (q3e (DF.dr (DC.df (q03 hT0 rfl (q2w (j00 rfl x.n_range (q0a 1))) (j3y ["_law_stem","_law_letters","_law_place","_law_shift"] [4,2,5,3] (hc:=(q1g rfl rfl rfl (q1g rfl rfl rfl (q1g rfl rfl rfl (q1g rfl rfl rfl q3i)))))) (λcl C s₀ H₀ ex=>(q0m q0z (q0m q0z (q27 (q0a 1) q62 (q6S (q0a 3))) (q0U (q0a 2) (q0m q0x (q0m q0z (q0a 4) (q0a 0)) q0b))) (q27 (q0a 1) (q6S (q0a 3)) q62)))))))))))))
theorem j8r:q0l ["_law_script","_law_k"] ["_law_script","_law_k"] (q0g j7S):=by walk_at "sc"
noncomputable def j0O (ρ:Ro):Fl:=(q2G (q0f 1)) ρ
noncomputable def j1u (ρ:Ro):Fl:=(q2G (q1z (eIx (q0f 0) (q1H (q0f 1) (eCB q2W (q0q (q0f 0) q0K)))) (j61 (eI 7) (q2P (q0f 1) (eCB q2W (q0q (q0f 0) q0K)))))) ρ
noncomputable def q8I (ρ:Ro):Fl:=((sIf (tEq (eCB q2W (q0q (q0f 0) q0K)) (eI 0)) j0O Fl.nx) ρ).bind j1u
noncomputable def q5i:Fn:=fnF 2 q8I
theorem q9M (x:Tx K mg fa fd T):q0M P w K mg base (CXE T P w) 1 (fa 77) (fd 77) ["_law_script","_law_k"] (spD T K 2 q5i):=
 have hT:=x.me
 have hT0:=q0o x.me
 q1A x.me x.F77 j8r λcdv A outer s H E hr=>
  (q0c (q0I (q0y q1b (q0s q0T rfl x.n_len rfl (q0k (q0a 0) q0n)) q0b (nomark _)) (q0h (q0O (q0a 1))) q0v)
   (q0h (q0O (q0m q0z (q0U (q0a 0) (q0m q0x (q0a 1) (q0s q0T rfl x.n_len rfl (q0k (q0a 0) q0n)))) (q0m q6a q0b (q0m q0H (q0a 1) (q0s q0T rfl x.n_len rfl (q0k (q0a 0) q0n))))))))
theorem q16:q0l ["_law_script","_law_night","_law_many","_law_kinds","_law_asked","_law_k","_law_mode","_law_cell","_law_due_here","_law_loaves","_law_place"] ["_law_script","_law_night","_law_many","_law_kinds"] (q0g j7O):=by walk_at "sc"
noncomputable def j0R (ρ:Ro):Fl:=(q1n 9 (q1z (eI 1) (q1H (q2P (q0f 7) (eI 3)) (eI 60)))) ρ
noncomputable def q5r (ρ:Ro):Fl:=(q1n 9 (q84 4 (q9V (q0f 9) (j61 (eCB q9l (q0q (q1l (q0L (j6k 4) [] (eIx (q0f 0) (eI 1)))) q0K)) (eCB q6y (q0q (e2 (λa b=>bD false (eqS a b)) (q0f 5) (q9V (q0f 2) (eI 1))) q0K)))))) ρ
noncomputable def j1g (ρ:Ro):Fl:=((q1n 9 (eIx (q1l (q1a (q0q (q1z (eI 1) (q1H (q2P (q0f 7) (eI 3)) (eI 2))) (q0q (q1z (eI 24) (q1H (q2P (rD (rC 2 q1M (gSh (q0f 0) (gSh (eI 0) gN0)))) (eI 3)) (eI 2))) q0K)))) (eCB q6y (q0q (e2 (λa b=>bD false (eqS a b)) (q0f 5) (q9V (q0f 2) (eI 1))) q0K)))) ρ).bind q5r
noncomputable def q3y (ρ:Ro):Fl:=(j7f 4 (j7n (q0q (q1H (q2P (q0f 7) (eI 5)) (q0f 3)) (q0q (eCB j88 (q0q (eI 1) (q0q (q0f 9) q0K))) (q0q (q0f 8) q0K))))) ρ
noncomputable def q3j (ρ:Ro):Fl:=((sIf (tEq (q1H (rD (rC 2 q1M (gSh (q0f 0) (gSh (eI 0) gN0)))) (eI 3)) (eI 2)) j1g Fl.nx) ρ).bind q3y
noncomputable def q4z (ρ:Ro):Fl:=((sIf (tEq (q1H (rD (rC 2 q1M (gSh (q0f 0) (gSh (eI 0) gN0)))) (eI 3)) (eI 1)) j0R Fl.nx) ρ).bind q3j
noncomputable def j1W (ρ:Ro):Fl:=((q1n 9 (q1z (eI 1) (q1H (q2P (q0f 7) (eI 3)) (eI 6)))) ρ).bind q4z
noncomputable def j0P (ρ:Ro):Fl:=((q1n 8 (eIx (q1l (q1a (q0q (q1H (q2P (q0f 7) (eI 4)) (q1z (q0f 1) (eI 1))) (q0q (eI 0) (q0q (q0f 1) (q0q (q1H (q2P (q0f 7) (eI 4)) (q1z (q0f 1) (eI 1))) q0K)))))) (q1H (q0f 7) (eI 4)))) ρ).bind j1W
noncomputable def q5D (ρ:Ro):Fl:=((q1n 7 (rD (rC 2 q5i (gSh (q0f 0) (gSh (q1z (eI 8) (q0f 5)) gN0))))) ρ).bind j0P
noncomputable def q3E (ρ:Ro):Fl:=(j3B 4 (q0f 10) (j7n (q0q (q0f 3) (q0q (eIx (j6b (j4G 4) (q0f 10)) (eI 1)) (q0q (eIx (j6b (j4G 4) (q0f 10)) (eI 2)) q0K))))) ρ
noncomputable def q7X (ρ:Ro):Fl:=((q1n 10 (q1H (rD (rC 2 q5i (gSh (q0f 0) (gSh (q1z (eI 20) (q0f 5)) gN0)))) (q0f 2))) ρ).bind q3E
noncomputable def q3W (ρ:Ro):Fl:=(j3B 4 (q0f 10) (j7n (q0q (eIx (j6b (j4G 4) (q0f 10)) (eI 0)) (q0q (eIx (j6b (j4G 4) (q0f 10)) (eI 1)) (q0q (q0f 8) q0K))))) ρ
noncomputable def q85 (ρ:Ro):Fl:=((q1n 10 (q1H (rD (rC 2 q5i (gSh (q0f 0) (gSh (q1z (eI 26) (q0f 5)) gN0)))) (q0f 2))) ρ).bind q3W
noncomputable def q7G (ρ:Ro):Fl:=((q1n 8 (eIx (q1l (q1a (q0q (q1z (q0f 1) (eI 1)) (q0q (q1z (q1z (q0f 1) (eI 1)) (q1H (q2P (q0f 7) (eI 6)) (e2 (i2c j26 λi j=>.int (i ^ j.toNat)) (eI 10) (eI 30)))) (q0q (q9V (q9V (eI 0) (eI 1)) (q1H (q2P (q0f 7) (eI 6)) (eI 99))) q0K))))) (q1H (q0f 7) (eI 3)))) ρ).bind q85
noncomputable def q8h (ρ:Ro):Fl:=((q1n 7 (rD (rC 2 q5i (gSh (q0f 0) (gSh (q1z (eI 23) (q0f 5)) gN0))))) ρ).bind q7G
noncomputable def q2b (ρ:Ro):Fl:=(sIf (q9J (tB2 qGt (q0f 2) (eI 0)) (tEq (q1H (q2P (q0f 6) (eI 2)) (eI 2)) (eI 1))) q8h Fl.nx) ρ
noncomputable def q1T (ρ:Ro):Fl:=((sIf (q9J (tB2 qGt (q0f 2) (eI 0)) (tEq (q1H (q0f 6) (eI 2)) (eI 1))) q7X Fl.nx) ρ).bind q2b
noncomputable def q7w (ρ:Ro):Fl:=(q9u 4) ρ
noncomputable def q31 (ρ:Ro):Fl:=((q3P (q5d (n1 (q1z (eI 1) (q1H (q2P (q0f 6) (eI 4)) (eI 3))))) (q2E 5) q1T) ρ).bind q7w
noncomputable def q8P (ρ:Ro):Fl:=((q1n 6 (rD (rC 2 q1M (gSh (q0f 0) (gSh (eI 1) gN0))))) ρ).bind q31
noncomputable def q5n (ρ:Ro):Fl:=((q3P (q5d (n1 (q0f 2))) (q2E 5) q5D) ρ).bind q8P
noncomputable def q5l (ρ:Ro):Fl:=((q5o 4 (fFr (q1a q0K))) ρ).bind q5n
noncomputable def j8E:Fn:=fnF 11 q5l
theorem j79 (x:Tx K mg fa fd T):q0M P w K mg base (CXE T P w) 2 (fa 81) (fd 81) ["_law_script","_law_night","_law_many","_law_kinds"] (spD T K 4 j8E):=
 have hT:=x.me
 have hT0:=q0o x.me
 q1A x.me x.F81 q16 λcdv A outer s H E hr=>
  (q0c (q23 4 q16.nd (DF.dr (q0Q q0n)))
   (q0c (q04 rfl (q2w (j00 rfl x.n_range (q0a 2))) (q1E 5 q16.nd) (q0c (q0w 7 q16.nd (DR.de (q0e (q9M x) hr.le x.c77 (q0d (q0a 0) (q0d (q0m q0z q0b (q0a 5)) q0j)))))
   (q0c (q0w 8 q16.nd (q0U (DF.de (q0Q (q0k (q0m q0x (q0m q0H (q0a 7) q0b) (q0m q0z (q0a 1) q0b)) (q0k q0b (q0k (q0a 1) (q0k (q0m q0x (q0m q0H (q0a 7) q0b) (q0m q0z (q0a 1) q0b)) q0n)))))) (q0m q0x (q0a 7) q0b)))
   (q0c (q0w 9 q16.nd (q0m q0z q0b (q0m q0x (q0m q0H (q0a 7) q0b) q0b)))
   (q0c (q0I (q0y q1b (q0m q0x (DR.de (q0e (q14 x) hr.le x.c76 (q0d (q0a 0) (q0d q0b q0j)))) q0b) q0b (nomark _)) (q0h (q0w 9 q16.nd (q0m q0z q0b (q0m q0x (q0m q0H (q0a 7) q0b) q0b)))) q0v)
   (q0c (q0I (q0y q1b (q0m q0x (DR.de (q0e (q14 x) hr.le x.c76 (q0d (q0a 0) (q0d q0b q0j)))) q0b) q0b (nomark _)) (q0c (q0w 9 q16.nd (q0U (DF.de (q0Q (q0k (q0m q0z q0b (q0m q0x (q0m q0H (q0a 7) q0b) q0b)) (q0k (q0m q0z q0b (q0m q0x (q0m q0H (DR.de (q0e (q14 x) hr.le x.c76 (q0d (q0a 0) (q0d q0b q0j)))) q0b) q0b)) q0n)))) (q2k q3X rfl x.n_int rfl (q0k (q3v q1b (q0a 5) (q0m q3c (q0a 2) q0b) (nomark _)) q0n))))
   (q0h (q0w 9 q16.nd (j0r 4 (q0m q3c (q0a 9) (q0m q6a (q0s (j2T rfl) rfl x.n_sum rfl (q0k (DF.de (DC.df (q03 hT0 rfl (q1s (j5l 4)) cap0 (λcl C s₀ H₀ ex=>(q0U (q0a 0) q0b))))) q0n)) (q2k q3X rfl x.n_int rfl (q0k (q3v q1b (q0a 5) (q0m q3c (q0a 2) q0b) (nomark _)) q0n)))))))) q0v)
   (q0h (j0Z 4 (q8Q (q0k (q0m q0x (q0m q0H (q0a 7) q0b) (q0a 3)) (q0k (q0s (j56 rfl) rfl x.n_max rfl (q0k q0b (q0k (q0a 9) q0n))) (q0k (q0a 8) q0n))))))))))))
   (q0c (q0w 6 q16.nd (DR.de (q0e (q14 x) hr.le x.c76 (q0d (q0a 0) (q0d q0b q0j)))))
   (q0c (q04 rfl (q2w (j00 rfl x.n_range (q0m q0z q0b (q0m q0x (q0m q0H (q0a 6) q0b) q0b)))) (q1E 5 q16.nd) (q0c (q0I (DW.dt (q7Z (q0y q5c (q0a 2) q0b (nomark _)) (q43 (q0y q1b (q0m q0x (q0a 6) q0b) q0b (nomark _))))) (q0c (q0w 10 q16.nd (q0m q0x (DR.de (q0e (q9M x) hr.le x.c77 (q0d (q0a 0) (q0d (q0m q0z q0b (q0a 5)) q0j)))) (q0a 2)))
   (q0h (q8D 4 (q8Q (q0k (q0a 3) (q0k (q0U (q6w (q6o 4) (q0a 10)) q0b) (q0k (q0U (q6w (q6o 4) (q0a 10)) q0b) q0n)))) (q0a 10)))) q0v)
   (q0h (q0I (DW.dt (q7Z (q0y q5c (q0a 2) q0b (nomark _)) (q43 (q0y q1b (q0m q0x (q0m q0H (q0a 6) q0b) q0b) q0b (nomark _))))) (q0c (q0w 7 q16.nd (DR.de (q0e (q9M x) hr.le x.c77 (q0d (q0a 0) (q0d (q0m q0z q0b (q0a 5)) q0j)))))
   (q0c (q0w 8 q16.nd (q0U (DF.de (q0Q (q0k (q0m q0z (q0a 1) q0b) (q0k (q0m q0z (q0m q0z (q0a 1) q0b) (q0m q0x (q0m q0H (q0a 7) q0b) (q0m j4T q0b q0b))) (q0k (q0m q3c (q0m q3c q0b q0b) (q0m q0x (q0m q0H (q0a 7) q0b) q0b)) q0n))))) (q0m q0x (q0a 7) q0b)))
   (q0c (q0w 10 q16.nd (q0m q0x (DR.de (q0e (q9M x) hr.le x.c77 (q0d (q0a 0) (q0d (q0m q0z q0b (q0a 5)) q0j)))) (q0a 2)))
   (q0h (q8D 4 (q8Q (q0k (q0U (q6w (q6o 4) (q0a 10)) q0b) (q0k (q0U (q6w (q6o 4) (q0a 10)) q0b) (q0k (q0a 8) q0n)))) (q0a 10)))))) q0v))))
   (q0h (q8g 4))))))
theorem j6p:q0l ["_law_asked","_law_night","_law_kinds","_law_most","_law_row"] ["_law_asked","_law_night","_law_kinds","_law_most"] (q0g j7y):=by walk_at "sc"
noncomputable def j2Q (ρ:Ro):Fl:=(q2G (eI 1)) ρ
noncomputable def j2b (ρ:Ro):Fl:=(q2G (eI 2)) ρ
noncomputable def q5P (ρ:Ro):Fl:=(q2G (eI 3)) ρ
noncomputable def q4H (ρ:Ro):Fl:=(sIf (j55 (tB2 qLt (eIx (q0f 4) (eI 2)) (eI 0)) (tB2 qGt (eIx (q0f 4) (eI 2)) (q0f 1))) q5P Fl.nx) ρ
noncomputable def j1j (ρ:Ro):Fl:=(q2G (eI 4)) ρ
noncomputable def j2v (ρ:Ro):Fl:=(q2G (eI 0)) ρ
noncomputable def j1q (ρ:Ro):Fl:=((sIf (tB2 qGt (eCB q9l (q0q (q1l (q0L (q15 (q0f 0)) [3] (q2P (q9V (q1z (eIx (q0f 0) (eI 1)) (q0f 1)) (eI 1)) (q0f 1)))) q0K)) (eI 24)) j1j Fl.nx) ρ).bind j2v
noncomputable def j02 (ρ:Ro):Fl:=((q3P (q15 (q0f 0)) (q2E 4) q4H) ρ).bind j1q
noncomputable def q6v (ρ:Ro):Fl:=((sIf (tB2 (inD false) (q0f 2) (q1l (q0L (q15 (q0f 0)) [] (eIx (q0f 0) (eI 0))))) j2b Fl.nx) ρ).bind j02
noncomputable def q2V (ρ:Ro):Fl:=((sIf (tB2 qGt (eCB q2W (q0q (q0f 0) q0K)) (eI 12)) j2Q Fl.nx) ρ).bind q6v
noncomputable def j7Z:Fn:=fnF 5 q2V
theorem j5E (x:Tx K mg fa fd T):q0M P w K mg base (CXE T P w) 1 (fa 82) (fd 82) ["_law_asked","_law_night","_law_kinds","_law_most"] (spD T K 4 j7Z):=
 have hT:=x.me
 have hT0:=q0o x.me
 q1A x.me x.F82 j6p λcdv A outer s H E hr=>
  (q0c (q0I (q0y q5c (q0s q0T rfl x.n_len rfl (q0k (q0a 0) q0n)) q0b (nomark _)) (q0h (q0O q0b)) q0v)
   (q0c (q0I (q0y j5A (q0a 2) (DF.de (DC.df (q03 hT0 rfl (q1s (DE.dp (q0a 0))) cap0 (λcl C s₀ H₀ ex=>(q0U (q0a 0) q0b))))) rfl) (q0h (q0O q0b)) q0v)
   (q0c (q04 rfl (q1s (DE.dp (q0a 0))) (q1E 4 j6p.nd) (q0h (q0I (DW.dt (j0D (q0y j6g (q0U (q0a 4) q0b) q0b (nomark _)) (q5W (q0y q5c (q0U (q0a 4) q0b) (q0a 1) (nomark _))))) (q0h (q0O q0b)) q0v)))
   (q0c (q0I (q0y q5c (q0s (j2T rfl) rfl x.n_sum rfl (q0k (DF.de (DC.df (q03 hT0 rfl (q1s (DE.dp (q0a 0))) (j3y ["_law_most"] [3] (hc:=(q1g rfl rfl rfl q3i))) (λcl C s₀ H₀ ex=>(q0m q0H (q0m q3c (q0m q0z (q0U (q0a 0) q0b) (q0a 1)) q0b) (q0a 1)))))) q0n)) q0b (nomark _)) (q0h (q0O q0b)) q0v)
   (q0h (q0O q0b))))))
theorem j8g:q0l ["_law_found","_law_due_here"] ["_law_found","_law_due_here"] (q0g j7g):=by walk_at "sc"
noncomputable def j0W (ρ:Ro):Fl:=(q2G (j3f (j7e j20 (q0f 0)) (j3f (j5X (j7e q8j (q0f 0))) (e2 (λa b=>bD false (eqS a b)) (q0f 0) (q0f 1))))) ρ
noncomputable def q7e:Fn:=fnF 2 j0W
theorem q3O (x:Tx K mg fa fd T):q0M P w K mg base (CXE T P w) 1 (fa 78) (fd 78) ["_law_found","_law_due_here"] (spD T K 2 q7e):=
 have hT:=x.me
 have hT0:=q0o x.me
 q1A x.me x.F78 j8g λcdv A outer s H E hr=>
  (q0h (q0O (j1Z (q8a rfl x.n_isinstance (q0a 0) rfl x.n_int rfl j3n q6A) (j1Z (j5V (q8a rfl x.n_isinstance (q0a 0) rfl x.n_bool rfl j0e q5h)) (j6U (q3v q1b (q0a 0) (q0a 1) (nomark _)))))))
theorem w1i:q0l ["count","lowest","highest"] ["count","lowest","highest"] (q0g s_3):=by walk_at "sc"
noncomputable def j34 (ρ:Ro):Fl:=(q2j 4 (q0q (eJ (q4c q6R (q0f 0) (q5z " of them, not " (q4c q6R (q0f 1) (q5z " to " (q4c q6R (q0f 2) jN0)))))) q0K)) ρ
noncomputable def q95 (ρ:Ro):Fl:=(sIf (q2q (tCh qLe qLe (q0f 1) (q0f 0) (q0f 2))) j34 Fl.nx) ρ
noncomputable def F_3:Fn:=fnF 3 q95
theorem j7s (x:Tx K mg fa fd T):q0M P w K mg base (CXE T P w) 1 (fa 3) (fd 3) ["count","lowest","highest"] (spD T K 3 F_3):=
 have hT:=x.me
 have hT0:=q0o x.me
 q1A x.me x.F3 w1i λcdv A outer s H E hr=>
  (q0h (q0I (q1I (q2L q4y q4y (q0a 1) (q0a 0) (q0a 2))) (q0h (q1v (c:=4) rfl x.xc4 rfl x.mC4 (q0k (q1Q (q1X (q0a 0) (q1J (q1X (q0a 1) (q1J (q1X (q0a 2) q2D)))))) q0n) hsh1)) q0v))
theorem j6I:q0l ["self","name","bread"] ["self","name"] (q0g j7X):=by walk_at "sc"
noncomputable def q74 (ρ:Ro):Fl:=(q2G (q0f 2)) ρ
noncomputable def q5A (ρ:Ro):Fl:=(sIf (tEq (q37 [(22,0),(23,0)] (q0f 2)) (q0f 1)) q74 Fl.nx) ρ
noncomputable def j2N (ρ:Ro):Fl:=(q2j 6 (q0q (eJ (q5z "the bakery has no bread " (q4c q8o (q0f 1) jN0))) q0K)) ρ
noncomputable def q6h (ρ:Ro):Fl:=((q3P (j3w (q37 [(18,4)] (q0f 0))) (q2E 2) q5A) ρ).bind j2N
noncomputable def j70:Fn:=fnF 3 q6h
theorem j8w (x:Tx K mg fa fd T):q0M P w K mg base (CXE T P w) 1 (fa 14) (fd 14) ["self","name"] (spD T K 2 j70):=
 have hT:=x.me
 have hT0:=q0o x.me
 q1A x.me x.F14 j6I λcdv A outer s H E hr=>
  (q0c (q04 rfl (j1J (q1u (q0a 0) (fo3 x))) (q1E 2 j6I.nd) (q0h (q0I (q0y q1b (q1u (q0a 2) (fo4 x)) (q0a 1) (nomark _)) (q0h (q0O (q0a 2))) q0v)))
   (q0h (q1v (c:=6) rfl x.xc6 rfl x.mC6 (q0k (q1Q (q1J (q48 (q0a 1) q2D))) q0n) hsh1)))
theorem w1A:q0l ["due","night"] ["due","night"] (q0g s_8):=by walk_at "sc"
noncomputable def j4a (ρ:Ro):Fl:=(q2j 7 (q0q (eJ (q5z "minute " (q4c q6R (q0f 0) (q5z " does not lie from 0 to " (q4c q6R (q0f 1) jN0))))) q0K)) ρ
noncomputable def q9S (ρ:Ro):Fl:=(sIf (q2q (tCh qLe qLe (eI 0) (q0f 0) (q0f 1))) j4a Fl.nx) ρ
noncomputable def F_8:Fn:=fnF 2 q9S
theorem w1D (x:Tx K mg fa fd T):q0M P w K mg base (CXE T P w) 1 (fa 8) (fd 8) ["due","night"] (spD T K 2 F_8):=
 have hT:=x.me
 have hT0:=q0o x.me
 q1A x.me x.F8 w1A λcdv A outer s H E hr=>
  (q0h (q0I (q1I (q2L q4y q4y q0b (q0a 0) (q0a 1))) (q0h (q1v (c:=7) rfl x.xc7 rfl x.mC7 (q0k (q1Q (q1J (q1X (q0a 0) (q1J (q1X (q0a 1) q2D))))) q0n) hsh1)) q0v))
theorem w1L:q0l ["self","order","first","loaves"] ["self","order","first","loaves"] (q0g s_6):=by walk_at "sc"
noncomputable def j6x (ρ:Ro):Fl:=(q0N 17 2 (q0f 3)) ρ
noncomputable def j4Y (ρ:Ro):Fl:=((q0N 17 1 (q0f 2)) ρ).bind j6x
noncomputable def j5z (ρ:Ro):Fl:=((q0N 17 0 (q0f 1)) ρ).bind j4Y
noncomputable def F_6:Fn:=q3m 4 17 3 j5z
theorem w13 (x:Tx K mg fa fd T):q0M P w K mg base (CXE T P w) 1 (fa 6) (fd 6) ["self","order","first","loaves"] (spI T K 17 4 F_6):=
 have hT0:=q0o x.me
 j4y x.me (by rw [x.fl17];rfl) (q2T x.F6) w1L λy cdv A outer s H E hr=>
  (q0c (q0W (c:=17) 0 x.cC17 x.na17_order (flA x.fl17) (flN x.fl17) (by decide) (q0a 1))
   (q0c (q0W (c:=17) 1 x.cC17 x.na17_first (flA x.fl17) (flN x.fl17) (by decide) (q0a 2))
   (q0h (q0W (c:=17) 2 x.cC17 x.na17_loaves (flA x.fl17) (flN x.fl17) (by decide) (q0a 3)))))
theorem q6Q:q0l ["orders","most","row","number","order","first","left"] ["orders","most"] (q0g j7u):=by walk_at "sc"
noncomputable def j2D (ρ:Ro):Fl:=(j7f 2 (rD (rC 3 F_6 (gSh (q0f 3) (gSh (q0f 5) (gSh (eCB j9K (q0q (q0f 1) (q0q (q0f 6) q0K))) gN0)))))) ρ
noncomputable def q8y (ρ:Ro):Fl:=((q1n 6 (q1z (q9V (q37 [(16,1),(17,2),(21,4)] (q0f 4)) (q0f 5)) (eI 1))) ρ).bind j2D
noncomputable def q9e (ρ:Ro):Fl:=(q3P (j0L (eI 1) (q1z (q37 [(16,1),(17,2),(21,4)] (q0f 4)) (eI 1)) (q0f 1)) (q2E 5) q8y) ρ
noncomputable def j2e (ρ:Ro):Fl:=(q9u 2) ρ
noncomputable def q5Z (ρ:Ro):Fl:=((q3P (j84 (q15 (q0f 0))) (q7N [3,4]) q9e) ρ).bind j2e
noncomputable def j2A (ρ:Ro):Fl:=((q5o 2 (fFr (q1a q0K))) ρ).bind q5Z
noncomputable def j5Q:Fn:=fnF 7 j2A
theorem j9n (x:Tx K mg fa fd T):q0M P w K mg base (CXE T P w) 3 (fa 10) (fd 10) ["orders","most"] (spD T K 2 j5Q):=
 have hT:=x.me
 have hT0:=q0o x.me
 q1A x.me x.F10 q6Q λcdv A outer s H E hr=>
  (q0c (q23 2 q6Q.nd (DF.dr (q0Q q0n)))
   (q0c (q04 rfl (q6l rfl x.n_enumerate (DE.dp (q0a 0))) (q5s rfl (q1m 3 q6Q.nd (q1m 4 q6Q.nd q3U))) (q0h (q04 rfl (j3u rfl x.n_range q0b (q0m q0z (q1u (q0a 4) (fo5 x)) q0b) (q0a 1)) (q1E 5 q6Q.nd) (q0c (q0w 6 q6Q.nd (q0m q0z (q0m q3c (q1u (q0a 4) (fo5 x)) (q0a 5)) q0b))
   (q0h (j0Z 2 (DR.de (q17 x.mk17 (w13 x) q1G hr.le rfl x.mC17 x.b6 .nil (λ_=>rfl) rfl (q0d (q0a 3) (q0d (q0a 5) (q0d (q0s (j54 rfl) rfl x.n_min rfl (q0k (q0a 1) (q0k (q0a 6) q0n))) q0j)))))))))))
   (q0h (q8g 2))))
theorem w11:q0l ["bakery"] ["bakery"] (q0g s_7):=by walk_at "sc"
noncomputable def j6H (ρ:Ro):Fl:=(q2G (eCB q44 (q0q (q1l (q0L (j3w (q37 [(18,3)] (q0f 0))) [] (q37 [(19,0)] (q0f 0)))) q0K))) ρ
noncomputable def F_7:Fn:=fnF 1 j6H
theorem w1Q (x:Tx K mg fa fd T):q0M P w K mg base (CXE T P w) 1 (fa 7) (fd 7) ["bakery"] (spD T K 1 F_7):=
 have hT:=x.me
 have hT0:=q0o x.me
 q1A x.me x.F7 w11 λcdv A outer s H E hr=>
  (q0h (q0O (q0s (q4U rfl) rfl x.n_max rfl (q0k (DF.de (DC.df (q03 hT0 rfl (j1J (q1u (q0a 0) (fo6 x))) cap0 (λcl C s₀ H₀ ex=>(q1u (q0a 0) (fo7 x)))))) q0n))))
theorem j7E:q0l ["bakery","orders","order","count"] ["bakery","orders"] (q0g s_9):=by walk_at "sc"
noncomputable def q6E (ρ:Ro):Fl:=(q0P (rD (j6h (n:=2) 18 j70 (q0f 0) (gSh (q37 [(16,0)] (q0f 2)) gN0)))) ρ
noncomputable def q6G (ρ:Ro):Fl:=(q0P (rD (rC 2 F_8 (gSh (q37 [(16,2)] (q0f 2)) (gSh (q37 [(18,0)] (q0f 0)) gN0))))) ρ
noncomputable def j4O (ρ:Ro):Fl:=(q2j 8 (q0q (eJ (q4c q6R (q0f 3) (q5z " batches, not at most " (q4c q6R (eI 24) jN0)))) q0K)) ρ
noncomputable def j23 (ρ:Ro):Fl:=(sIf (tB2 qGt (q0f 3) (eI 24)) j4O Fl.nx) ρ
noncomputable def q9h (ρ:Ro):Fl:=((q1n 3 (eCB q2W (q0q (rD (rC 2 j5Q (gSh (q0f 1) (gSh (rD (rC 1 F_7 (gSh (q0f 0) gN0))) gN0)))) q0K))) ρ).bind j23
noncomputable def q9n (ρ:Ro):Fl:=((q3P (q15 (q0f 1)) (q2E 2) q6G) ρ).bind q9h
noncomputable def q65 (ρ:Ro):Fl:=((q3P (q15 (q0f 1)) (q2E 2) q6E) ρ).bind q9n
noncomputable def j0A (ρ:Ro):Fl:=((q0P (rD (rC 3 F_3 (gSh (eCB q2W (q0q (q0f 1) q0K)) (gSh (eI 0) (gSh (eI 12) gN0)))))) ρ).bind q65
noncomputable def F_9:Fn:=fnF 4 j0A
theorem j8D (x:Tx K mg fa fd T):q0M P w K mg base (CXE T P w) 4 (fa 9) (fd 9) ["bakery","orders"] (spD T K 2 F_9):=
 have hT:=x.me
 have hT0:=q0o x.me
 q1A x.me x.F9 j7E λcdv A outer s H E hr=>
  (q0c (q0u (DR.de (q0e (j7s x) hr.le x.c3 (q0d (q0s q0T rfl x.n_len rfl (q0k (q0a 1) q0n)) (q0d q0b (q0d (q0D rfl x.c_MOST_ORDERS) q0j))))))
   (q0c (q04 rfl (q1s (DE.dp (q0a 1))) (q1E 2 j7E.nd) (q0h (q0u (DR.de (j3Q (q0a 0) x.cC18 x.mt14 (by rw [x.fl18];decide) (j8w x) hr.le x.b14 rfl (q0d (q1u (q0a 2) (fo1 x)) q0j))))))
   (q0c (q04 rfl (q1s (DE.dp (q0a 1))) (q1E 2 j7E.nd) (q0h (q0u (DR.de (q0e (w1D x) hr.le x.c8 (q0d (q1u (q0a 2) (fo2 x)) (q0d (q1u (q0a 0) (fo0 x)) q0j)))))))
   (q0c (q0w 3 j7E.nd (q0s q0T rfl x.n_len rfl (q0k (DR.de (q0e (j9n x) hr.le x.c10 (q0d (q0a 1) (q0d (DR.de (q0e (w1Q x) hr.le x.c7 (q0d (q0a 0) q0j))) q0j)))) q0n)))
   (q0h (q0I (q0y q5c (q0a 3) (q0D rfl x.c_MOST_BATCHES) (nomark _)) (q0h (q1v (c:=8) rfl x.xc8 rfl x.mC8 (q0k (q1Q (q1X (q0a 3) (q1J (q1X (q0D rfl x.c_MOST_BATCHES) q2D)))) q0n) hsh1)) q0v))))))
theorem j86:q0l ["bakery","orders"] ["bakery","orders"] (q0g j7c):=by walk_at "sc"
noncomputable def j0X (ρ:Ro):Fl:=((q0P (rD (rC 2 F_9 (gSh (q0f 0) (gSh (q0f 1) gN0))))) ρ).bind q11
noncomputable def j4v:Fn:=fnF 2 j0X
theorem j3q (x:Tx K mg fa fd T):q0M P w K mg base (CXE T P w) 5 (fa 11) (fd 11) ["bakery","orders"] (spD T K 2 j4v):=
 have hT:=x.me
 have hT0:=q0o x.me
 q1A x.me x.F11 j86 λcdv A outer s H E hr=>
  (q0c (q0u (DR.de (q0e (j8D x) hr.le x.c9 (q0d (q0a 0) (q0d (q0a 1) q0j)))))
   q0t)
theorem j9q:q0l ["parts","minute"] ["parts","minute"] (q0g j7C):=by walk_at "sc"
noncomputable def w0U:Fn:=fnF 2 q11
theorem j87 (x:Tx K mg fa fd T):q0M P w K mg base (CXE T P w) 1 (fa 29) (fd 29) ["parts","minute"] (spD T K 2 w0U):=
 have hT:=x.me
 have hT0:=q0o x.me
 q1A x.me x.F29 j9q λcdv A outer s H E hr=>
  q0t
theorem j57:q0l ["bakery","orders","plan","batches","batch","run"] ["bakery","orders","plan"] (q0g j7K):=by walk_at "sc"
noncomputable def j07 (ρ:Ro):Fl:=((q1n 3 (rD (rC 2 j4v (gSh (q0f 0) (gSh (q0f 1) gN0))))) ρ).bind q11
noncomputable def j4x:Fn:=fnF 6 j07
theorem j3i (x:Tx K mg fa fd T):q0M P w K mg base (CXE T P w) 6 (fa 26) (fd 26) ["bakery","orders","plan"] (spD T K 3 j4x):=
 have hT:=x.me
 have hT0:=q0o x.me
 q1A x.me x.F26 j57 λcdv A outer s H E hr=>
  (q0c (q0w 3 j57.nd (DR.de (q0e (j3q x) hr.le x.c11 (q0d (q0a 0) (q0d (q0a 1) q0j)))))
   q0t)
theorem q90:q0l ["bakery","orders","plan","row","number","batch","run","stage","span","oven"] ["bakery","orders","plan"] (q0g j7i):=by walk_at "sc"
noncomputable def j2C (ρ:Ro):Fl:=((q3P (j84 (q15 (rD (rC 3 j4x (gSh (q0f 0) (gSh (q0f 1) (gBo 2 gN0))))))) (q7N [4,5]) q11) ρ).bind q11
noncomputable def j2S (ρ:Ro):Fl:=((q5o 3 (fFr (q1a q0K))) ρ).bind j2C
noncomputable def j3j:Fn:=fnF 10 j2S
theorem q9D (x:Tx K mg fa fd T):q0M P w K mg base (CXE T P w) 7 (fa 28) (fd 28) ["bakery","orders","plan"] (spD T K 3 j3j):=
 have hT:=x.me
 have hT0:=q0o x.me
 q1A x.me x.F28 q90 λcdv A outer s H E hr=>
  (q0c (q23 3 q90.nd (DF.dr (q0Q q0n)))
   (q0c (q04 rfl (q6l rfl x.n_enumerate (DE.dp (DR.de (q0e (j3i x) hr.le x.c26 (q0d (q0a 0) (q0d (q0a 1) (j5k 2 q0j))))))) (q5s rfl (q1m 4 q90.nd (q1m 5 q90.nd q3U))) q0t)
   q0t))
theorem j49:q0l ["bakery","orders","plan","minute","now","loaves"] ["bakery","orders","plan","minute"] (q0g j7b):=by walk_at "sc"
noncomputable def j1D (ρ:Ro):Fl:=((q1n 4 (rD (rC 2 w0U (gSh (rD (rC 3 j3j (gSh (q0f 0) (gSh (q0f 1) (gSh (q0f 2) gN0))))) (gSh (q0f 3) gN0))))) ρ).bind q11
noncomputable def j9p:Fn:=fnF 6 j1D
theorem j8c (x:Tx K mg fa fd T):q0M P w K mg base (CXE T P w) 8 (fa 32) (fd 32) ["bakery","orders","plan","minute"] (spD T K 4 j9p):=
 have hT:=x.me
 have hT0:=q0o x.me
 q1A x.me x.F32 j49 λcdv A outer s H E hr=>
  (q0c (q0w 4 j49.nd (DR.de (q0e (j87 x) hr.le x.c29 (q0d (DR.de (q0e (q9D x) hr.le x.c28 (q0d (q0a 0) (q0d (q0a 1) (q0d (q0a 2) q0j))))) (q0d (q0a 3) q0j)))))
   q0t)
theorem q9B:q0l ["bakery","orders","plan","minute","loaves","batch","run"] ["bakery","orders","plan","minute"] (q0g j7m):=by walk_at "sc"
noncomputable def j2z (ρ:Ro):Fl:=((q3P (w0u (q15 (rD (rC 3 j4x (gSh (q0f 0) (gSh (q0f 1) (gSh (q0f 2) gN0)))))) (q15 (q0f 2))) (q7N [5,6]) q11) ρ).bind q11
noncomputable def j0V (ρ:Ro):Fl:=((q5o 4 (fFr (j9s (q1a (q0q (eI 0) q0K)) (eCB q2W (q0q (q0f 1) q0K))))) ρ).bind j2z
noncomputable def j9N:Fn:=fnF 7 j0V
theorem j8L (x:Tx K mg fa fd T):q0M P w K mg base (CXE T P w) 7 (fa 33) (fd 33) ["bakery","orders","plan","minute"] (spD T K 4 j9N):=
 have hT:=x.me
 have hT0:=q0o x.me
 q1A x.me x.F33 q9B λcdv A outer s H E hr=>
  (q0c (q23 4 q9B.nd (DF.dr (j0U (q0Q (q0k q0b q0n)) (q0s q0T rfl x.n_len rfl (q0k (q0a 1) q0n)))))
   (q0c (q04 rfl (j6y rfl x.n_zip (DE.dp (DR.de (q0e (j3i x) hr.le x.c26 (q0d (q0a 0) (q0d (q0a 1) (q0d (q0a 2) q0j)))))) (DE.dp (q0a 2))) (q5s rfl (q1m 5 q9B.nd (q1m 6 q9B.nd q3U))) q0t)
   q0t))
theorem j5N:q0l ["bakery","orders","plan","parts","row"] ["bakery","orders","plan"] (q0g j7k):=by walk_at "sc"
noncomputable def j1x (ρ:Ro):Fl:=((q1n 3 (rD (rC 3 j3j (gSh (q0f 0) (gSh (q0f 1) (gBo 2 gN0)))))) ρ).bind q11
noncomputable def j8V:Fn:=fnF 5 j1x
theorem j77 (x:Tx K mg fa fd T):q0M P w K mg base (CXE T P w) 8 (fa 35) (fd 35) ["bakery","orders","plan"] (spD T K 3 j8V):=
 have hT:=x.me
 have hT0:=q0o x.me
 q1A x.me x.F35 j5N λcdv A outer s H E hr=>
  (q0c (q0w 3 j5N.nd (DR.de (q0e (q9D x) hr.le x.c28 (q0d (q0a 0) (q0d (q0a 1) (j5k 2 q0j))))))
   q0t)
theorem w1I:q0l ["batch","count"] ["batch","count"] (q0g s_4):=by walk_at "sc"
noncomputable def F_4:Fn:=fnF 2 q11
theorem w1T (x:Tx K mg fa fd T):q0M P w K mg base (CXE T P w) 1 (fa 4) (fd 4) ["batch","count"] (spD T K 2 F_4):=
 have hT:=x.me
 have hT0:=q0o x.me
 q1A x.me x.F4 w1I λcdv A outer s H E hr=>
  q0t
theorem j8o:q0l ["bakery","orders","plan","batch","minutes","run","changed"] ["bakery","orders","plan","batch","minutes"] (q0g j7t):=by walk_at "sc"
noncomputable def j12 (ρ:Ro):Fl:=((q0P (rD (rC 2 F_4 (gSh (q0f 3) (gSh (eCB q2W (q0q (rD (rC 3 j4x (gSh (q0f 0) (gSh (q0f 1) (gSh (q0f 2) gN0))))) q0K)) gN0))))) ρ).bind q11
noncomputable def j9e:Fn:=fnF 7 j12
theorem j8u (x:Tx K mg fa fd T):q0M P w K mg base (CXE T P w) 7 (fa 42) (fd 42) ["bakery","orders","plan","batch","minutes"] (spD T K 5 j9e):=
 have hT:=x.me
 have hT0:=q0o x.me
 q1A x.me x.F42 j8o λcdv A outer s H E hr=>
  (q0c (q0u (DR.de (q0e (w1T x) hr.le x.c4 (q0d (q0a 3) (q0d (q0s q0T rfl x.n_len rfl (q0k (DR.de (q0e (j3i x) hr.le x.c26 (q0d (q0a 0) (q0d (q0a 1) (q0d (q0a 2) q0j))))) q0n)) q0j)))))
   q0t)
theorem j6D:q0l ["bakery","orders","plan","oven","parts","count"] ["bakery","orders","plan","oven"] (q0g j7V):=by walk_at "sc"
noncomputable def j1S (ρ:Ro):Fl:=((q1n 4 (rD (rC 3 j3j (gSh (q0f 0) (gSh (q0f 1) (gSh (q0f 2) gN0)))))) ρ).bind q11
noncomputable def j82:Fn:=fnF 6 j1S
theorem j9O (x:Tx K mg fa fd T):q0M P w K mg base (CXE T P w) 8 (fa 43) (fd 43) ["bakery","orders","plan","oven"] (spD T K 4 j82):=
 have hT:=x.me
 have hT0:=q0o x.me
 q1A x.me x.F43 j6D λcdv A outer s H E hr=>
  (q0c (q0w 4 j6D.nd (DR.de (q0e (q9D x) hr.le x.c28 (q0d (q0a 0) (q0d (q0a 1) (q0d (q0a 2) q0j))))))
   q0t)
theorem j5L:q0l ["bakery","orders","batches","stages"] ["bakery","orders"] (q0g j71):=by walk_at "sc"
noncomputable def j2h (ρ:Ro):Fl:=((q1n 2 (rD (rC 2 j4v (gSh (q0f 0) (gSh (q0f 1) gN0))))) ρ).bind q11
noncomputable def j6M:Fn:=fnF 4 j2h
theorem j6z (x:Tx K mg fa fd T):q0M P w K mg base (CXE T P w) 6 (fa 55) (fd 55) ["bakery","orders"] (spD T K 2 j6M):=
 have hT:=x.me
 have hT0:=q0o x.me
 q1A x.me x.F55 j5L λcdv A outer s H E hr=>
  (q0c (q0w 2 j5L.nd (DR.de (q0e (j3q x) hr.le x.c11 (q0d (q0a 0) (q0d (q0a 1) q0j)))))
   q0t)
theorem j5t:q0l ["bakery","orders","batch","batches"] ["bakery","orders","batch"] (q0g j7x):=by walk_at "sc"
noncomputable def j2w (ρ:Ro):Fl:=((q1n 3 (rD (rC 2 j6M (gSh (q0f 0) (gSh (q0f 1) gN0))))) ρ).bind q11
noncomputable def j9C:Fn:=fnF 4 j2w
theorem j74 (x:Tx K mg fa fd T):q0M P w K mg base (CXE T P w) 7 (fa 60) (fd 60) ["bakery","orders","batch"] (spD T K 3 j9C):=
 have hT:=x.me
 have hT0:=q0o x.me
 q1A x.me x.F60 j5t λcdv A outer s H E hr=>
  (q0c (q0w 3 j5t.nd (DR.de (q0e (j6z x) hr.le x.c55 (q0d (q0a 0) (q0d (q0a 1) q0j)))))
   q0t)
theorem j8z:q0l ["bakery","orders","rows"] ["bakery","orders","rows"] (q0g j7R):=by walk_at "sc"
noncomputable def j7D:Fn:=fnF 3 q11
theorem j3N (x:Tx K mg fa fd T):q0M P w K mg base (CXE T P w) 1 (fa 63) (fd 63) ["bakery","orders","rows"] (spD T K 3 j7D):=
 have hT:=x.me
 have hT0:=q0o x.me
 q1A x.me x.F63 j8z λcdv A outer s H E hr=>
  q0t
theorem j0x:q0l ["bakery","orders","rows","width","batch","row"] ["bakery","orders"] (q0g j7r):=by walk_at "sc"
noncomputable def j1y (ρ:Ro):Fl:=((q3P (q15 (rD (rC 2 j6M (gSh (q0f 0) (gSh (q0f 1) gN0))))) (q2E 4) q11) ρ).bind q11
noncomputable def j1o (ρ:Ro):Fl:=((q1n 3 (eI 1)) ρ).bind j1y
noncomputable def j1r (ρ:Ro):Fl:=((q5o 2 (fFr (q1a q0K))) ρ).bind j1o
noncomputable def j3P:Fn:=fnF 6 j1r
theorem q9R (x:Tx K mg fa fd T):q0M P w K mg base (CXE T P w) 7 (fa 61) (fd 61) ["bakery","orders"] (spD T K 2 j3P):=
 have hT:=x.me
 have hT0:=q0o x.me
 q1A x.me x.F61 j0x λcdv A outer s H E hr=>
  (q0c (q23 2 j0x.nd (DF.dr (q0Q q0n)))
   (q0c (q0w 3 j0x.nd q0b)
   (q0c (q04 rfl (q1s (DE.dp (DR.de (q0e (j6z x) hr.le x.c55 (q0d (q0a 0) (q0d (q0a 1) q0j)))))) (q1E 4 j0x.nd) q0t)
   q0t)))
theorem j5d:q0l ["bakery","orders","plans"] ["bakery","orders"] (q0g j7A):=by walk_at "sc"
noncomputable def j1Q (ρ:Ro):Fl:=((q1n 2 (rD (rC 3 j7D (gSh (q0f 0) (gSh (q0f 1) (gSh (rD (rC 2 j3P (gSh (q0f 0) (gSh (q0f 1) gN0)))) gN0)))))) ρ).bind q11
noncomputable def j9u:Fn:=fnF 3 j1Q
theorem j8q (x:Tx K mg fa fd T):q0M P w K mg base (CXE T P w) 8 (fa 66) (fd 66) ["bakery","orders"] (spD T K 2 j9u):=
 have hT:=x.me
 have hT0:=q0o x.me
 q1A x.me x.F66 j5d λcdv A outer s H E hr=>
  (q0c (q0w 2 j5d.nd (DR.de (q0e (j3N x) hr.le x.c63 (q0d (q0a 0) (q0d (q0a 1) (q0d (DR.de (q0e (q9R x) hr.le x.c61 (q0d (q0a 0) (q0d (q0a 1) q0j)))) q0j))))))
   q0t)
theorem j6N:q0l ["bakery","orders","batch","rows","plans","last"] ["bakery","orders","batch"] (q0g j7o):=by walk_at "sc"
noncomputable def j2G (ρ:Ro):Fl:=((q1n 3 (rD (rC 2 j3P (gSh (q0f 0) (gSh (q0f 1) gN0))))) ρ).bind q11
noncomputable def j8l:Fn:=fnF 6 j2G
theorem j9E (x:Tx K mg fa fd T):q0M P w K mg base (CXE T P w) 8 (fa 67) (fd 67) ["bakery","orders","batch"] (spD T K 3 j8l):=
 have hT:=x.me
 have hT0:=q0o x.me
 q1A x.me x.F67 j6N λcdv A outer s H E hr=>
  (q0c (q0w 3 j6N.nd (DR.de (q0e (q9R x) hr.le x.c61 (q0d (q0a 0) (q0d (q0a 1) q0j)))))
   q0t)
theorem j46:q0l ["bakery","orders","plans","row","place","run"] ["bakery","orders"] (q0g j7G):=by walk_at "sc"
noncomputable def j1N (ρ:Ro):Fl:=((q1n 2 (rD (rC 3 j7D (gSh (q0f 0) (gSh (q0f 1) (gSh (rD (rC 2 j3P (gSh (q0f 0) (gSh (q0f 1) gN0)))) gN0)))))) ρ).bind q11
noncomputable def j9G:Fn:=fnF 6 j1N
theorem j9d (x:Tx K mg fa fd T):q0M P w K mg base (CXE T P w) 8 (fa 68) (fd 68) ["bakery","orders"] (spD T K 2 j9G):=
 have hT:=x.me
 have hT0:=q0o x.me
 q1A x.me x.F68 j46 λcdv A outer s H E hr=>
  (q0c (q0w 2 j46.nd (DR.de (q0e (j3N x) hr.le x.c63 (q0d (q0a 0) (q0d (q0a 1) (q0d (DR.de (q0e (q9R x) hr.le x.c61 (q0d (q0a 0) (q0d (q0a 1) q0j)))) q0j))))))
   q0t)
theorem j83:q0l ["bakery","orders"] ["bakery","orders"] (q0g j7Y):=by walk_at "sc"
noncomputable def j1s (ρ:Ro):Fl:=(q2G (e2 (j9R true) (rD (rC 3 j7D (gSh (q0f 0) (gSh (q0f 1) (gSh (rD (rC 2 j3P (gSh (q0f 0) (gSh (q0f 1) gN0)))) gN0))))) (q1l (q1a q0K)))) ρ
noncomputable def j8U:Fn:=fnF 2 j1s
theorem j8v (x:Tx K mg fa fd T):q0M P w K mg base (CXE T P w) 8 (fa 69) (fd 69) ["bakery","orders"] (spD T K 2 j8U):=
 have hT:=x.me
 have hT0:=q0o x.me
 q1A x.me x.F69 j83 λcdv A outer s H E hr=>
  (q0h (q0O (q3v (j4q hr) (DR.de (q0e (j3N x) hr.le x.c63 (q0d (q0a 0) (q0d (q0a 1) (q0d (DR.de (q0e (q9R x) hr.le x.c61 (q0d (q0a 0) (q0d (q0a 1) q0j)))) q0j))))) (DF.de (q0Q q0n)) (nomark _))))
theorem j8R:q0l ["bakery","orders","numbers","number","rest"] ["bakery","orders"] (q0g j73):=by walk_at "sc"
noncomputable def j1B (ρ:Ro):Fl:=((sIf (q9j (rD (rC 2 j8U (gSh (q0f 0) (gSh (q0f 1) gN0))))) q11 Fl.nx) ρ).bind q11
noncomputable def j9c:Fn:=fnF 5 j1B
theorem j9l (x:Tx K mg fa fd T):q0M P w K mg base (CXE T P w) 9 (fa 70) (fd 70) ["bakery","orders"] (spD T K 2 j9c):=
 have hT:=x.me
 have hT0:=q0o x.me
 q1A x.me x.F70 j8R λcdv A outer s H E hr=>
  (q0c (q0I (q1i (DR.de (q0e (j8v x) hr.le x.c69 (q0d (q0a 0) (q0d (q0a 1) q0j))))) q0t q0v)
   q0t)
theorem j8k:q0l ["parts","rows","part","words"] ["parts"] (q0g j7B):=by walk_at "sc"
noncomputable def w0V:Fn:=fnF 4 q11
theorem j8t (x:Tx K mg fa fd T):q0M P w K mg base (CXE T P w) 1 (fa 46) (fd 46) ["parts"] (spD T K 1 w0V):=
 have hT:=x.me
 have hT0:=q0o x.me
 q1A x.me x.F46 j8k λcdv A outer s H E hr=>
  q0t
theorem j9P:q0l ["bakery","orders","plan","rows","number","batch","end","name","words"] ["bakery","orders","plan"] (q0g j7M):=by walk_at "sc"
noncomputable def j91:Fn:=fnF 9 q11
theorem j8h (x:Tx K mg fa fd T):q0M P w K mg base (CXE T P w) 1 (fa 47) (fd 47) ["bakery","orders","plan"] (spD T K 3 j91):=
 have hT:=x.me
 have hT0:=q0o x.me
 q1A x.me x.F47 j9P λcdv A outer s H E hr=>
  q0t
theorem j5y:q0l ["bakery","orders","plan","rows","first"] ["bakery","orders","plan"] (q0g j7Q):=by walk_at "sc"
noncomputable def j2P (ρ:Ro):Fl:=((q1n 3 (q1l (j9g (q15 (rD (rC 1 w0V (gSh (rD (rC 3 j3j (gSh (q0f 0) (gSh (q0f 1) (gSh (q0f 2) gN0))))) gN0)))) (q15 (rD (rC 3 j91 (gSh (q0f 0) (gSh (q0f 1) (gSh (q0f 2) gN0))))))))) ρ).bind q11
noncomputable def j8s:Fn:=fnF 5 j2P
theorem j85 (x:Tx K mg fa fd T):q0M P w K mg base (CXE T P w) 8 (fa 49) (fd 49) ["bakery","orders","plan"] (spD T K 3 j8s):=
 have hT:=x.me
 have hT0:=q0o x.me
 q1A x.me x.F49 j5y λcdv A outer s H E hr=>
  (q0c (q0w 3 j5y.nd (DF.de (j2H (DE.dl (DR.de (q0e (j8t x) hr.le x.c46 (q0d (DR.de (q0e (q9D x) hr.le x.c28 (q0d (q0a 0) (q0d (q0a 1) (q0d (q0a 2) q0j))))) q0j)))) (DE.dl (DR.de (q0e (j8h x) hr.le x.c47 (q0d (q0a 0) (q0d (q0a 1) (q0d (q0a 2) q0j)))))))))
   q0t)
theorem j9z:q0l ["_law_bakery","_law_orders","_law_which"] ["_law_bakery","_law_orders","_law_which"] (q0g j7W):=by walk_at "sc"
noncomputable def j1h (ρ:Ro):Fl:=(q0P (rD (rC 2 j4v (gSh (q0f 0) (gSh (q0f 1) gN0))))) ρ
noncomputable def j2B (ρ:Ro):Fl:=(q0P (rD (rC 4 j9p (gSh (q0f 0) (gSh (q0f 1) (gSh (q1l (q1a q0K)) (gSh (eI 5) gN0))))))) ρ
noncomputable def j1T (ρ:Ro):Fl:=(q0P (rD (rC 4 j9N (gSh (q0f 0) (gSh (q0f 1) (gSh (q1l (q1a q0K)) (gSh (eI 5) gN0))))))) ρ
noncomputable def j2t (ρ:Ro):Fl:=(q0P (rD (rC 3 j8V (gSh (q0f 0) (gSh (q0f 1) (gSh (q1l (q1a q0K)) gN0)))))) ρ
noncomputable def j2I (ρ:Ro):Fl:=(q0P (rD (rC 5 j9e (gSh (q0f 0) (gSh (q0f 1) (gSh (q1l (q1a q0K)) (gSh (eI 99) (gSh (eI 0) gN0)))))))) ρ
noncomputable def j0Y (ρ:Ro):Fl:=(q0P (rD (rC 4 j82 (gSh (q0f 0) (gSh (q0f 1) (gSh (q1l (q1a q0K)) (gSh (eI 9) gN0))))))) ρ
noncomputable def j1O (ρ:Ro):Fl:=(q0P (rD (rC 3 j9C (gSh (q0f 0) (gSh (q0f 1) (gSh (eI 99) gN0)))))) ρ
noncomputable def j09 (ρ:Ro):Fl:=(q0P (rD (rC 2 j9u (gSh (q0f 0) (gSh (q0f 1) gN0))))) ρ
noncomputable def j0T (ρ:Ro):Fl:=(q0P (rD (rC 3 j8l (gSh (q0f 0) (gSh (q0f 1) (gSh (eI 99) gN0)))))) ρ
noncomputable def q76 (ρ:Ro):Fl:=(q0P (rD (rC 2 j9G (gSh (q0f 0) (gSh (q0f 1) gN0))))) ρ
noncomputable def q7o (ρ:Ro):Fl:=(q0P (rD (rC 2 j9c (gSh (q0f 0) (gSh (q0f 1) gN0))))) ρ
noncomputable def q7H (ρ:Ro):Fl:=(q0P (rD (rC 3 j8s (gSh (q0f 0) (gSh (q0f 1) (gSh (q1l (q1a q0K)) gN0)))))) ρ
noncomputable def q5b (ρ:Ro):Fl:=(q6O (rC 2 F_9 (gSh (q0f 0) (gSh (q0f 1) gN0)))) ρ
noncomputable def q32 (ρ:Ro):Fl:=(sIf (tEq (q0f 2) (eI 11)) q7H q5b) ρ
noncomputable def q2U (ρ:Ro):Fl:=(sIf (tEq (q0f 2) (eI 10)) q7o q32) ρ
noncomputable def q2p (ρ:Ro):Fl:=(sIf (tEq (q0f 2) (eI 9)) q76 q2U) ρ
noncomputable def q2d (ρ:Ro):Fl:=(sIf (tEq (q0f 2) (eI 8)) j0T q2p) ρ
noncomputable def q1R (ρ:Ro):Fl:=(sIf (tEq (q0f 2) (eI 7)) j09 q2d) ρ
noncomputable def q1D (ρ:Ro):Fl:=(sIf (tEq (q0f 2) (eI 6)) j1O q1R) ρ
noncomputable def q1x (ρ:Ro):Fl:=(sIf (tEq (q0f 2) (eI 5)) j0Y q1D) ρ
noncomputable def q1q (ρ:Ro):Fl:=(sIf (tEq (q0f 2) (eI 4)) j2I q1x) ρ
noncomputable def q1d (ρ:Ro):Fl:=(sIf (tEq (q0f 2) (eI 3)) j2t q1q) ρ
noncomputable def q02 (ρ:Ro):Fl:=(sIf (tEq (q0f 2) (eI 2)) j1T q1d) ρ
noncomputable def q00 (ρ:Ro):Fl:=(sIf (tEq (q0f 2) (eI 1)) j2B q02) ρ
noncomputable def q0X (ρ:Ro):Fl:=((sIf (tEq (q0f 2) (eI 0)) j1h q00) ρ).bind q11
noncomputable def q39:Fn:=fnF 3 q0X
theorem j8i (x:Tx K mg fa fd T):q0M P w K mg base (CXE T P w) 10 (fa 83) (fd 83) ["_law_bakery","_law_orders","_law_which"] (spD T K 3 q39):=
 have hT:=x.me
 have hT0:=q0o x.me
 q1A x.me x.F83 j9z λcdv A outer s H E hr=>
  (q0c (q0I (q0y q1b (q0a 2) q0b (nomark _)) (q0h (q0u (DR.de (q0e (j3q x) hr.le x.c11 (q0d (q0a 0) (q0d (q0a 1) q0j)))))) (q0h (q0I (q0y q1b (q0a 2) q0b (nomark _)) (q0h (q0u (DR.de (q0e (j8c x) hr.le x.c32 (q0d (q0a 0) (q0d (q0a 1) (q0d (DF.de (q0Q q0n)) (q0d q0b q0j)))))))) (q0h (q0I (q0y q1b (q0a 2) q0b (nomark _)) (q0h (q0u (DR.de (q0e (j8L x) hr.le x.c33 (q0d (q0a 0) (q0d (q0a 1) (q0d (DF.de (q0Q q0n)) (q0d q0b q0j)))))))) (q0h (q0I (q0y q1b (q0a 2) q0b (nomark _)) (q0h (q0u (DR.de (q0e (j77 x) hr.le x.c35 (q0d (q0a 0) (q0d (q0a 1) (q0d (DF.de (q0Q q0n)) q0j))))))) (q0h (q0I (q0y q1b (q0a 2) q0b (nomark _)) (q0h (q0u (DR.de (q0e (j8u x) hr.le x.c42 (q0d (q0a 0) (q0d (q0a 1) (q0d (DF.de (q0Q q0n)) (q0d q0b (q0d q0b q0j))))))))) (q0h (q0I (q0y q1b (q0a 2) q0b (nomark _)) (q0h (q0u (DR.de (q0e (j9O x) hr.le x.c43 (q0d (q0a 0) (q0d (q0a 1) (q0d (DF.de (q0Q q0n)) (q0d q0b q0j)))))))) (q0h (q0I (q0y q1b (q0a 2) q0b (nomark _)) (q0h (q0u (DR.de (q0e (j74 x) hr.le x.c60 (q0d (q0a 0) (q0d (q0a 1) (q0d q0b q0j))))))) (q0h (q0I (q0y q1b (q0a 2) q0b (nomark _)) (q0h (q0u (DR.de (q0e (j8q x) hr.le x.c66 (q0d (q0a 0) (q0d (q0a 1) q0j)))))) (q0h (q0I (q0y q1b (q0a 2) q0b (nomark _)) (q0h (q0u (DR.de (q0e (j9E x) hr.le x.c67 (q0d (q0a 0) (q0d (q0a 1) (q0d q0b q0j))))))) (q0h (q0I (q0y q1b (q0a 2) q0b (nomark _)) (q0h (q0u (DR.de (q0e (j9d x) hr.le x.c68 (q0d (q0a 0) (q0d (q0a 1) q0j)))))) (q0h (q0I (q0y q1b (q0a 2) q0b (nomark _)) (q0h (q0u (DR.de (q0e (j9l x) hr.le x.c70 (q0d (q0a 0) (q0d (q0a 1) q0j)))))) (q0h (q0I (q0y q1b (q0a 2) q0b (nomark _)) (q0h (q0u (DR.de (q0e (j85 x) hr.le x.c49 (q0d (q0a 0) (q0d (q0a 1) (q0d (DF.de (q0Q q0n)) q0j))))))) (q0h (q3e (q0e (j8D x) hr.le x.c9 (q0d (q0a 0) (q0d (q0a 1) q0j))))))))))))))))))))))))))))
   q0t)
theorem j8X:q0l ["_law_bakery","_law_orders","_law_which"] ["_law_bakery","_law_orders","_law_which"] (q0g j7j):=by walk_at "sc"
noncomputable def j2E (ρ:Ro):Fl:=(q2G (eI 0)) ρ
noncomputable def q7y (ρ:Ro):Fl:=((sIf (tB2 (isD false) (rD (rC 3 q39 (gSh (q0f 0) (gSh (q0f 1) (gSh (q0f 2) gN0))))) (eC .non)) j2E Fl.nx) ρ).bind q11
noncomputable def j2s (ρ:Ro):Fl:=(q2G (eI 4)) ρ
noncomputable def j17 (ρ:Ro):Fl:=(q2G (eI 3)) ρ
noncomputable def j2q (ρ:Ro):Fl:=(q2G (eI 2)) ρ
noncomputable def j1R (ρ:Ro):Fl:=(q2G (eI 1)) ρ
noncomputable def q8i (ρ:Ro):Fl:=(q8K q7y (q2s (λc=>List.lookup c [(0,false),(1,false),(2,false),(3,false),(4,true),(5,false),(6,false),(7,false),(8,false),(9,false),(10,false),(11,false),(12,false),(13,false),(14,false),(15,false)]) j1R (q2s (λc=>List.lookup c [(0,false),(1,false),(2,false),(3,false),(4,false),(5,false),(6,true),(7,false),(8,false),(9,false),(10,false),(11,false),(12,false),(13,false),(14,false),(15,false)]) j2q (q2s (λc=>List.lookup c [(0,false),(1,false),(2,false),(3,false),(4,false),(5,false),(6,false),(7,true),(8,false),(9,false),(10,false),(11,false),(12,false),(13,false),(14,false),(15,false)]) j17 (q2s (λc=>List.lookup c [(0,false),(1,false),(2,false),(3,false),(4,false),(5,false),(6,false),(7,false),(8,true),(9,false),(10,false),(11,false),(12,false),(13,false),(14,false),(15,false)]) j2s (λ_ _=>.bad)))))) ρ
noncomputable def q9k:Fn:=fnF 3 q8i
theorem q9Z (x:Tx K mg fa fd T):q0M P w K mg base (CXE T P w) 11 (fa 84) (fd 84) ["_law_bakery","_law_orders","_law_which"] (spD T K 3 q9k):=
 have hT:=x.me
 have hT0:=q0o x.me
 q1A x.me x.F84 j8X λcdv A outer s H E hr=>
  (q0h (j2R rfl rfl (λpn=>(q0c (q0I (q0y j8Y (DR.de (q0e (j8i x) hr.le x.c83 (q0d (q0a 0) (q0d (q0a 1) (q0d (q0a 2) q0j))))) j05 (nomark _)) (q0h (q0O q0b)) q0v)
   q0t)) (q1O (k:=4) (m:=λc=>List.lookup c [(0,false),(1,false),(2,false),(3,false),(4,true),(5,false),(6,false),(7,false),(8,false),(9,false),(10,false),(11,false),(12,false),(13,false),(14,false),(15,false)]) rfl x.mC4 (q1Z (List.forall_mem_cons.mpr ⟨x.exm0_4,List.forall_mem_cons.mpr ⟨x.exm1_4,List.forall_mem_cons.mpr ⟨x.exm2_4,List.forall_mem_cons.mpr ⟨x.exm3_4,List.forall_mem_cons.mpr ⟨x.exm4_4,List.forall_mem_cons.mpr ⟨x.exm5_4,List.forall_mem_cons.mpr ⟨x.exm6_4,List.forall_mem_cons.mpr ⟨x.exm7_4,List.forall_mem_cons.mpr ⟨x.exm8_4,List.forall_mem_cons.mpr ⟨x.exm9_4,List.forall_mem_cons.mpr ⟨x.exm10_4,List.forall_mem_cons.mpr ⟨x.exm11_4,List.forall_mem_cons.mpr ⟨x.exm12_4,List.forall_mem_cons.mpr ⟨x.exm13_4,List.forall_mem_cons.mpr ⟨x.exm14_4,List.forall_mem_cons.mpr ⟨x.exm15_4,List.forall_mem_nil _⟩⟩⟩⟩⟩⟩⟩⟩⟩⟩⟩⟩⟩⟩⟩⟩)) (λu=>(q0h (q0O q0b))) (q1O (k:=6) (m:=λc=>List.lookup c [(0,false),(1,false),(2,false),(3,false),(4,false),(5,false),(6,true),(7,false),(8,false),(9,false),(10,false),(11,false),(12,false),(13,false),(14,false),(15,false)]) rfl x.mC6 (q1Z (List.forall_mem_cons.mpr ⟨x.exm0_6,List.forall_mem_cons.mpr ⟨x.exm1_6,List.forall_mem_cons.mpr ⟨x.exm2_6,List.forall_mem_cons.mpr ⟨x.exm3_6,List.forall_mem_cons.mpr ⟨x.exm4_6,List.forall_mem_cons.mpr ⟨x.exm5_6,List.forall_mem_cons.mpr ⟨x.exm6_6,List.forall_mem_cons.mpr ⟨x.exm7_6,List.forall_mem_cons.mpr ⟨x.exm8_6,List.forall_mem_cons.mpr ⟨x.exm9_6,List.forall_mem_cons.mpr ⟨x.exm10_6,List.forall_mem_cons.mpr ⟨x.exm11_6,List.forall_mem_cons.mpr ⟨x.exm12_6,List.forall_mem_cons.mpr ⟨x.exm13_6,List.forall_mem_cons.mpr ⟨x.exm14_6,List.forall_mem_cons.mpr ⟨x.exm15_6,List.forall_mem_nil _⟩⟩⟩⟩⟩⟩⟩⟩⟩⟩⟩⟩⟩⟩⟩⟩)) (λu=>(q0h (q0O q0b))) (q1O (k:=7) (m:=λc=>List.lookup c [(0,false),(1,false),(2,false),(3,false),(4,false),(5,false),(6,false),(7,true),(8,false),(9,false),(10,false),(11,false),(12,false),(13,false),(14,false),(15,false)]) rfl x.mC7 (q1Z (List.forall_mem_cons.mpr ⟨x.exm0_7,List.forall_mem_cons.mpr ⟨x.exm1_7,List.forall_mem_cons.mpr ⟨x.exm2_7,List.forall_mem_cons.mpr ⟨x.exm3_7,List.forall_mem_cons.mpr ⟨x.exm4_7,List.forall_mem_cons.mpr ⟨x.exm5_7,List.forall_mem_cons.mpr ⟨x.exm6_7,List.forall_mem_cons.mpr ⟨x.exm7_7,List.forall_mem_cons.mpr ⟨x.exm8_7,List.forall_mem_cons.mpr ⟨x.exm9_7,List.forall_mem_cons.mpr ⟨x.exm10_7,List.forall_mem_cons.mpr ⟨x.exm11_7,List.forall_mem_cons.mpr ⟨x.exm12_7,List.forall_mem_cons.mpr ⟨x.exm13_7,List.forall_mem_cons.mpr ⟨x.exm14_7,List.forall_mem_cons.mpr ⟨x.exm15_7,List.forall_mem_nil _⟩⟩⟩⟩⟩⟩⟩⟩⟩⟩⟩⟩⟩⟩⟩⟩)) (λu=>(q0h (q0O q0b))) (q1O (k:=8) (m:=λc=>List.lookup c [(0,false),(1,false),(2,false),(3,false),(4,false),(5,false),(6,false),(7,false),(8,true),(9,false),(10,false),(11,false),(12,false),(13,false),(14,false),(15,false)]) rfl x.mC8 (q1Z (List.forall_mem_cons.mpr ⟨x.exm0_8,List.forall_mem_cons.mpr ⟨x.exm1_8,List.forall_mem_cons.mpr ⟨x.exm2_8,List.forall_mem_cons.mpr ⟨x.exm3_8,List.forall_mem_cons.mpr ⟨x.exm4_8,List.forall_mem_cons.mpr ⟨x.exm5_8,List.forall_mem_cons.mpr ⟨x.exm6_8,List.forall_mem_cons.mpr ⟨x.exm7_8,List.forall_mem_cons.mpr ⟨x.exm8_8,List.forall_mem_cons.mpr ⟨x.exm9_8,List.forall_mem_cons.mpr ⟨x.exm10_8,List.forall_mem_cons.mpr ⟨x.exm11_8,List.forall_mem_cons.mpr ⟨x.exm12_8,List.forall_mem_cons.mpr ⟨x.exm13_8,List.forall_mem_cons.mpr ⟨x.exm14_8,List.forall_mem_cons.mpr ⟨x.exm15_8,List.forall_mem_nil _⟩⟩⟩⟩⟩⟩⟩⟩⟩⟩⟩⟩⟩⟩⟩⟩)) (λu=>(q0h (q0O q0b))) j0Q))))))
theorem j3D:q0l ["_law_orders","_law_asked","_law_names_here","_law_k","_law_row"] ["_law_orders","_law_asked","_law_names_here"] (q0g j7U):=by walk_at "sc"
noncomputable def j15 (ρ:Ro):Fl:=(sIf (q2q (q9j (rD (rC 2 q7e (gSh (q37 [(16,2)] (eIx (q0f 0) (q0f 3))) (gSh (eIx (q0f 4) (eI 2)) gN0)))))) q11 Fl.nx) ρ
noncomputable def j1n (ρ:Ro):Fl:=((sIf (j55 (tNe (q37 [(16,0)] (eIx (q0f 0) (q0f 3))) (eIx (q0f 2) (eIx (q0f 4) (eI 0)))) (q2q (q9j (rD (rC 2 q7e (gSh (q37 [(16,1),(17,2),(21,4)] (eIx (q0f 0) (q0f 3))) (gSh (eIx (q0f 4) (eI 1)) gN0))))))) q11 Fl.nx) ρ).bind j15
noncomputable def q7B (ρ:Ro):Fl:=((q1n 4 (eIx (q0f 1) (q0f 3))) ρ).bind j1n
noncomputable def j1I (ρ:Ro):Fl:=(q2G (eC (.bl true))) ρ
noncomputable def q6k (ρ:Ro):Fl:=((q3P (q5d (n1 (eCB q2W (q0q (q0f 1) q0K)))) (q2E 3) q7B) ρ).bind j1I
noncomputable def q8n (ρ:Ro):Fl:=((sIf (tNe (eCB q2W (q0q (q0f 0) q0K)) (eCB q2W (q0q (q0f 1) q0K))) q11 Fl.nx) ρ).bind q6k
noncomputable def j8F:Fn:=fnF 5 q8n
theorem j8N (x:Tx K mg fa fd T):q0M P w K mg base (CXE T P w) 2 (fa 80) (fd 80) ["_law_orders","_law_asked","_law_names_here"] (spD T K 3 j8F):=
 have hT:=x.me
 have hT0:=q0o x.me
 q1A x.me x.F80 j3D λcdv A outer s H E hr=>
  (q0c (q0I (q0y j2V (q0s q0T rfl x.n_len rfl (q0k (q0a 0) q0n)) (q0s q0T rfl x.n_len rfl (q0k (q0a 1) q0n)) (nomark _)) q0t q0v)
   (q0c (q04 rfl (q2w (j00 rfl x.n_range (q0s q0T rfl x.n_len rfl (q0k (q0a 1) q0n)))) (q1E 3 j3D.nd) (q0c (q0w 4 j3D.nd (q0U (q0a 1) (q0a 3)))
   (q0c (q0I (DW.dt (j0D (q0y j2V (q1u (q0U (q0a 0) (q0a 3)) (fo1 x)) (q0U (q0a 2) (q0U (q0a 4) q0b)) (nomark _)) (q5W (q1I (q1i (DR.de (q0e (q3O x) hr.le x.c78 (q0d (q1u (q0U (q0a 0) (q0a 3)) (fo5 x)) (q0d (q0U (q0a 4) q0b) q0j))))))))) q0t q0v)
   (q0h (q0I (q1I (q1i (DR.de (q0e (q3O x) hr.le x.c78 (q0d (q1u (q0U (q0a 0) (q0a 3)) (fo2 x)) (q0d (q0U (q0a 4) q0b) q0j)))))) q0t q0v)))))
   (q0h (q0O j5Z))))
theorem w1b:q0l ["number","lowest","highest"] ["number","lowest","highest"] (q0g s_2):=by walk_at "sc"
noncomputable def j4c (ρ:Ro):Fl:=(q2j 3 (q0q (eJ (q4c q6R (q0f 0) (q5z " does not lie from " (q4c q6R (q0f 1) (q5z " to " (q4c q6R (q0f 2) jN0)))))) q0K)) ρ
noncomputable def j0M (ρ:Ro):Fl:=(sIf (q2q (tCh qLe qLe (q0f 1) (q0f 0) (q0f 2))) j4c Fl.nx) ρ
noncomputable def F_2:Fn:=fnF 3 j0M
theorem q9m (x:Tx K mg fa fd T):q0M P w K mg base (CXE T P w) 1 (fa 2) (fd 2) ["number","lowest","highest"] (spD T K 3 F_2):=
 have hT:=x.me
 have hT0:=q0o x.me
 q1A x.me x.F2 w1b λcdv A outer s H E hr=>
  (q0h (q0I (q1I (q2L q4y q4y (q0a 1) (q0a 0) (q0a 2))) (q0h (q1v (c:=3) rfl x.xc3 rfl x.mC3 (q0k (q1Q (q1X (q0a 0) (q1J (q1X (q0a 1) (q1J (q1X (q0a 2) q2D)))))) q0n) hsh1)) q0v))
theorem w1U:q0l ["self","bread","loaves","due"] ["self","bread","loaves","due"] (q0g s_5):=by walk_at "sc"
noncomputable def j4U (ρ:Ro):Fl:=(q0N 16 2 (q0f 3)) ρ
noncomputable def j6f (ρ:Ro):Fl:=((q0N 16 1 (q0f 2)) ρ).bind j4U
noncomputable def j5H (ρ:Ro):Fl:=((q0N 16 0 (q0f 1)) ρ).bind j6f
noncomputable def j25 (ρ:Ro):Fl:=((q0P (rD (rC 3 F_2 (gSh (q0f 2) (gSh (eI 1) (gSh (eI 60) gN0)))))) ρ).bind j5H
noncomputable def F_5:Fn:=q3m 4 16 3 j25
theorem w0X (x:Tx K mg fa fd T):q0M P w K mg base (CXE T P w) 2 (fa 5) (fd 5) ["self","bread","loaves","due"] (spI T K 16 4 F_5):=
 have hT0:=q0o x.me
 j4y x.me (by rw [x.fl16];rfl) (q2T x.F5) w1U λy cdv A outer s H E hr=>
  (q0c (q0u (DR.de (q0e (q1K (q9m x)) hr.le x.c2 (q0d (q0a 2) (q0d q0b (q0d (q0D rfl x.c_MOST_LOAVES) q0j))))))
   (q0c (q0W (c:=16) 0 x.cC16 x.na16_bread (flA x.fl16) (flN x.fl16) (by decide) (q0a 1))
   (q0c (q0W (c:=16) 1 x.cC16 x.na16_loaves (flA x.fl16) (flN x.fl16) (by decide) (q0a 2))
   (q0h (q0W (c:=16) 2 x.cC16 x.na16_due (flA x.fl16) (flN x.fl16) (by decide) (q0a 3))))))
theorem j6T:q0l ["self","bread","loaves","due","orders"] ["self","bread","loaves","due"] (q0g j7L):=by walk_at "sc"
noncomputable def j06 (ρ:Ro):Fl:=(j6i 24 2 false (eCB q2W (q0q (q0f 4) q0K))) ρ
noncomputable def j16 (ρ:Ro):Fl:=((j0H 24 1 2 (q0f 4)) ρ).bind j06
noncomputable def q8m (ρ:Ro):Fl:=((q0P (rD (rC 2 F_9 (gSh (q99 0 24 0) (gSh (q0f 4) gN0))))) ρ).bind j16
noncomputable def q8t (ρ:Ro):Fl:=((q1n 4 (q1l (j9g (q15 (q99 0 24 1)) (q1a (q0q (rD (rC 3 F_5 (gSh (q0f 1) (gSh (q0f 2) (gSh (q0f 3) gN0))))) q0K))))) ρ).bind q8m
noncomputable def j6l:FnM:=mF 5 24 2 false q8t
theorem j9i (x:Tx K mg fa fd T):q0M P w K mg base (CXE T P w) 5 (fa 72) (fd 72) ["self","bread","loaves","due"] (spM T K 24 false 4 j6l):=
 w0r (q2z x.fl24) (q2T x.F72) j6T λy m cdv A outer s H E hmo hr=>
  (q0c (q0w 4 j6T.nd (DF.de (j2H (DE.dl (q8W (c:=24) 0 1 x.cC24 x.na24_orders (flA x.fl24) (flN x.fl24))) (DF.dl (q0Q (q0k (DR.de (q17 x.mk16 (j6a (w0X x)) q1G hr.le rfl x.mC16 x.b5 .nil (λ_=>rfl) rfl (q0d (q0a 1) (q0d (q0a 2) (q0d (q0a 3) q0j))))) q0n))))))
   (q0c (q0u (DR.de (q0e (q1K (j8D x)) hr.le x.c9 (q0d (q8W (c:=24) 0 0 x.cC24 x.na24_bakery (flA x.fl24) (flN x.fl24)) (q0d (q0a 4) q0j)))))
   (q0c (q40 (c:=24) 1 (q2z x.fl24) (by decide) x.cC24 x.na24_orders (flA x.fl24) (flN x.fl24) (by decide) (q0a 4))
   (q0h (j3b (q2z x.fl24) hmo (q0s q0T rfl x.n_len rfl (q0k (q0a 4) q0n)))))))
theorem j75:q0l ["self","bakery"] ["self","bakery"] (q0g j7I):=by walk_at "sc"
noncomputable def q9a (ρ:Ro):Fl:=(j0H 24 1 2 (q1l (q1a q0K))) ρ
noncomputable def q7Q (ρ:Ro):Fl:=((j0H 24 0 2 (q0f 1)) ρ).bind q9a
noncomputable def j7N:FnM:=mF 2 24 2 false q7Q
theorem j8y (x:Tx K mg fa fd T):q0M P w K mg base (CXE T P w) 1 (fa 71) (fd 71) ["self","bakery"] (spM T K 24 false 2 j7N):=
 w0r (q2z x.fl24) (q2T x.F71) j75 λy m cdv A outer s H E hmo hr=>
  (q0c (q40 (c:=24) 0 (q2z x.fl24) (by decide) x.cC24 x.na24_bakery (flA x.fl24) (flN x.fl24) (by decide) (q0a 1))
   (q0h (q40 (c:=24) 1 (q2z x.fl24) (by decide) x.cC24 x.na24_orders (flA x.fl24) (flN x.fl24) (by decide) (DF.de (q0Q q0n)))))
theorem q5p:PSc "_law_book" ["_law_bakery","_law_asked","_law_names_here","_law_told","_law_kind","_law_loaves","_law_due_here"] ["_law_bakery","_law_asked","_law_names_here"] (q0g j7z):=⟨by walk_at "sc",by decide +kernel⟩
noncomputable def q2C (ρ:Ro):Fl:=(j5i 4 (eM 3 24 2 j6l (gSh (eIx (q0f 3) (q0f 5)) (gSh (q0f 6) (gSh (q0f 7) gN0))))) ρ
noncomputable def q6r (ρ:Ro):Fl:=(q3P (q15 (q0f 2)) (q7N [5,6,7]) q2C) ρ
noncomputable def j1d (ρ:Ro):Fl:=(q2G (eI 4)) ρ
noncomputable def j13 (ρ:Ro):Fl:=(q2G (eI 3)) ρ
noncomputable def j2L (ρ:Ro):Fl:=(q2G (eI 2)) ρ
noncomputable def j1w (ρ:Ro):Fl:=(q2G (eI 1)) ρ
noncomputable def j1X (ρ:Ro):Fl:=(q2G (eIx (q1l (q1a (j41 [.int 9,.int 0]))) (eCB q6y (q0q (rD (rC 2 q7e (gSh (q0f 4) (gSh (eCB q2W (q0q (q0f 2) q0K)) gN0)))) q0K)))) ρ
noncomputable def q7z (ρ:Ro):Fl:=((q8K q6r (q2s (λc=>List.lookup c [(0,false),(1,false),(2,false),(3,false),(4,true),(5,false),(6,false),(7,false),(8,false),(9,false),(10,false),(11,false),(12,false),(13,false),(14,false),(15,false)]) j1w (q2s (λc=>List.lookup c [(0,false),(1,false),(2,false),(3,false),(4,false),(5,false),(6,true),(7,false),(8,false),(9,false),(10,false),(11,false),(12,false),(13,false),(14,false),(15,false)]) j2L (q2s (λc=>List.lookup c [(0,false),(1,false),(2,false),(3,false),(4,false),(5,false),(6,false),(7,true),(8,false),(9,false),(10,false),(11,false),(12,false),(13,false),(14,false),(15,false)]) j13 (q2s (λc=>List.lookup c [(0,false),(1,false),(2,false),(3,false),(4,false),(5,false),(6,false),(7,false),(8,true),(9,false),(10,false),(11,false),(12,false),(13,false),(14,false),(15,false)]) j1d (λ_ _=>.bad)))))) ρ).bind j1X
noncomputable def q8B (ρ:Ro):Fl:=((q1n 4 (eI 0)) ρ).bind q7z
noncomputable def q3Z (ρ:Ro):Fl:=j1V (uMk 1 24 j7N (gSh (q0f 1) gN0)) q8B ρ
noncomputable def j8G:Fn:=fnF 7 fun ρ=>q3Z (.no::ρ)
theorem j8a (x:Tx K mg fa fd T):q0M P w K mg base (CXE T P w) 6 (fa 85) (fd 85) ["_law_bakery","_law_asked","_law_names_here"] (spD T K 3 j8G):=
 w14 (x0:="_law_book") x.me x.F85 q5p.S λcdv A outer s H E hr=>
  (q7Y q5p.nd x.me (j36 x.me x.mk24 (j8y x) hr.le (q2z x.fl24) rfl x.mC24 x.b71 rfl (q0d (q0a 1) q0j)) λy=>
   (q0c (q0w 4 q5p.nd q0b)
   (q0c (j2R rfl rfl (λpn=>(q0h (q04 rfl (q1s (DE.dp (q0a 2))) (q5s rfl (q1m 5 q5p.nd (q1m 6 q5p.nd (q1m 7 q5p.nd q3U)))) (q0h (j27 4 q5p.nd (j3I (q2z x.fl24) x.cC24 x.mt72 (by show _∉T.fl 24;rw [x.fl24];decide) (j5D (j9i x)) hr.le x.b72 rfl (q0d (q0U (q0a 3) (q0a 5)) (q0d (q0a 6) (q0d (q0a 7) q0j))))))))) (q1O (k:=4) (m:=λc=>List.lookup c [(0,false),(1,false),(2,false),(3,false),(4,true),(5,false),(6,false),(7,false),(8,false),(9,false),(10,false),(11,false),(12,false),(13,false),(14,false),(15,false)]) rfl x.mC4 (q1Z (List.forall_mem_cons.mpr ⟨x.exm0_4,List.forall_mem_cons.mpr ⟨x.exm1_4,List.forall_mem_cons.mpr ⟨x.exm2_4,List.forall_mem_cons.mpr ⟨x.exm3_4,List.forall_mem_cons.mpr ⟨x.exm4_4,List.forall_mem_cons.mpr ⟨x.exm5_4,List.forall_mem_cons.mpr ⟨x.exm6_4,List.forall_mem_cons.mpr ⟨x.exm7_4,List.forall_mem_cons.mpr ⟨x.exm8_4,List.forall_mem_cons.mpr ⟨x.exm9_4,List.forall_mem_cons.mpr ⟨x.exm10_4,List.forall_mem_cons.mpr ⟨x.exm11_4,List.forall_mem_cons.mpr ⟨x.exm12_4,List.forall_mem_cons.mpr ⟨x.exm13_4,List.forall_mem_cons.mpr ⟨x.exm14_4,List.forall_mem_cons.mpr ⟨x.exm15_4,List.forall_mem_nil _⟩⟩⟩⟩⟩⟩⟩⟩⟩⟩⟩⟩⟩⟩⟩⟩)) (λu=>(q0h (q0O q0b))) (q1O (k:=6) (m:=λc=>List.lookup c [(0,false),(1,false),(2,false),(3,false),(4,false),(5,false),(6,true),(7,false),(8,false),(9,false),(10,false),(11,false),(12,false),(13,false),(14,false),(15,false)]) rfl x.mC6 (q1Z (List.forall_mem_cons.mpr ⟨x.exm0_6,List.forall_mem_cons.mpr ⟨x.exm1_6,List.forall_mem_cons.mpr ⟨x.exm2_6,List.forall_mem_cons.mpr ⟨x.exm3_6,List.forall_mem_cons.mpr ⟨x.exm4_6,List.forall_mem_cons.mpr ⟨x.exm5_6,List.forall_mem_cons.mpr ⟨x.exm6_6,List.forall_mem_cons.mpr ⟨x.exm7_6,List.forall_mem_cons.mpr ⟨x.exm8_6,List.forall_mem_cons.mpr ⟨x.exm9_6,List.forall_mem_cons.mpr ⟨x.exm10_6,List.forall_mem_cons.mpr ⟨x.exm11_6,List.forall_mem_cons.mpr ⟨x.exm12_6,List.forall_mem_cons.mpr ⟨x.exm13_6,List.forall_mem_cons.mpr ⟨x.exm14_6,List.forall_mem_cons.mpr ⟨x.exm15_6,List.forall_mem_nil _⟩⟩⟩⟩⟩⟩⟩⟩⟩⟩⟩⟩⟩⟩⟩⟩)) (λu=>(q0h (q0O q0b))) (q1O (k:=7) (m:=λc=>List.lookup c [(0,false),(1,false),(2,false),(3,false),(4,false),(5,false),(6,false),(7,true),(8,false),(9,false),(10,false),(11,false),(12,false),(13,false),(14,false),(15,false)]) rfl x.mC7 (q1Z (List.forall_mem_cons.mpr ⟨x.exm0_7,List.forall_mem_cons.mpr ⟨x.exm1_7,List.forall_mem_cons.mpr ⟨x.exm2_7,List.forall_mem_cons.mpr ⟨x.exm3_7,List.forall_mem_cons.mpr ⟨x.exm4_7,List.forall_mem_cons.mpr ⟨x.exm5_7,List.forall_mem_cons.mpr ⟨x.exm6_7,List.forall_mem_cons.mpr ⟨x.exm7_7,List.forall_mem_cons.mpr ⟨x.exm8_7,List.forall_mem_cons.mpr ⟨x.exm9_7,List.forall_mem_cons.mpr ⟨x.exm10_7,List.forall_mem_cons.mpr ⟨x.exm11_7,List.forall_mem_cons.mpr ⟨x.exm12_7,List.forall_mem_cons.mpr ⟨x.exm13_7,List.forall_mem_cons.mpr ⟨x.exm14_7,List.forall_mem_cons.mpr ⟨x.exm15_7,List.forall_mem_nil _⟩⟩⟩⟩⟩⟩⟩⟩⟩⟩⟩⟩⟩⟩⟩⟩)) (λu=>(q0h (q0O q0b))) (q1O (k:=8) (m:=λc=>List.lookup c [(0,false),(1,false),(2,false),(3,false),(4,false),(5,false),(6,false),(7,false),(8,true),(9,false),(10,false),(11,false),(12,false),(13,false),(14,false),(15,false)]) rfl x.mC8 (q1Z (List.forall_mem_cons.mpr ⟨x.exm0_8,List.forall_mem_cons.mpr ⟨x.exm1_8,List.forall_mem_cons.mpr ⟨x.exm2_8,List.forall_mem_cons.mpr ⟨x.exm3_8,List.forall_mem_cons.mpr ⟨x.exm4_8,List.forall_mem_cons.mpr ⟨x.exm5_8,List.forall_mem_cons.mpr ⟨x.exm6_8,List.forall_mem_cons.mpr ⟨x.exm7_8,List.forall_mem_cons.mpr ⟨x.exm8_8,List.forall_mem_cons.mpr ⟨x.exm9_8,List.forall_mem_cons.mpr ⟨x.exm10_8,List.forall_mem_cons.mpr ⟨x.exm11_8,List.forall_mem_cons.mpr ⟨x.exm12_8,List.forall_mem_cons.mpr ⟨x.exm13_8,List.forall_mem_cons.mpr ⟨x.exm14_8,List.forall_mem_cons.mpr ⟨x.exm15_8,List.forall_mem_nil _⟩⟩⟩⟩⟩⟩⟩⟩⟩⟩⟩⟩⟩⟩⟩⟩)) (λu=>(q0h (q0O q0b))) j0Q)))))
   (q0h (q0O (q0U (DF.de (q0Q (q7O rfl))) (q2k q3X rfl x.n_int rfl (q0k (DR.de (q0e (q1K (q3O x)) hr.le x.c78 (q0d (q0a 4) (q0d (q0s q0T rfl x.n_len rfl (q0k (q0a 2) q0n)) q0j)))) q0n))))))))
theorem w07:q0l ["name"] ["name"] (q0g s_1):=by walk_at "sc"
noncomputable def q9w (ρ:Ro):Fl:=(q2j 1 (q0q (eJ (q4c q8o (q0f 0) (q5z " is not 1 to " (q4c q6R (eI 12) (q5z " small letters" jN0))))) q0K)) ρ
noncomputable def q9P (ρ:Ro):Fl:=(sIf (j55 (q2q (tCh qLe qLe (eI 1) (eCB q2W (q0q (q0f 0) q0K)) (eI 12))) (q2q (q9j (eCB j4I (q0q (q1l (q0L (j4C (q0f 0)) [] (e2 (inD false) (q0f 0) (eS "abcdefghijklmnopqrstuvwxyz")))) q0K))))) q9w Fl.nx) ρ
noncomputable def F_1:Fn:=fnF 1 q9P
theorem j90 (x:Tx K mg fa fd T):q0M P w K mg base (CXE T P w) 1 (fa 1) (fd 1) ["name"] (spD T K 1 F_1):=
 have hT:=x.me
 have hT0:=q0o x.me
 q1A x.me x.F1 w07 λcdv A outer s H E hr=>
  (q0h (q0I (DW.dt (j0D (q1I (q2L q4y q4y q0b (q0s q0T rfl x.n_len rfl (q0k (q0a 0) q0n)) (q0D rfl x.c_LONGEST_NAME))) (q5W (q1I (q1i (q0s (j4P rfl) rfl x.n_all rfl (q0k (DF.de (DC.df (q03 hT0 rfl (j5q (q0a 0)) cap0 (λcl C s₀ H₀ ex=>(q3v j5A (q0a 0) (q9C rfl x.c_LETTERS) rfl))))) q0n))))))) (q0h (q1v (c:=1) rfl x.xc1 rfl x.mC1 (q0k (q1Q (q48 (q0a 0) (q1J (q1X (q0D rfl x.c_LONGEST_NAME) (q1J q2D))))) q0n) hsh1)) q0v))
theorem j8Q:q0l ["self","name","stages"] ["self","name","stages"] (q0g j7T):=by walk_at "sc"
noncomputable def j08 (ρ:Ro):Fl:=(q0N 23 1 (q54 (q15 (q0f 2)))) ρ
noncomputable def j1t (ρ:Ro):Fl:=((q0N 23 0 (q0f 1)) ρ).bind j08
noncomputable def j2c (ρ:Ro):Fl:=((q0P (rD (rC 3 F_3 (gSh (eCB q2W (q0q (q0f 2) q0K)) (gSh (eI 1) (gSh (eI 6) gN0)))))) ρ).bind j1t
noncomputable def j18 (ρ:Ro):Fl:=((q0P (rD (rC 1 F_1 (gSh (q0f 1) gN0)))) ρ).bind j2c
noncomputable def j6s:Fn:=q3m 3 23 2 j18
theorem j9D (x:Tx K mg fa fd T):q0M P w K mg base (CXE T P w) 2 (fa 51) (fd 51) ["self","name","stages"] (spI T K 23 3 j6s):=
 have hT0:=q0o x.me
 j4y x.me (by rw [x.fl23];rfl) (q2T x.F51) j8Q λy cdv A outer s H E hr=>
  (q0c (q0u (DR.de (q0e (q1K (j90 x)) hr.le x.c1 (q0d (q0a 1) q0j))))
   (q0c (q0u (DR.de (q0e (q1K (j7s x)) hr.le x.c3 (q0d (q0s q0T rfl x.n_len rfl (q0k (q0a 2) q0n)) (q0d q0b (q0d (q0D rfl x.c_MOST_STAGES) q0j))))))
   (q0c (q0W (c:=23) 0 x.cC23 x.na23_name (flA x.fl23) (flN x.fl23) (by decide) (q0a 1))
   (q0h (q0W (c:=23) 1 x.cC23 x.na23_stages (flA x.fl23) (flN x.fl23) (by decide) (q5q rfl x.n_tuple (DE.dl (q0a 2))))))))
theorem j9H:q0l ["self","name","least","most","want","heat"] ["self","name","least","most","want","heat"] (q0g j7p):=by walk_at "sc"
noncomputable def j5j (ρ:Ro):Fl:=(q2j 2 (q0q (eJ (q5z "a stage can't want " (q4c q8o (q0f 4) jN0))) q0K)) ρ
noncomputable def j2M (ρ:Ro):Fl:=(q0N 22 4 (q0f 5)) ρ
noncomputable def j2f (ρ:Ro):Fl:=((q0N 22 3 (q0f 4)) ρ).bind j2M
noncomputable def j2l (ρ:Ro):Fl:=((q0N 22 2 (q0f 3)) ρ).bind j2f
noncomputable def j2J (ρ:Ro):Fl:=((q0N 22 1 (q0f 2)) ρ).bind j2l
noncomputable def j10 (ρ:Ro):Fl:=((q0N 22 0 (q0f 1)) ρ).bind j2J
noncomputable def j1C (ρ:Ro):Fl:=((q0P (rD (rC 3 F_2 (gSh (q0f 5) (gSh (eI 0) (gSh (eI 300) gN0)))))) ρ).bind j10
noncomputable def j1K (ρ:Ro):Fl:=((q0P (rD (rC 3 F_2 (gSh (q0f 3) (gSh (q0f 2) (gSh (eI 720) gN0)))))) ρ).bind j1C
noncomputable def j2j (ρ:Ro):Fl:=((q0P (rD (rC 3 F_2 (gSh (q0f 2) (gSh (eI 1) (gSh (eI 720) gN0)))))) ρ).bind j1K
noncomputable def q7u (ρ:Ro):Fl:=((sIf (tB2 (inD true) (q0f 4) (eC (.tup [.str "nothing",.str "hands",.str "bench",.str "oven"]))) j5j Fl.nx) ρ).bind j2j
noncomputable def q7g (ρ:Ro):Fl:=((q0P (rD (rC 1 F_1 (gSh (q0f 1) gN0)))) ρ).bind q7u
noncomputable def j5r:Fn:=q3m 6 22 5 q7g
theorem j9W (x:Tx K mg fa fd T):q0M P w K mg base (CXE T P w) 2 (fa 50) (fd 50) ["self","name","least","most","want","heat"] (spI T K 22 6 j5r):=
 have hT0:=q0o x.me
 j4y x.me (by rw [x.fl22];rfl) x.F50.ex j9H λy cdv A outer s H E hr=>
  (q0c (q0u (DR.de (q0e (q1K (j90 x)) hr.le x.c1 (q0d (q0a 1) q0j))))
   (q0c (q0I (q0y q9z (q0a 4) (j0K rfl x.c_WANTS) rfl) (q0h (q1v (c:=2) rfl x.xc2 rfl x.mC2 (q0k (q1Q (q1J (q48 (q0a 4) q2D))) q0n) hsh1)) q0v)
   (q0c (q0u (DR.de (q0e (q1K (q9m x)) hr.le x.c2 (q0d (q0a 2) (q0d q0b (q0d (q0D rfl x.c_NIGHT) q0j))))))
   (q0c (q0u (DR.de (q0e (q1K (q9m x)) hr.le x.c2 (q0d (q0a 3) (q0d (q0a 2) (q0d (q0D rfl x.c_NIGHT) q0j))))))
   (q0c (q0u (DR.de (q0e (q1K (q9m x)) hr.le x.c2 (q0d (q0a 5) (q0d q0b (q0d (q0D rfl x.c_HOTTEST) q0j))))))
   (q0c (q0W (c:=22) 0 x.cC22 x.na22_name (flA x.fl22) (flN x.fl22) (by decide) (q0a 1))
   (q0c (q0W (c:=22) 1 x.cC22 x.na22_least (flA x.fl22) (flN x.fl22) (by decide) (q0a 2))
   (q0c (q0W (c:=22) 2 x.cC22 x.na22_most (flA x.fl22) (flN x.fl22) (by decide) (q0a 3))
   (q0c (q0W (c:=22) 3 x.cC22 x.na22_want (flA x.fl22) (flN x.fl22) (by decide) (q0a 4))
   (q0h (q0W (c:=22) 4 x.cC22 x.na22_heat (flA x.fl22) (flN x.fl22) (by decide) (q0a 5))))))))))))
theorem j78:q0l ["names"] ["names"] (q0g j7P):=by walk_at "sc"
noncomputable def j65 (ρ:Ro):Fl:=(q2j 5 (q0q (eJ (q5z "two breads of one name among " (j7w (q15 (q0f 0)) jN0))) q0K)) ρ
noncomputable def j0S (ρ:Ro):Fl:=(sIf (tNe (q78 (q15 (q0f 0))) (eCB q2W (q0q (q0f 0) q0K))) j65 Fl.nx) ρ
noncomputable def j7h:Fn:=fnF 1 j0S
theorem j8H (x:Tx K mg fa fd T):q0M P w K mg base (CXE T P w) 1 (fa 15) (fd 15) ["names"] (spD T K 1 j7h):=
 have hT:=x.me
 have hT0:=q0o x.me
 q1A x.me x.F15 j78 λcdv A outer s H E hr=>
  (q0h (q0I (q0y j2V (q7m rfl rfl x.n_len rfl x.n_set (DE.dl (q0a 0))) (q0s q0T rfl x.n_len rfl (q0k (q0a 0) q0n)) (nomark _)) (q0h (q1v (c:=5) rfl x.xc5 rfl x.mC5 (q0k (q1Q (q1J (q9t hr (DE.dl (q0a 0)) q2D))) q0n) hsh1)) q0v))
theorem j8B:q0l ["self","night","hands","benches","ovens","breads"] ["self","night","hands","benches","ovens","breads"] (q0g j7J):=by walk_at "sc"
noncomputable def j1f (ρ:Ro):Fl:=(q0N 18 4 (q54 (q15 (q0f 5)))) ρ
noncomputable def j1v (ρ:Ro):Fl:=((q0N 18 3 (q54 (q15 (q0f 4)))) ρ).bind j1f
noncomputable def j1p (ρ:Ro):Fl:=((q0N 18 2 (q0f 3)) ρ).bind j1v
noncomputable def j2K (ρ:Ro):Fl:=((q0N 18 1 (q0f 2)) ρ).bind j1p
noncomputable def j1F (ρ:Ro):Fl:=((q0N 18 0 (q0f 1)) ρ).bind j2K
noncomputable def j2a (ρ:Ro):Fl:=((q0P (rD (rC 1 j7h (gSh (q1l (q0L (q15 (q0f 5)) [] (q37 [(22,0),(23,0)] (q0f 0)))) gN0)))) ρ).bind j1F
noncomputable def j2F (ρ:Ro):Fl:=((q0P (rD (rC 3 F_3 (gSh (eCB q2W (q0q (q0f 5) q0K)) (gSh (eI 1) (gSh (eI 8) gN0)))))) ρ).bind j2a
noncomputable def j2k (ρ:Ro):Fl:=((q0P (rD (rC 3 F_3 (gSh (eCB q2W (q0q (q0f 4) q0K)) (gSh (eI 1) (gSh (eI 3) gN0)))))) ρ).bind j2F
noncomputable def j1P (ρ:Ro):Fl:=((q0P (rD (rC 3 F_2 (gSh (q0f 3) (gSh (eI 1) (gSh (eI 6) gN0)))))) ρ).bind j2k
noncomputable def q8F (ρ:Ro):Fl:=((q0P (rD (rC 3 F_2 (gSh (q0f 2) (gSh (eI 1) (gSh (eI 6) gN0)))))) ρ).bind j1P
noncomputable def q8G (ρ:Ro):Fl:=((q0P (rD (rC 3 F_2 (gSh (q0f 1) (gSh (eI 1) (gSh (eI 720) gN0)))))) ρ).bind q8F
noncomputable def j7l:Fn:=q3m 6 18 5 q8G
theorem j9h (x:Tx K mg fa fd T):q0M P w K mg base (CXE T P w) 2 (fa 13) (fd 13) ["self","night","hands","benches","ovens","breads"] (spI T K 18 6 j7l):=
 have hT0:=q0o x.me
 j4y x.me (by rw [x.fl18];rfl) (q2T x.F13) j8B λy cdv A outer s H E hr=>
  (q0c (q0u (DR.de (q0e (q1K (q9m x)) hr.le x.c2 (q0d (q0a 1) (q0d q0b (q0d (q0D rfl x.c_NIGHT) q0j))))))
   (q0c (q0u (DR.de (q0e (q1K (q9m x)) hr.le x.c2 (q0d (q0a 2) (q0d q0b (q0d (q0D rfl x.c_MOST_HANDS) q0j))))))
   (q0c (q0u (DR.de (q0e (q1K (q9m x)) hr.le x.c2 (q0d (q0a 3) (q0d q0b (q0d (q0D rfl x.c_MOST_BENCHES) q0j))))))
   (q0c (q0u (DR.de (q0e (q1K (j7s x)) hr.le x.c3 (q0d (q0s q0T rfl x.n_len rfl (q0k (q0a 4) q0n)) (q0d q0b (q0d (q0D rfl x.c_MOST_OVENS) q0j))))))
   (q0c (q0u (DR.de (q0e (q1K (j7s x)) hr.le x.c3 (q0d (q0s q0T rfl x.n_len rfl (q0k (q0a 5) q0n)) (q0d q0b (q0d (q0D rfl x.c_MOST_BREADS) q0j))))))
   (q0c (q0u (DR.de (q0e (q1K (j8H x)) hr.le x.c15 (q0d (DF.de (DC.df (q03 hT0 rfl (q1s (DE.dp (q0a 5))) cap0 (λcl C s₀ H₀ ex=>(q1u (q0a 0) (fo4 x)))))) q0j))))
   (q0c (q0W (c:=18) 0 x.cC18 x.na18_night (flA x.fl18) (flN x.fl18) (by decide) (q0a 1))
   (q0c (q0W (c:=18) 1 x.cC18 x.na18_hands (flA x.fl18) (flN x.fl18) (by decide) (q0a 2))
   (q0c (q0W (c:=18) 2 x.cC18 x.na18_benches (flA x.fl18) (flN x.fl18) (by decide) (q0a 3))
   (q0c (q0W (c:=18) 3 x.cC18 x.na18_ovens (flA x.fl18) (flN x.fl18) (by decide) (q5q rfl x.n_tuple (DE.dl (q0a 4))))
   (q0h (q0W (c:=18) 4 x.cC18 x.na18_breads (flA x.fl18) (flN x.fl18) (by decide) (q5q rfl x.n_tuple (DE.dl (q0a 5)))))))))))))))
theorem j76:q0l ["self","room","rate","heat"] ["self","room","rate","heat"] (q0g j7q):=by walk_at "sc"
noncomputable def j1G (ρ:Ro):Fl:=(q0N 19 2 (q0f 3)) ρ
noncomputable def j2n (ρ:Ro):Fl:=((q0N 19 1 (q0f 2)) ρ).bind j1G
noncomputable def j1L (ρ:Ro):Fl:=((q0N 19 0 (q0f 1)) ρ).bind j2n
noncomputable def j2i (ρ:Ro):Fl:=((q0P (rD (rC 3 F_2 (gSh (q0f 3) (gSh (eI 0) (gSh (eI 300) gN0)))))) ρ).bind j1L
noncomputable def j1m (ρ:Ro):Fl:=((q0P (rD (rC 3 F_2 (gSh (q0f 2) (gSh (eI 1) (gSh (eI 300) gN0)))))) ρ).bind j2i
noncomputable def j1a (ρ:Ro):Fl:=((q0P (rD (rC 3 F_2 (gSh (q0f 1) (gSh (eI 1) (gSh (eI 30) gN0)))))) ρ).bind j1m
noncomputable def j4E:Fn:=q3m 4 19 3 j1a
theorem j8K (x:Tx K mg fa fd T):q0M P w K mg base (CXE T P w) 2 (fa 16) (fd 16) ["self","room","rate","heat"] (spI T K 19 4 j4E):=
 have hT0:=q0o x.me
 j4y x.me (by rw [x.fl19];rfl) (q2T x.F16) j76 λy cdv A outer s H E hr=>
  (q0c (q0u (DR.de (q0e (q1K (q9m x)) hr.le x.c2 (q0d (q0a 1) (q0d q0b (q0d (q0D rfl x.c_MOST_ROOM) q0j))))))
   (q0c (q0u (DR.de (q0e (q1K (q9m x)) hr.le x.c2 (q0d (q0a 2) (q0d q0b (q0d (q0D rfl x.c_FASTEST) q0j))))))
   (q0c (q0u (DR.de (q0e (q1K (q9m x)) hr.le x.c2 (q0d (q0a 3) (q0d q0b (q0d (q0D rfl x.c_HOTTEST) q0j))))))
   (q0c (q0W (c:=19) 0 x.cC19 x.na19_room (flA x.fl19) (flN x.fl19) (by decide) (q0a 1))
   (q0c (q0W (c:=19) 1 x.cC19 x.na19_rate (flA x.fl19) (flN x.fl19) (by decide) (q0a 2))
   (q0h (q0W (c:=19) 2 x.cC19 x.na19_heat (flA x.fl19) (flN x.fl19) (by decide) (q0a 3))))))))
theorem q2v:q0l ["_law_script","_law_night","_law_kinds","_law_names_here","_law_rooms","_law_many","_law_asked","_law_breads","_law_bakery","_law_orders","_law_due_here"] ["_law_script"] (q0g j7d):=by walk_at "sc"
noncomputable def j1U (ρ:Ro):Fl:=(q1n 4 (q1l (q1a (q0q (q1z (eI 1) (q1H (rD (rC 2 q1M (gSh (q0f 0) (gSh (eI 5) gN0)))) (eI 2))) q0K)))) ρ
noncomputable def j2r (ρ:Ro):Fl:=(q1n 4 (q1l (j9s (q1a (q0q (eI 1) q0K)) (eCB q2W (q0q (q0f 4) q0K))))) ρ
noncomputable def j1z (ρ:Ro):Fl:=(q6O (rC 2 q7e (gSh (rD (rC 3 j8G (gSh (q0f 8) (gSh (q0f 6) (gSh (q0f 3) gN0))))) (gSh (q0f 10) gN0)))) ρ
noncomputable def j1E (ρ:Ro):Fl:=(q6O (rC 2 q7e (gSh (rD (rC 3 q9k (gSh (q0f 8) (gSh (q0f 9) (gSh (eI 12) gN0))))) (gSh (q0f 10) gN0)))) ρ
noncomputable def q4D (ρ:Ro):Fl:=((sIf (tEq (rD (rC 4 j7Z (gSh (q1l (w0F (q15 (q0f 6)) oNo (oSo (w0j (eI 1))))) (gSh (q0f 1) (gSh (q0f 2) (gSh (eCB q44 (q0q (q0f 4) q0K)) gN0)))))) (eI 0)) j1z Fl.nx) ρ).bind j1E
noncomputable def j1M (ρ:Ro):Fl:=((sIf (q2q (q9j (rD (rC 2 q7e (gSh (rD (rC 3 q9k (gSh (q0f 8) (gSh (q1l (q1a q0K)) (gSh (eI 12) gN0))))) (gSh (eI 0) gN0)))))) q11 Fl.nx) ρ).bind q4D
noncomputable def q4F (ρ:Ro):Fl:=((sIf (j55 (q2q (q9j (rD (rC 3 j8F (gSh (q0f 9) (gSh (q0f 6) (gSh (q0f 3) gN0))))))) (q2q (q9j (rD (rC 2 q7e (gSh (q37 [(18,0)] (q0f 8)) (gSh (q0f 1) gN0))))))) q11 Fl.nx) ρ).bind j1M
noncomputable def q4A (ρ:Ro):Fl:=((sIf (q9J (tB2 qGt (q0f 10) (eI 0)) (q2q (q9j (rD (rC 2 q7e (gSh (rD (rC 3 q9k (gSh (q0f 8) (gSh (q0f 9) (gSh (q1H (rD (rC 2 q1M (gSh (q0f 0) (gSh (eI 7) gN0)))) (eI 12)) gN0))))) (gSh (q0f 10) gN0))))))) q11 Fl.nx) ρ).bind q4F
noncomputable def j1k (ρ:Ro):Fl:=((sIf (q2q (q9j (rD (rC 2 q7e (gSh (rD (rC 3 q9k (gSh (q0f 8) (gSh (q0f 9) (gSh (eI 12) gN0))))) (gSh (q0f 10) gN0)))))) q11 Fl.nx) ρ).bind q4A
noncomputable def q5k (ρ:Ro):Fl:=((q1n 10 (rD (rC 4 j7Z (gSh (q0f 6) (gSh (q0f 1) (gSh (q0f 2) (gSh (eCB q44 (q0q (q0f 4) q0K)) gN0))))))) ρ).bind j1k
noncomputable def q3C (ρ:Ro):Fl:=((q1n 9 (q1l (q0L (q15 (q0f 6)) [3] (rD (rC 3 F_5 (gSh (eIx (q0f 1) (eIx (q0f 0) (eI 0))) (gSh (eIx (q0f 0) (eI 1)) (gSh (eIx (q0f 0) (eI 2)) gN0)))))))) ρ).bind q5k
noncomputable def q4V (ρ:Ro):Fl:=((q1n 8 (rD (rC 5 j7l (gSh (q0f 1) (gSh (eI 1) (gSh (eI 1) (gSh (q1l (q0L (q15 (q0f 4)) [] (rD (rC 3 j4E (gSh (q0f 0) (gSh (eI 9) (gSh (eI 9) gN0))))))) (gSh (q0f 7) gN0)))))))) ρ).bind q3C
noncomputable def q30 (ρ:Ro):Fl:=((q1n 7 (q1l (q0L (q5d (n1 (q0f 2))) [3] (rD (rC 2 j6s (gSh (eIx (q0f 1) (q0f 0)) (gSh (q1l (q1a (q0q (rD (rC 5 j5r (gSh (eS "a") (gSh (eI 1) (gSh (eI 9) (gSh (eS "oven") (gSh (eI 99) gN0))))))) q0K))) gN0))))))) ρ).bind q4V
noncomputable def q2m (ρ:Ro):Fl:=((q1n 6 (rD (rC 4 j8E (gSh (q0f 0) (gSh (q0f 1) (gSh (q0f 5) (gSh (q0f 2) gN0))))))) ρ).bind q30
noncomputable def q1N (ρ:Ro):Fl:=((q1n 5 (eIx (q1l (q1a (q0q (q1H (q1z (q2P (rD (rC 2 q1M (gSh (q0f 0) (gSh (eI 6) gN0)))) (eI 9)) (eI 1)) (eI 13)) (q0q (q1z (eI 13) (q1H (q2P (rD (rC 2 q1M (gSh (q0f 0) (gSh (eI 6) gN0)))) (eI 9)) (eI 2))) q0K)))) (eCB q6y (q0q (e2 (λa b=>bD false (eqS a b)) (q1H (rD (rC 2 q1M (gSh (q0f 0) (gSh (eI 6) gN0)))) (eI 9)) (eI 4)) q0K)))) ρ).bind q2m
noncomputable def q3I (ρ:Ro):Fl:=((sIf (tEq (q1H (rD (rC 2 q1M (gSh (q0f 0) (gSh (eI 0) gN0)))) (eI 3)) (eI 2)) j2r Fl.nx) ρ).bind q1N
noncomputable def q24 (ρ:Ro):Fl:=((sIf (tEq (q1H (rD (rC 2 q1M (gSh (q0f 0) (gSh (eI 0) gN0)))) (eI 3)) (eI 1)) j1U Fl.nx) ρ).bind q3I
noncomputable def q2R (ρ:Ro):Fl:=((q1n 4 (q1l (q0L (q5d (n1 (q1z (eI 1) (q1H (rD (rC 2 q1M (gSh (q0f 0) (gSh (eI 5) gN0)))) (eI 3))))) [0] (q1z (eI 1) (q1H (q1z (q2P (rD (rC 2 q1M (gSh (q0f 1) (gSh (eI 5) gN0)))) (eI 3)) (j61 (eI 7) (q0f 0))) (eI 30)))))) ρ).bind q24
noncomputable def q8u (ρ:Ro):Fl:=((q1n 3 (rD (rC 2 j4H (gSh (rD (rC 2 q1M (gSh (q0f 0) (gSh (eI 4) gN0)))) (gSh (q1z (q0f 2) (eI 1)) gN0))))) ρ).bind q2R
noncomputable def q9g (ρ:Ro):Fl:=((q1n 2 (q1z (eI 1) (q1H (rD (rC 2 q1M (gSh (q0f 0) (gSh (eI 3) gN0)))) (eI 8)))) ρ).bind q8u
noncomputable def q5g (ρ:Ro):Fl:=((q1n 1 (q1z (eI 1) (q1H (rD (rC 2 q1M (gSh (q0f 0) (gSh (eI 2) gN0)))) (eI 720)))) ρ).bind q9g
noncomputable def j7v:Fn:=fnF 11 q5g
theorem j9x (x:Tx K mg fa fd T):q0M P w K mg base (CXE T P w) 12 (fa 86) (fd 86) ["_law_script"] (spD T K 1 j7v):=
 have hT:=x.me
 have hT0:=q0o x.me
 q1A x.me x.F86 q2v λcdv A outer s H E hr=>
  (q0c (q0w 1 q2v.nd (q0m q0z q0b (q0m q0x (DR.de (q0e (q14 x) hr.le x.c76 (q0d (q0a 0) (q0d q0b q0j)))) q0b)))
   (q0c (q0w 2 q2v.nd (q0m q0z q0b (q0m q0x (DR.de (q0e (q14 x) hr.le x.c76 (q0d (q0a 0) (q0d q0b q0j)))) q0b)))
   (q0c (q0w 3 q2v.nd (DR.de (q0e (j8x x) hr.le x.c79 (q0d (DR.de (q0e (q14 x) hr.le x.c76 (q0d (q0a 0) (q0d q0b q0j)))) (q0d (q0m q0z (q0a 2) q0b) q0j)))))
   (q0c (DC.setF 4 q2v.nd (q03 hT0 rfl (q2w (j00 rfl x.n_range (q0m q0z q0b (q0m q0x (DR.de (q0e (q14 x) hr.le x.c76 (q0d (q0a 0) (q0d q0b q0j)))) q0b)))) (j3y ["_law_script"] [0] (hc:=(q1g rfl rfl rfl q3i))) (λcl C s₀ H₀ ex=>(q0m q0z q0b (q0m q0x (q0m q0z (q0m q0H (DR.de (q0e (q14 x) hr.le x.c76 (q0d (q0a 1) (q0d q0b q0j)))) q0b) (q0m q6a q0b (q0a 0))) q0b)))))
   (q0c (q0I (q0y q1b (q0m q0x (DR.de (q0e (q14 x) hr.le x.c76 (q0d (q0a 0) (q0d q0b q0j)))) q0b) q0b (nomark _)) (q0h (q0w 4 q2v.nd (DF.de (q0Q (q0k (q0m q0z q0b (q0m q0x (DR.de (q0e (q14 x) hr.le x.c76 (q0d (q0a 0) (q0d q0b q0j)))) q0b)) q0n))))) q0v)
   (q0c (q0I (q0y q1b (q0m q0x (DR.de (q0e (q14 x) hr.le x.c76 (q0d (q0a 0) (q0d q0b q0j)))) q0b) q0b (nomark _)) (q0h (q0w 4 q2v.nd (DF.de (j0U (q0Q (q0k q0b q0n)) (q0s q0T rfl x.n_len rfl (q0k (q0a 4) q0n)))))) q0v)
   (q0c (q0w 5 q2v.nd (q0U (DF.de (q0Q (q0k (q0m q0x (q0m q0z (q0m q0H (DR.de (q0e (q14 x) hr.le x.c76 (q0d (q0a 0) (q0d q0b q0j)))) q0b) q0b) q0b) (q0k (q0m q0z q0b (q0m q0x (q0m q0H (DR.de (q0e (q14 x) hr.le x.c76 (q0d (q0a 0) (q0d q0b q0j)))) q0b) q0b)) q0n)))) (q2k q3X rfl x.n_int rfl (q0k (q3v q1b (q0m q0x (DR.de (q0e (q14 x) hr.le x.c76 (q0d (q0a 0) (q0d q0b q0j)))) q0b) q0b (nomark _)) q0n))))
   (q0c (q0w 6 q2v.nd (DR.de (q0e (j79 x) hr.le x.c81 (q0d (q0a 0) (q0d (q0a 1) (q0d (q0a 5) (q0d (q0a 2) q0j)))))))
   (q0c (DC.setF 7 q2v.nd (q03 hT0 rfl (q2w (j00 rfl x.n_range (q0a 2))) (j3y ["_law_names_here"] [3] (hc:=(q1g rfl rfl rfl q3i))) (λcl C s₀ H₀ ex=>(DR.de (q17 x.mk23 (j9D x) q1G hr.le rfl x.mC23 x.b51 .nil (λ_=>rfl) rfl (q0d (q0U (q0a 1) (q0a 0)) (q0d (DF.de (q0Q (q0k (DR.de (q17 x.mk22 (j9W x) q1G hr.le rfl x.mC22 x.b50 .nil (λ_=>rfl) rfl (q0d q4I (q0d q0b (q0d q0b (q0d q4I (q0d q0b q0j))))))) q0n))) q0j)))))))
   (q0c (q0w 8 q2v.nd (DR.de (q17 x.mk18 (j9h x) q1G hr.le rfl x.mC18 x.b13 .nil (λ_=>rfl) rfl (q0d (q0a 1) (q0d q0b (q0d q0b (q0d (DF.de (DC.df (q03 hT0 rfl (q1s (DE.dp (q0a 4))) cap0 (λcl C s₀ H₀ ex=>(DR.de (q17 x.mk19 (j8K x) q1G hr.le rfl x.mC19 x.b16 .nil (λ_=>rfl) rfl (q0d (q0a 0) (q0d q0b (q0d q0b q0j))))))))) (q0d (q0a 7) q0j))))))))
   (q0c (DC.setF 9 q2v.nd (q03 hT0 rfl (q1s (DE.dp (q0a 6))) (j3y ["_law_names_here"] [3] (hc:=(q1g rfl rfl rfl q3i))) (λcl C s₀ H₀ ex=>(DR.de (q17 x.mk16 (w0X x) q1G hr.le rfl x.mC16 x.b5 .nil (λ_=>rfl) rfl (q0d (q0U (q0a 1) (q0U (q0a 0) q0b)) (q0d (q0U (q0a 0) q0b) (q0d (q0U (q0a 0) q0b) q0j))))))))
   (q0c (q0w 10 q2v.nd (DR.de (q0e (j5E x) hr.le x.c82 (q0d (q0a 6) (q0d (q0a 1) (q0d (q0a 2) (q0d (q0s (q4U rfl) rfl x.n_max rfl (q0k (q0a 4) q0n)) q0j)))))))
   (q0c (q0I (q1I (q1i (DR.de (q0e (q3O x) hr.le x.c78 (q0d (DR.de (q0e (q9Z x) hr.le x.c84 (q0d (q0a 8) (q0d (q0a 9) (q0d q0b q0j))))) (q0d (q0a 10) q0j)))))) q0t q0v)
   (q0c (q0I (DW.dt (q7Z (q0y q5c (q0a 10) q0b (nomark _)) (q43 (q1I (q1i (DR.de (q0e (q3O x) hr.le x.c78 (q0d (DR.de (q0e (q9Z x) hr.le x.c84 (q0d (q0a 8) (q0d (q0a 9) (q0d (q0m q0x (DR.de (q0e (q14 x) hr.le x.c76 (q0d (q0a 0) (q0d q0b q0j)))) q0b) q0j))))) (q0d (q0a 10) q0j))))))))) q0t q0v)
   (q0c (q0I (DW.dt (j0D (q1I (q1i (DR.de (q0e (j8N x) hr.le x.c80 (q0d (q0a 9) (q0d (q0a 6) (q0d (q0a 3) q0j))))))) (q5W (q1I (q1i (DR.de (q0e (q3O x) hr.le x.c78 (q0d (q1u (q0a 8) (fo0 x)) (q0d (q0a 1) q0j))))))))) q0t q0v)
   (q0c (q0I (q1I (q1i (DR.de (q0e (q3O x) hr.le x.c78 (q0d (DR.de (q0e (q9Z x) hr.le x.c84 (q0d (q0a 8) (q0d (DF.de (q0Q q0n)) (q0d q0b q0j))))) (q0d q0b q0j)))))) q0t q0v)
   (q0c (q0I (q0y q1b (DR.de (q0e (j5E x) hr.le x.c82 (q0d (DF.de (j5C (DE.dl (q0a 6)) q62 (q6S (j5v q0b)))) (q0d (q0a 1) (q0d (q0a 2) (q0d (q0s (q4U rfl) rfl x.n_max rfl (q0k (q0a 4) q0n)) q0j)))))) q0b (nomark _)) (q0h (q3e (q0e (q3O x) hr.le x.c78 (q0d (DR.de (q0e (j8a x) hr.le x.c85 (q0d (q0a 8) (q0d (q0a 6) (q0d (q0a 3) q0j))))) (q0d (q0a 10) q0j))))) q0v)
   (q0h (q3e (q0e (q3O x) hr.le x.c78 (q0d (DR.de (q0e (q9Z x) hr.le x.c84 (q0d (q0a 8) (q0d (q0a 9) (q0d q0b q0j))))) (q0d (q0a 10) q0j))))))))))))))))))))))
end
end Lw
open PySem L2 L3
namespace Lw
theorem at_ (ns:List Int) (k:Nat):q1M [.sh (.lst (ns.map D.int)),.sh (.int k)]=.ok (.sh (.int (ns.getD k 0))):=by
 by_cases h:k < ns.length
 ·have e:atI (ns.map D.int) (k:Int)=some (.int ns[k]):=q0Y (by simp [h])
  simp [q1M,q7K,q7T,q7v,h,e]
 ·simp [q1M,q7K,q7T,q7v,h]
theorem is_ (i j:Int):q7e [.sh (.int i),.sh (.int j)]=.ok (.sh (.bl (decide (i=j)))):=by simp [q7e,j0W]
theorem q1f {n:Int} (h:n.natAbs < 2 ^ 200):n.natAbs.log2 < 1920:=by
 by_cases h0:n.natAbs=0
 ·rw [h0];decide
 ·rw [Nat.log2_lt h0]
  exact Nat.lt_of_lt_of_le h (Nat.pow_le_pow_right (by decide) (by decide))
theorem chkn (n lo hi:Int) (hn:n.natAbs.log2 < 1920) (hl:lo.natAbs.log2 < 1920) (hh:hi.natAbs.log2 < 1920):F_2 [.sh (.int n),.sh (.int lo),.sh (.int hi)]=if lo<=n/\n<=hi then .ok (.sh .non) else .exc 3:=by
 have l1:Str.length " does not lie from "<=200000:=by decide
 have l2:Str.length " to "<=200000:=by decide
 by_cases h1:lo<=n
 ·by_cases h2:n<=hi
  ·simp [F_2,j0M,h1,h2]
  ·simp [F_2,j0M,j4c,h1,h2,hn,hl,hh,l1,l2]
 ·simp [F_2,j0M,j4c,h1,hn,hl,hh,l1,l2]
noncomputable abbrev abc:Str:="abcdefghijklmnopqrstuvwxyz"
theorem j2m:Tz 26 abc:=⟨by decide +kernel,by decide +kernel⟩
theorem j3l:abc.length=26:=by decide +kernel
noncomputable def oc (c:Nat):Bool:=!(Builtin.Str.occurrences abc ⟨#[c]⟩ 0 abc.length 1).isEmpty
noncomputable def good (z:Str):Prop:=(1<=(z.length:Int)/\(z.length:Int)<=12)/\z.cps.toList.all oc=true
theorem q5Y (ρ:Ro):∀cs:List Nat,q6b (λd=>e2 (inD false) (q0f 0) (eC (.str abc)) (q1t [] ρ d)) (cs.map λc=>D.str ⟨#[c]⟩)=some ((cs.map oc).map D.bl)
 | []=>rfl
 | c::cs=>by
  rw [List.map_cons,q6b,q5Y ρ cs]
  rfl
theorem q5t:∀bs:List Bool,j03 (bs.map D.bl)=some bs
 | []=>rfl
 | b::bs=>by rw [List.map_cons,j03,q5t bs]
theorem j3X (z:Str) (hz:z.length<=1000) (ρ:Ro) (h0:q0f 0 ρ=.ok (.str z)):eCB j4I (q0q (q1l (q0L (j4C (q0f 0)) [] (e2 (inD false) (q0f 0) (eC (.str abc))))) q0K) ρ=.ok (.bl (z.cps.toList.all oc)):=by
 have e1:q0L (j4C (q0f 0)) [] (e2 (inD false) (q0f 0) (eC (.str abc))) ρ=.ok ((z.cps.toList.map oc).map D.bl):=by
  rw [q0L,j4C,h0,Out.ok_bind,D.toS,Out.ok_bind]
  rw [if_pos (by simp [signs,Str.length] at hz ⊢; omega),signs,q5Y]
 rw [eCB,q0q,q1l,e1,Out.ok_bind,Out.ok_bind,q0K,Out.ok_bind,Out.ok_bind]
 rw [j4I,q5t]
 simp [List.all_map]
theorem j4h (z:Str) (hz:Tz 1000 z):F_1 [.sh (.str z)]=open Classical in if good z then .ok (.sh .non) else .exc 1:=by
 have hl:z.length<=1000000:=by have:=hz.len;omega
 have al:=j3X z hz.len [.sh (.str z)] rfl
 have l1:Str.length " is not 1 to "<=200000:=by decide
 have l2:Str.length " small letters"<=200000:=by decide
 have rp:=hz.repr (Nat.le_refl _)
 have m12:Nat.log2 12 < 1920:=by decide
 have bad:q9w [.sh (.str z)]=.exc 1 [.sh (.str z)]:=by
  simp [q9w,l1,l2,rp,m12]
 have step:∀b:Bool,z.cps.toList.all oc=b->q9P [.sh (.str z)]=if (1<=(z.length:Int)/\(z.length:Int)<=12)/\b=true then .nx [.sh (.str z)] else .exc 1 [.sh (.str z)]:=by
  intro b hb
  rw [hb] at al
  rw [<-bad,q9P]
  generalize q9w=G
  generalize hA:eCB j4I (q0q (q1l (q0L (j4C (q0f 0)) [] (e2 (inD false) (q0f 0) (eC (.str "abcdefghijklmnopqrstuvwxyz"))))) q0K)=A
  have al:A [.sh (.str z)]=.ok (.bl b):=by rw [<-hA];exact al
  clear hA
  by_cases h1:1<=(z.length:Int)
  ·by_cases h2:(z.length:Int)<=12
   ·cases b<;>simp [hl,h1,h2,al]
   ·simp [hl,h1,h2]
  ·simp [hl,h1]
 have st:=step _ rfl
 rw [F_1,fnF]
 show (match q9P [.sh (.str z)] with | .nx _=>_ | .rt r=>_ | .exc c _=>_ | _=>_)=_
 rw [st]
 by_cases h:good z
 ·rw [if_pos h,if_pos (show _/\_ from h)]
 ·rw [if_neg h,if_neg (show ¬(_/\_) from h)]
theorem chkc (n lo hi:Int) (hn:n.natAbs.log2 < 1920) (hl:lo.natAbs.log2 < 1920) (hh:hi.natAbs.log2 < 1920):F_3 [.sh (.int n),.sh (.int lo),.sh (.int hi)]=if lo<=n/\n<=hi then .ok (.sh .non) else .exc 4:=by
 have l1:Str.length " of them, not "<=200000:=by decide
 have l2:Str.length " to "<=200000:=by decide
 by_cases h1:lo<=n
 ·by_cases h2:n<=hi
  ·simp [F_3,q95,h1,h2]
  ·simp [F_3,q95,j34,h1,h2,hn,hl,hh,l1,l2]
 ·simp [F_3,q95,j34,h1,hn,hl,hh,l1,l2]
theorem small2 {n:Nat} (h:n<=1000000):(n:Int).natAbs.log2 < 1920:=q1f (by simp;omega)
noncomputable def wOk (w:Str):Bool:=inV (.str w) [V.str "nothing",V.str "hands",V.str "bench",V.str "oven"]
theorem j4o (w:Str):inD true (.str w) (.tup [.str "nothing",.str "hands",.str "bench",.str "oven"])=.ok (.bl (!wOk w)):=rfl
structure Wd (n:Nat) (z:Str):Prop where
 tz:Tz n z
 pos:1<=z.length
 oc:z.cps.toList.all oc=true
theorem Wd.good {z:Str} (h:Wd 12 z):good z:=⟨⟨by have:=h.pos;omega,by have:=h.tz.len;omega⟩,h.oc⟩
theorem j47 {z:Str} (h:Wd 12 z):F_1 [.sh (.str z)]=.ok (.sh .non):=by
 have:=j4h z (h.tz.mono (by decide))
 rw [if_pos h.good] at this
 exact this
theorem q9G (z w:Str) (a b h:Int) (hz:Wd 12 z) (hw:wOk w=true) (h1:1<=a) (h2:a<=b) (h3:b<=720) (h4:0<=h) (h5:h<=300):j5r [.sh (.str z),.sh (.int a),.sh (.int b),.sh (.str w),.sh (.int h)]=.ok (.sh (.ins 22 [.str z,.int a,.int b,.str w,.int h])):=by
 have n0:=j47 hz
 have la:a.natAbs.log2 < 1920:=q1f (by omega)
 have lb:b.natAbs.log2 < 1920:=q1f (by omega)
 have c1:=chkn a 1 720 la (by decide) (by decide)
 have c2:=chkn b a 720 lb la (by decide)
 have c3:=chkn h 0 300 (q1f (by omega)) (by decide) (by decide)
 rw [if_pos ⟨by omega,by omega⟩] at c1 c2 c3
 have iw:=j4o w
 rw [hw] at iw
 simp [j5r,q7g,q7u,j2j,j1K,j1C,j10,j2J,j2l,j2f,j2M,n0,iw,c1,c2,c3]
theorem q9H (z:Str) (ss:List D) (hz:Wd 12 z) (h1:1<=ss.length) (h2:ss.length<=6):j6s [.sh (.str z),.sh (.lst ss)]=.ok (.sh (.ins 23 [.str z,.tup ss])):=by
 have n0:=j47 hz
 have c1:=chkc (ss.length:Int) 1 6 (small2 (by omega)) (by decide) (by decide)
 rw [if_pos ⟨by omega,by omega⟩] at c1
 simp [j6s,j18,j2c,j1t,j08,n0,c1]
theorem j3L (a b h:Int) (h1:1<=a/\a<=30) (h2:1<=b/\b<=300) (h3:0<=h/\h<=300):j4E [.sh (.int a),.sh (.int b),.sh (.int h)]=.ok (.sh (.ins 19 [.int a,.int b,.int h])):=by
 have c1:=chkn a 1 30 (q1f (by omega)) (by decide) (by decide)
 have c2:=chkn b 1 300 (q1f (by omega)) (by decide) (by decide)
 have c3:=chkn h 0 300 (q1f (by omega)) (by decide) (by decide)
 rw [if_pos (by assumption)] at c1 c2 c3
 simp [j4E,j1a,j1m,j2i,j1L,j2n,j1G,c1,c2,c3]
noncomputable def brd (b:Str×List D):D:=.ins 23 [.str b.1,.tup b.2]
theorem q6n:∀ts:List Str,q19 (ts.map D.str)=some ts
 | []=>rfl
 | t::ts=>by rw [List.map_cons,q19,q6n ts]
theorem q9O (ts:List Str) (h:ts.Nodup) (hl:ts.length<=4000):j7h [.sh (.lst (ts.map D.str))]=.ok (.sh .non):=by
 have e:=(q6U ts).mpr h
 have s:=q6n ts
 have hm:(ts.map D.str).length=ts.length:=by simp
 generalize ts.map D.str=zs at *
 simp [j7h,j0S,s,hl,e,hm]
theorem q7L (n h b:Int) (os:List D) (bs:List (Str×List D)) (hn:1<=n/\n<=720) (hh:1<=h/\h<=6) (hb:1<=b/\b<=6) (ho:1<=os.length) (ho':os.length<=3) (hl:1<=bs.length) (hl':bs.length<=8) (nd:(bs.map (·.1)).Nodup) :
 j7l [.sh (.int n),.sh (.int h),.sh (.int b),.sh (.lst os),.sh (.lst (bs.map brd))]=.ok (.sh (.ins 18 [.int n,.int h,.int b,.tup os,.tup (bs.map brd)])):=by
 have c1:=chkn n 1 720 (q1f (by omega)) (by decide) (by decide)
 have c2:=chkn h 1 6 (q1f (by omega)) (by decide) (by decide)
 have c3:=chkn b 1 6 (q1f (by omega)) (by decide) (by decide)
 rw [if_pos (by assumption)] at c1 c2 c3
 have c4:=chkc (os.length:Int) 1 3 (small2 (by omega)) (by decide) (by decide)
 have c5:=chkc ((bs.map brd).length:Int) 1 8 (small2 (by simp;omega)) (by decide) (by decide)
 rw [if_pos ⟨by omega,by omega⟩] at c4
 rw [if_pos ⟨by simp;omega,by simp;omega⟩] at c5
 have ap:=q9O (bs.map (·.1)) nd (by simp;omega)
 have mp:∀ρ:Ro,q6b (λd=>q37 [(22,0),(23,0)] (q0f 0) (q1t [] ρ d)) (bs.map brd)=some ((bs.map (·.1)).map D.str):=by
  intro ρ
  rw [List.map_map]
  exact q2M bs λx _=>by simp [q1t,brd,List.lookup]
 have lb:(bs.map brd).length<=1000000:=by simp;omega
 generalize bs.map brd=bb at *
 generalize (bs.map (·.1)).map D.str=zz at *
 simp only [q37,q0f] at mp
 simp [j7l,q8G,q8F,j1P,j2k,j2F,j2a,j1F,j2K,j1p,j1v,j1f,c1,c2,c3,c4,c5,mp,lb,ap]
theorem q7I (me:Sl) (z:Str):∀(bs:List (Str×List D)) (x:Sl),∃x',q18 (q0G (q2E 2) q5A) (bs.map brd) [me,.sh (.str z),x]=(match bs.find? (λb=>decide (b.1=z)) with | some b=>.rt (.sh (brd b)) | none=>.nx [me,.sh (.str z),x'])
 | [],x=>⟨x,by rw [List.map_nil,q13];rfl⟩
 | b::bs,x=>by
  obtain ⟨x',e⟩:=q7I me z bs (.sh (brd b))
  refine ⟨x',?_⟩
  by_cases h:b.1=z
  ·rw [List.map_cons,q7t (r:=.sh (brd b)),List.find?_cons_of_pos (by simpa using h)]
   simp [q0G,q5A,q74,brd,List.lookup,h]
  ·rw [List.map_cons,q2t (ρ':=[me,.sh (.str z),.sh (brd b)]),List.find?_cons_of_neg (by simpa using h),e]
   simp [q0G,q5A,q74,brd,List.lookup,h]
theorem bread_of (n h b:D) (os:List D) (bs:List (Str×List D)) (z:Str) (hz:Tz 1000 z):j70 [.sh (.ins 18 [n,h,b,.tup os,.tup (bs.map brd)]),.sh (.str z)]=(match bs.find? (λb=>decide (b.1=z)) with | some b=>.ok (.sh (brd b)) | none=>.exc 6):=by
 obtain ⟨x',e⟩:=q7I (.sh (.ins 18 [n,h,b,.tup os,.tup (bs.map brd)])) z bs .no
 have rp:=hz.repr (Nat.le_refl _)
 have l1:Str.length "the bakery has no bread "<=200000:=by decide
 have k:q6h [.sh (.ins 18 [n,h,b,.tup os,.tup (bs.map brd)]),.sh (.str z),.no]=(match bs.find? (λb=>decide (b.1=z)) with | some b=>.rt (.sh (brd b)) | none=>.exc 6 [.sh (.ins 18 [n,h,b,.tup os,.tup (bs.map brd)]),.sh (.str z),x']):=by
  rw [q6h,q1w (ds:=bs.map brd) (by simp),e]
  cases bs.find? (λb=>decide (b.1=z)) with
  | some b=>rfl
  | none=>simp [j2N,rp,l1]
 rw [j70,fnF]
 show (match q6h [.sh (.ins 18 [n,h,b,.tup os,.tup (bs.map brd)]),.sh (.str z),.no] with | .nx _=>_ | .rt r=>_ | .exc c _=>_ | _=>_)=_
 rw [k]
 cases bs.find? (λb=>decide (b.1=z))<;>rfl
theorem q34 {x:Str} {n:Nat} (h:n<=x.length):Txt.slice x none (some (n:Int))=⟨(x.cps.toList.take n).toArray⟩:=by
 have:=PyProof.Rows.slice_closes_toL (x:=x) (j:=(n:Int)) (by omega) (by omega)
 rw [beq_iff_eq] at this
 rw [this]
 simp
theorem q6c {x:Str} {n:Nat} (h:n<=x.length):Txt.slice x (some (n:Int)) none=⟨(x.cps.toList.drop n).toArray⟩:=by
 have:=PyProof.Rows.slice_from_eq (x:=x) (i:=(n:Int)) (b:=x.length) (by omega) (by omega) rfl
 rw [this]
 have l:x.cps.toList.length=x.length:=q4Z x
 congr 2
 rw [List.take_of_length_le (by rw [List.length_drop,l];omega)]
 simp
theorem q8A:abc.cps.toList.Nodup:=by decide +kernel
theorem j6e:∀c∈abc.cps.toList,oc c=true:=by decide +kernel
theorem j6o {n:Nat} (cs:List Nat) (h1:1<=cs.length) (h2:cs.length<=n) (h:∀c∈cs,c∈abc.cps.toList):Wd n ⟨cs.toArray⟩:=
 ⟨⟨by show cs.toArray.size<=n;simpa using h2,λc hc=>j2m.cps c (h c (by simpa using hc))⟩,by show 1<=cs.toArray.size;simpa using h1,by
  rw [List.all_eq_true]
  intro c hc
  exact j6e c (h c (by simpa using hc))⟩
theorem q7f {as bs:List Nat} (h:(⟨as.toArray⟩:Str)=⟨bs.toArray⟩):as=bs:=by
 injection h with h
 simpa using h
theorem q3K (as bs:List Nat):((⟨as.toArray⟩:Str)++(⟨bs.toArray⟩:Str))=⟨(as++bs).toArray⟩:=j3k (by rw [j3a])
theorem q1e (as:List Nat):(⟨as.toArray⟩:Str).length=as.length:=by simp [Str.length]
theorem q3r {α:Type} (n:Nat) (f:Nat->α) (h:∀i j,i < j->j < n->f i≠f j):((List.range n).map f).Nodup:=by
 unfold List.Nodup
 rw [List.pairwise_map]
 exact List.pairwise_lt_range.imp_of_mem λ{a b} ha hb hab=>h a b hab (by simpa using hb)
theorem j0E (cell:Int) (n:Nat) (hn:n<=10):∃zs:List Str,zs.length=n/\zs.Nodup/\(∀z∈zs,Wd 12 z)/\j4H [.sh (.int cell),.sh (.int n)]=.ok (.fr (zs.map D.str)):=by
 obtain ⟨sh,hsh,esh⟩:∃sh:Nat,sh < 26/\cell / 288 % 26=(sh:Int):=⟨(cell / 288 % 26).toNat,by omega,by omega⟩
 have al:abc.length=26:=j3l
 have ll:abc.cps.toList.length=26:=by rw [q4Z,al]
 have rg:∀ρ:Ro,ρ[1]?=some (.sh (.int n))->q5d (n1 (q0f 1)) ρ=.ok ((List.range n).map λk:Nat=>D.int (0+(k:Int))):=fun ρ h=>by
  rw [q2S (n:=n) (by simp [h]) (by omega)];rfl
 by_cases ho:cell % 2=1
 ·obtain ⟨c3,hc3,e3⟩:∃c3:Nat,c3<=2/\cell / 2 % 3=(c3:Int):=⟨(cell / 2 % 3).toNat,by omega,by omega⟩
  let row:List Nat:=abc.cps.toList.drop sh++abc.cps.toList.take sh
  have hrow:row.length=26:=by simp [row,ll];omega
  have mrow:∀c∈row,c∈abc.cps.toList:=by
   intro c hc
   rcases List.mem_append.mp hc with hc | hc
   ·exact List.mem_of_mem_drop hc
   ·exact List.mem_of_mem_take hc
  let f:Nat->Str:=λk=>⟨(row.take (k+1+c3)).toArray⟩
  refine ⟨(List.range n).map f,by simp,q3r n f λi j hij hj e=>?_,λz hz=>?_,?_⟩
  ·have:=congrArg List.length (q7f e)
   rw [List.length_take,List.length_take,hrow] at this
   omega
  ·obtain ⟨k,hk,rfl⟩:=List.mem_map.mp hz
   have hk:k < n:=by simpa using hk
   exact j6o _ (by rw [List.length_take,hrow];omega) (by rw [List.length_take,hrow];omega) λc hc=>mrow c (List.mem_of_mem_take hc)
  ·have g1:q5T [.sh (.int cell),.sh (.int n),.sh (.str abc),.sh (.int sh),.no,.no,.sh (.str ⟨row.toArray⟩)]=.rt (.fr (((List.range n).map f).map D.str)):=by
    rw [q5T]
    show Out.fl (Out.bind (q0L _ _ _ _) _) _ _=_
    rw [q1j (rg _ rfl) (by simp;omega) (k:=λk=>D.str (f k))]
    ·rw [List.map_map];rfl
    ·intro k hk
     have hk:k < n:=by simpa using hk
     have sl:Txt.slice ⟨row.toArray⟩ none (some ((k:Int)+1+(c3:Int)))=f k:=by
      rw [show (k:Int)+1+(c3:Int)=((k+1+c3:Nat):Int) by omega]
      exact q34 (by rw [q1e,hrow];omega)
     have lr:(⟨row.toArray⟩:Str).length<=1000000:=by rw [q1e,hrow];decide
     generalize (⟨row.toArray⟩:Str)=R at *
     simp [q1t,q6t,lr,e3,sl]
   have s1:=q6c (x:=abc) (n:=sh) (by rw [al];omega)
   have s2:=q34 (x:=abc) (n:=sh) (by rw [al];omega)
   have ap:=q3K (abc.cps.toList.drop sh) (abc.cps.toList.take sh)
   have hz:abc.length<=1000000:=by rw [al];decide
   have z1:(⟨(abc.cps.toList.drop sh).toArray⟩:Str).length+(⟨(abc.cps.toList.take sh).toArray⟩:Str).length<=1000000:=by
    rw [q1e,q1e,List.length_drop,List.length_take];omega
   generalize hG:q5T=G at *
   generalize ((List.range n).map f).map D.str=Z at *
   have hrw:(⟨row.toArray⟩:Str)=⟨(abc.cps.toList.drop sh).toArray⟩++⟨(abc.cps.toList.take sh).toArray⟩:=ap.symm
   rw [hrw] at g1
   generalize (⟨(abc.cps.toList.drop sh).toArray⟩:Str)=A at *
   generalize (⟨(abc.cps.toList.take sh).toArray⟩:Str)=B at *
   generalize hL:abc=L at *
   have hL':Str.ofString "abcdefghijklmnopqrstuvwxyz" = L:=hL
   simp [j4H,q86,q8f,q7r,j19,ho,esh,hL',hz,s1,s2,z1,hG,g1]
 ·obtain ⟨m,hm,em⟩:∃m:Nat,m<=11/\cell / 2 % 12=(m:Int):=⟨(cell / 2 % 12).toNat,by omega,by omega⟩
  obtain ⟨cs,c1,c2,c3⟩:=q3t j2m (by decide) (f:=λd=>e2 ixD (q0f 1) (e2 (i2c q6H λi j=>.int (i % j)) (e2 j4K (e2 (i2c q6K λi j=>.int (i / j)) (q0f 2) (eC (.int 7))) (e2 (i2c q2u λi j=>.int (i*j)) (q0f 0) (e2 j4K (q0f 0) (eC (.int 2))))) (eC (.int 26))) (q1t [2,0] [.sh (.int cell),.sh (.int n),.sh (.str abc),.sh (.int sh),.no,.no,.no] d)) (g:=λk:Nat=>D.int (0+(k:Int))) (ix:=λk=>(cell / 7+(k:Int)*((k:Int)+2)) % 26) (List.range m) (by
   intro k hk
   have hk:k < m:=by simpa using hk
   have mo:q2u (k:Int) ((k:Int)+2)=true:=by
    unfold q2u
    simp only [Bool.or_eq_true,Bool.and_eq_true,decide_eq_true_eq]
    left;constructor<;>omega
   refine ⟨by omega,by rw [al];omega,?_⟩
   generalize abc=L
   simp [q1t,q6t,mo])
  rw [List.length_range] at c1
  obtain ⟨p,hp,ep⟩:∃p:Nat,p<=m/\cell / 24 % ((m:Int)+1)=(p:Int):=by
   have h0:=Int.emod_nonneg (cell / 24) (b:=(m:Int)+1) (by omega)
   have h1:=Int.emod_lt_of_pos (cell / 24) (b:=(m:Int)+1) (by omega)
   exact ⟨(cell / 24 % ((m:Int)+1)).toNat,by omega,by omega⟩
  have lt:∀k:Nat,(sh+k) % 26 < abc.cps.toList.length:=λk=>by rw [ll];exact Nat.mod_lt _ (by decide)
  let f:Nat->Str:=λk=>⟨(cs.take p++[abc.cps.toList[(sh+k) % 26]'(lt k)]++cs.drop p).toArray⟩
  have fl:∀k,(cs.take p++[abc.cps.toList[(sh+k) % 26]'(lt k)]++cs.drop p).length=m+1:=λk=>by
   simp [c1];omega
  refine ⟨(List.range n).map f,by simp,q3r n f λi j hij hj e=>?_,λz hz=>?_,?_⟩
  ·have e:=q7f e
   rw [List.append_assoc,List.append_assoc] at e
   have e:=List.append_cancel_left e
   have e:abc.cps.toList[(sh+i) % 26]'(lt i)=abc.cps.toList[(sh+j) % 26]'(lt j):=by
    have:=congrArg (λl=>l[0]?) e
    simpa using this
   have:=(List.getElem_inj q8A).mp e
   omega
  ·obtain ⟨k,hk,rfl⟩:=List.mem_map.mp hz
   refine j6o _ (by rw [fl];omega) (by rw [fl];omega) λc hc=>?_
   rcases List.mem_append.mp hc with hc | hc
   ·rcases List.mem_append.mp hc with hc | hc
    ·exact c2 c (List.mem_of_mem_take hc)
    ·rw [List.mem_singleton.mp hc];exact List.getElem_mem _
   ·exact c2 c (List.mem_of_mem_drop hc)
  ·have g3:q6e [.sh (.int cell),.sh (.int n),.sh (.str abc),.sh (.int sh),.sh (.str ⟨cs.toArray⟩),.sh (.int p),.no]=.rt (.fr (((List.range n).map f).map D.str)):=by
    rw [q6e]
    show Out.fl (Out.bind (q0L _ _ _ _) _) _ _=_
    rw [q1j (rg _ rfl) (by simp;omega) (k:=λk=>D.str (f k))]
    ·rw [List.map_map];rfl
    ·intro k hk
     have hk:k < n:=by simpa using hk
     have s1:=q34 (x:=⟨cs.toArray⟩) (n:=p) (by rw [q1e];omega)
     have s2:=q6c (x:=⟨cs.toArray⟩) (n:=p) (by rw [q1e];omega)
     have lr:(⟨cs.toArray⟩:Str).length<=1000000:=by rw [q1e];omega
     have ix:atI abc.cps.toList (((sh:Int)+(0+(k:Int))) % 26)=some (abc.cps.toList[(sh+k) % 26]'(lt k)):=by
      rw [show ((sh:Int)+(0+(k:Int))) % 26=(((sh+k) % 26:Nat):Int) by omega]
      exact q0Y (by simp [lt k])
     have hz:abc.length<=1000000:=by rw [al];decide
     have eq1:f k=⟨(cs.take p).toArray⟩++⟨#[abc.cps.toList[(sh+k) % 26]'(lt k)]⟩++⟨(cs.drop p).toArray⟩:=by
      show (⟨_⟩:Str)=_
      rw [show (⟨#[abc.cps.toList[(sh+k) % 26]'(lt k)]⟩:Str)=⟨[abc.cps.toList[(sh+k) % 26]'(lt k)].toArray⟩ from rfl,q3K,q3K]
     have z1:(⟨(cs.take p).toArray⟩:Str).length+(⟨#[abc.cps.toList[(sh+k) % 26]'(lt k)]⟩:Str).length<=1000000:=by
      rw [show (⟨#[abc.cps.toList[(sh+k) % 26]'(lt k)]⟩:Str)=⟨[abc.cps.toList[(sh+k) % 26]'(lt k)].toArray⟩ from rfl,q1e,q1e];simp;omega
     have z2:((⟨(cs.take p).toArray⟩:Str)++⟨#[abc.cps.toList[(sh+k) % 26]'(lt k)]⟩).length+(⟨(cs.drop p).toArray⟩:Str).length<=1000000:=by
      rw [show (⟨#[abc.cps.toList[(sh+k) % 26]'(lt k)]⟩:Str)=⟨[abc.cps.toList[(sh+k) % 26]'(lt k)].toArray⟩ from rfl,q3K,q1e,q1e];simp;omega
     rw [eq1]
     generalize abc.cps.toList[(sh+k) % 26]'(lt k)=q at *
     clear eq1 fl
     generalize (⟨(cs.take p).toArray⟩:Str)=A at *
     generalize (⟨(cs.drop p).toArray⟩:Str)=B at *
     generalize (⟨cs.toArray⟩:Str)=C at *
     generalize hL:abc=L at *
     generalize hI:((sh:Int)+(0+(k:Int))) % 26=I at *
     have hI':((sh:Int)+(k:Int)) % 26=I:=by rw [<-hI];congr 2;omega
     simp [q1t,q6t,lr,s1,s2,hz,ix,hI',z1,z2]
   have fc:q0L (q5d (n1 (e2 (i2c q6H λi j=>.int (i % j)) (e2 (i2c q6K λi j=>.int (i / j)) (q0f 0) (eC (.int 2))) (eC (.int 12))))) [2,0] (e2 ixD (q0f 1) (e2 (i2c q6H λi j=>.int (i % j)) (e2 j4K (e2 (i2c q6K λi j=>.int (i / j)) (q0f 2) (eC (.int 7))) (e2 (i2c q2u λi j=>.int (i*j)) (q0f 0) (e2 j4K (q0f 0) (eC (.int 2))))) (eC (.int 26)))) [.sh (.int cell),.sh (.int n),.sh (.str abc),.sh (.int sh),.no,.no,.no]=.ok (cs.map λc=>D.str ⟨#[c]⟩):=by
    rw [q0L,q2S (n:=m) (by rw [<-em];simp) (by omega),Out.ok_bind,if_pos (by simp [rgD];omega)]
    show (match q6b _ ((List.range m).map _) with | some es=>Out.ok es | none=>.bad)=_
    rw [show q6b _ ((List.range m).map λk:Nat=>D.int (0+(k:Int)))=_ from c3]
   have jn:=j0I cs (by omega)
   have ln:(⟨cs.toArray⟩:Str).length=m:=by rw [q1e,c1]
   have g5:q58 [.sh (.int cell),.sh (.int n),.sh (.str abc),.sh (.int sh),.no,.no,.no]=.rt (.fr (((List.range n).map f).map D.str)):=by
    rw [q58,q3F (v:=.str ⟨cs.toArray⟩)]
    ·rw [Fl.nx_bind]
     generalize hG:q6e=G at *
     generalize ((List.range n).map f).map D.str=Z at *
     generalize (⟨cs.toArray⟩:Str)=C at *
     have lz:C.length<=1000000:=by omega
     have mp:0 < (m:Int)+1:=by omega
     have m6:m<=1000000:=by omega
     simp [j2O,lz,m6,ln,ep,mp,hG,g3]
    ·show (Out.ok (D.str "")).bind _=_
     rw [Out.ok_bind]
     show Out.bind (Out.bind (Out.bind (q0L _ _ _ _) _) _) _=_
     rw [fc]
     exact jn
   generalize hG:q58=G at *
   generalize ((List.range n).map f).map D.str=Z at *
   generalize hL:abc=L at *
   have hL':Str.ofString "abcdefghijklmnopqrstuvwxyz" = L:=hL
   simp [j4H,q86,q8f,q7r,ho,esh,hL',hG,g5]
theorem q5F (z:Str) (l d:Int) (hl:l.natAbs.log2 < 1920):F_5 [.sh (.str z),.sh (.int l),.sh (.int d)]=if 1<=l/\l<=60 then .ok (.sh (.ins 16 [.str z,.int l,.int d])) else .exc 3:=by
 have c1:=chkn l 1 60 hl (by decide) (by decide)
 by_cases h1:1<=l/\l<=60
 ·simp [F_5,j25,j5H,j6f,j4U,c1,h1]
 ·simp [F_5,j25,c1,h1]
noncomputable def ord (o:Str×Int×Int):D:=.ins 16 [.str o.1,.int o.2.1,.int o.2.2]
noncomputable def bat (b:Int×Int×Int):D:=.ins 17 [.int b.1,.int b.2.1,.int b.2.2]
noncomputable def ovn (o:Int×Int×Int):D:=.ins 19 [.int o.1,.int o.2.1,.int o.2.2]
noncomputable def nb (most ls:Int):Nat:=((ls-1) / most+1).toNat
noncomputable def j52 (most n ls:Int) (t:Nat):Int×Int×Int:=(n,1+(t:Int)*most,if ls-(1+(t:Int)*most)+1 < most then ls-(1+(t:Int)*most)+1 else most)
noncomputable def j6Z (most n ls:Int):List (Int×Int×Int):=(List.range (nb most ls)).map (j52 most n ls)
noncomputable def q2H (most:Int):Int->List Int->List (Int×Int×Int)
 | _,[]=>[]
 | n,l::ls=>j6Z most n l++q2H most (n+1) ls
theorem q36 (most n ls:Int):(j6Z most n ls).length=nb most ls:=by simp [j6Z]
theorem j30 {most ls:Int} (h:1<=most) (h1:1<=ls) (h2:ls<=60):nb most ls<=60:=by
 unfold nb
 have:(ls-1) / most<=ls-1:=Int.ediv_le_self _ (by omega)
 omega
theorem q6g (most:Int) (h:1<=most):∀(ls:List Int) (n:Int),(∀l∈ls,1<=l/\l<=60)->(q2H most n ls).length<=60*ls.length
 | [],n,_=>by simp [q2H]
 | l::ls,n,hl=>by
  have h1:=q6g most h ls (n+1) λx hx=>hl x (by simp [hx])
  have h2:=j30 h (hl l (by simp)).1 (hl l (by simp)).2
  rw [q2H,List.length_append,q36,List.length_cons]
  omega
theorem q94 (a b c:Int):F_6 [.sh (.int a),.sh (.int b),.sh (.int c)]=.ok (.sh (.ins 17 [.int a,.int b,.int c])):=by
 simp [F_6,j5z,j4Y,j6x]
theorem j3z {fa fb fc:Ev} {ρ:Ro} {ls most:Int} (ha:fa ρ=.ok (.int 1)) (hb:fb ρ=.ok (.int (ls+1))) (hc:fc ρ=.ok (.int most)) (h:1<=most/\most<=1000) (h1:1<=ls/\ls<=1000) :
 j0L fa fb fc ρ=.ok ((List.range (nb most ls)).map λ(t:Nat)=>D.int (1+(t:Int)*most)):=by
 have ok:q4h 1 (ls+1) most=true:=by
  unfold q4h
  simp only [Bool.and_eq_true,decide_eq_true_eq]
  refine ⟨⟨⟨⟨⟨⟨?_,?_⟩,?_⟩,?_⟩,?_⟩,?_⟩,?_⟩<;>omega
 have sz:(Builtin.Range.rangeSize 1 (ls+1) most).toNat=nb most ls:=by
  unfold Builtin.Range.rangeSize nb
  rw [if_pos (by omega),if_pos (by omega),show ls+1-1-1=ls-1 by omega]
 rw [j0L,ha,Out.ok_bind,hb,Out.ok_bind,hc,Out.ok_bind]
 show (if q4h 1 (ls+1) most=true then Out.ok (rgS 1 most _) else .bad)=_
 rw [if_pos ok,sz]
 rfl
theorem q8w (os:Sl) (most n:Int) (o:Str×Int×Int):∀(ts:List Nat) (row:List D) (x y:Sl),row.length+ts.length<=900000->∃x' y',q18 (q0G (q2E 5) q8y) (ts.map λ(t:Nat)=>D.int (1+(t:Int)*most)) [os,.sh (.int most),.ow row,.sh (.int n),.sh (ord o),x,y] =
 .nx [os,.sh (.int most),.ow (row++(ts.map (j52 most n o.2.1)).map bat),.sh (.int n),.sh (ord o),x',y']
 | [],row,x,y,_=>⟨x,y,by simp [q13]⟩
 | t::ts,row,x,y,hl=>by
  have hr:row.length < 1000000:=by simp at hl;omega
  obtain ⟨x',y',e⟩:=q8w os most n o ts (row++[bat (j52 most n o.2.1 t)]) (.sh (.int (1+(t:Int)*most))) (.sh (.int (o.2.1-(1+(t:Int)*most)+1))) (by simp at hl ⊢; omega)
  refine ⟨x',y',?_⟩
  have bm:=q94 n (1+(t:Int)*most) (if o.2.1-(1+(t:Int)*most)+1 < most then o.2.1-(1+(t:Int)*most)+1 else most)
  rw [List.map_cons,q2t (ρ':=[os,.sh (.int most),.ow (row++[bat (j52 most n o.2.1 t)]),.sh (.int n),.sh (ord o),.sh (.int (1+(t:Int)*most)),.sh (.int (o.2.1-(1+(t:Int)*most)+1))]),e]
  ·simp
  ·generalize hF:1+(t:Int)*most=f at *
   simp [q0G,q8y,j2D,ord,List.lookup,bm,hr,bat,j52,hF]
theorem j68 {is:List Nat} {f:Ro->Fl} {ρ ρ':Ro} {d:D} (h:q7N is ρ d=.ok ρ'):q0G (q7N is) f ρ d=f ρ':=by
 rw [q0G,h]
theorem q5J (os:Sl) (most:Int) (hm:1<=most/\most<=1000):∀(ol:List (Str×Int×Int)) (n:Int) (row:List D) (p q x y:Sl),(∀o∈ol,1<=o.2.1/\o.2.1<=60)->row.length+60*ol.length<=900000->∃p' q' x' y',q18 (q0G (q7N [3,4]) q9e) (q6x n (ol.map ord)) [os,.sh (.int most),.ow row,p,q,x,y] =
 .nx [os,.sh (.int most),.ow (row++(q2H most n (ol.map (·.2.1))).map bat),p',q',x',y']
 | [],n,row,p,q,x,y,_,_=>⟨p,q,x,y,by simp [q13,q6x,q2H]⟩
 | o::ol,n,row,p,q,x,y,ho,hl=>by
  have h1:=ho o (by simp)
  have hn:=j30 hm.1 h1.1 h1.2
  obtain ⟨x1,y1,e1⟩:=q8w os most n o (List.range (nb most o.2.1)) row x y (by simp at hl ⊢; omega)
  obtain ⟨p',q',x',y',e2⟩:=q5J os most hm ol (n+1) (row++(j6Z most n o.2.1).map bat) (.sh (.int n)) (.sh (ord o)) x1 y1 (λz hz=>ho z (by simp [hz])) (by simp [q36] at hl ⊢; omega)
  refine ⟨p',q',x',y',?_⟩
  rw [List.map_cons,q6x,q2t (ρ':=[os,.sh (.int most),.ow (row++(j6Z most n o.2.1).map bat),.sh (.int n),.sh (ord o),x1,y1]),e2]
  ·simp [q2H]
  ·rw [j68 (ρ':=[os,.sh (.int most),.ow row,.sh (.int n),.sh (ord o),x,y]) (by simp [q8p]),q9e,q1w (j3z (ls:=o.2.1) (most:=most) ?_ ?_ ?_ hm ⟨h1.1,by omega⟩),e1]
   ·rfl
   ·simp
   ·simp [ord,List.lookup]
   ·simp
theorem q66 (most:Int) (hm:1<=most/\most<=1000) (ol:List (Str×Int×Int)) (ho:∀o∈ol,1<=o.2.1/\o.2.1<=60) (hl:ol.length<=1000):j5Q [.sh (.lst (ol.map ord)),.sh (.int most)]=.ok (.fr ((q2H most 1 (ol.map (·.2.1))).map bat)):=by
 obtain ⟨p',q',x',y',e⟩:=q5J (.sh (.lst (ol.map ord))) most hm ol 1 [] .no .no .no .no ho (by simp;omega)
 have k:q5Z [.sh (.lst (ol.map ord)),.sh (.int most),.ow [],.no,.no,.no,.no]=.rt (.fr ((q2H most 1 (ol.map (·.2.1))).map bat)):=by
  rw [q5Z,q1w (ds:=q6x 1 (ol.map ord)) (by simp),e]
  simp [j2e]
 generalize hG:q5Z=G at *
 simp [j5Q,j2A,k,hG]
theorem q46 (n h b bb:D) (rs:List (Int×Int×Int)) (hr:rs≠[]) (hl:rs.length<=3):F_7 [.sh (.ins 18 [n,h,b,.tup (rs.map ovn),bb])]=.ok (.sh (.int (q0R true (rs.map (·.1))))):=by
 have mp:∀ρ:Ro,q6b (λd=>q37 [(19,0)] (q0f 0) (q1t [] ρ d)) (rs.map ovn)=some ((rs.map (·.1)).map D.int):=by
  intro ρ
  rw [List.map_map]
  exact q2M rs λx _=>by simp [q1t,ovn,List.lookup]
 have mx:=q6p (is:=rs.map (·.1)) (by simpa using hr)
 have lz:(rs.map ovn).length<=1000000:=by simp;omega
 simp only [q37,q0f] at mp
 generalize rs.map ovn=oo at *
 generalize (rs.map (·.1)).map D.int=zz at *
 simp [F_7,j6H,mp,mx,lz]
theorem j6Y (d n:Int) (h:0<=d/\d<=n):F_8 [.sh (.int d),.sh (.int n)]=.ok (.sh .non):=by
 simp [F_8,q9S,h.1,h.2]
noncomputable abbrev bkr (n h b:Int) (rs:List (Int×Int×Int)) (bs:List (Str×List D)):D:=.ins 18 [.int n,.int h,.int b,.tup (rs.map ovn),.tup (bs.map brd)]
theorem j6P {i:Int} (h:-1000000<=i/\i<=1000000):i.natAbs.log2 < 1920:=q1f (by
 have:(1000000:Nat) < 2 ^ 200:=by decide
 omega)
theorem q2O {α:Type} {body:Ro->D->Fl} (g:α->D) (p:α->Bool) (S:Ro->Prop) (R:Ro->Fl) (hR:∀ρ d ds ρ',body ρ d=R ρ'->q18 body (d::ds) ρ=R ρ'):∀(l:List α),(∀a∈l,∀ρ,S ρ->∃ρ',S ρ'/\body ρ (g a)=if p a then R ρ' else .nx ρ')->∀ρ,S ρ->∃ρ',S ρ'/\q18 body (l.map g) ρ=if l.any p then R ρ' else .nx ρ'
 | [],_,ρ,h=>⟨ρ,h,by rw [List.map_nil,q13];rfl⟩
 | a::l,hb,ρ,h=>by
  obtain ⟨ρ1,h1,e1⟩:=hb a (by simp) ρ h
  rw [List.map_cons,List.any_cons]
  cases q:p a with
  | true=>
   rw [q,if_pos rfl] at e1
   exact ⟨ρ1,h1,by rw [hR _ _ _ _ e1,Bool.true_or,if_pos rfl]⟩
  | false=>
   rw [q,if_neg (by simp)] at e1
   obtain ⟨ρ2,h2,e2⟩:=q2O g p S R hR l (λb q=>hb b (by simp [q])) ρ1 h1
   exact ⟨ρ2,h2,by rw [q2t e1,e2,Bool.false_or]⟩
noncomputable abbrev Ask:=Nat×Int×Int
noncomputable def q0A (a:Ask):D:=.tup [.int a.1,.int a.2.1,.int a.2.2]
noncomputable def q0V (zs:List Str) (a:Ask):Str×Int×Int:=(zs.getD a.1 "",a.2.1,a.2.2)
structure PA (zs:List Str) (a:Ask):Prop where
 k:a.1 < zs.length
 lv:1<=a.2.1/\a.2.1<=60
 du:a.2.2.natAbs.log2 < 1920
structure Wn (n:Int) (zs:List Str) (rs:List Int):Prop where
 n1:1<=n/\n<=720
 l1:2<=zs.length/\zs.length<=9
 nd:zs.Nodup
 wd:∀z∈zs,Wd 12 z
 ne:rs≠[]
 len:rs.length<=3
 room:∀r∈rs,1<=r/\r<=30
noncomputable def kb (z:Str):Str×List D:=(z,[.ins 22 [.str "a",.int 1,.int 9,.str "oven",.int 99]])
noncomputable def r9 (r:Int):Int×Int×Int:=(r,9,9)
noncomputable abbrev bk (n:Int) (zs:List Str) (rs:List Int):D:=bkr n 1 1 (rs.map r9) (zs.dropLast.map kb)
theorem w1Y (rs:List Int):(rs.map r9).map (·.1)=rs:=by
 rw [List.map_map]
 show rs.map (λr=>r)=rs
 exact List.map_id' rs
theorem w0n (zs:List Str):(zs.map kb).map (·.1)=zs:=by
 rw [List.map_map]
 show zs.map (λr=>r)=zs
 exact List.map_id' zs
theorem Wn.most {n:Int} {zs:List Str} {rs:List Int} (W:Wn n zs rs):1<=q0R true rs/\q0R true rs<=30:=W.room _ (q8e W.ne).1
noncomputable def noK (zs:List Str) (a:Ask):Bool:=decide (a.1=zs.length-1)
noncomputable def noD (n:Int) (a:Ask):Bool:=decide (a.2.2 < 0∨n < a.2.2)
noncomputable def q1C (n:Int) (zs:List Str) (rs:List Int) (as:List Ask):Nat:=
 if 12 < as.length then 1 else if as.any (noK zs) then 2 else if as.any (noD n) then 3 else if 24 < (q2H (q0R true rs) 1 (as.map (·.2.1))).length then 4 else 0
theorem q4Q (n:Int) (zs:List Str) (rs:List Int) (as:List Ask):q1C n zs rs as<=4:=by
 unfold q1C
 repeat' split
 all_goals omega
@[simp] noncomputable def j4F:Nat->Nat
 | 1=>4
 | 2=>6
 | 3=>7
 | _=>8
theorem j44 {n:Int} {zs:List Str} {rs:List Int} (W:Wn n zs rs) {a:Ask} (p:PA zs a):q0V zs a∈[q0V zs a]/\(q0V zs a).1∈zs/\Tz 1000 (q0V zs a).1:=by
 have e:(q0V zs a).1=zs[a.1]'p.k:=by
  show zs.getD a.1 "" = _
  rw [List.getD_eq_getElem?_getD,List.getElem?_eq_getElem p.k];rfl
 have m:(q0V zs a).1∈zs:=by rw [e];exact List.getElem_mem _
 exact ⟨by simp,m,(W.wd _ m).tz.mono (by decide)⟩
theorem j5U {n:Int} {zs:List Str} {rs:List Int} (W:Wn n zs rs) {a:Ask} (p:PA zs a):(q0V zs a).1∈(zs.dropLast.map kb).map (·.1)↔noK zs a=false:=by
 have e:(q0V zs a).1=zs[a.1]'p.k:=by
  show zs.getD a.1 "" = _
  rw [List.getD_eq_getElem?_getD,List.getElem?_eq_getElem p.k];rfl
 have l1:=W.l1
 rw [w0n,e]
 unfold noK
 rw [decide_eq_false_iff_not]
 constructor
 ·intro h z
  obtain ⟨i,hi,q⟩:=List.getElem_of_mem h
  rw [List.getElem_dropLast] at q
  rw [List.length_dropLast] at hi
  exact List.pairwise_iff_getElem.mp W.nd i a.1 (by omega) p.k (by omega) q
 ·intro h
  have hk:=p.k
  have:a.1 < zs.dropLast.length:=by rw [List.length_dropLast];omega
  have q:zs.dropLast[a.1]=zs[a.1]'p.k:=List.getElem_dropLast this
  rw [<-q];exact List.getElem_mem _
noncomputable def j4D (k:Nat):Out Rv:=if k=0 then .ok (.sh .non) else .exc (j4F k)
theorem j6B (d n:Int) (hd:d.natAbs.log2 < 1920) (hn:n.natAbs.log2 < 1920) (h:d < 0∨n < d) (h0:0<=n):F_8 [.sh (.int d),.sh (.int n)]=.exc 7:=by
 have l1:Str.length "minute "<=200000:=by decide
 have l2:Str.length " does not lie from 0 to "<=200000:=by decide
 by_cases h1:0<=d
 ·have h2:¬d<=n:=by omega
  simp [F_8,q9S,j4a,h1,h2,hd,hn,l1,l2]
 ·simp [F_8,q9S,j4a,h1,hd,hn,l1,l2]
section
variable {n:Int} {zs:List Str} {rs:List Int}
theorem q8V (W:Wn n zs rs) (w y x:Sl) (a:Ask) (p:PA zs a):q0G (q2E 2) q6E [.sh (bk n zs rs),w,x,y] (ord (q0V zs a))=if noK zs a then .exc 6 [.sh (bk n zs rs),w,.sh (ord (q0V zs a)),y] else .nx [.sh (bk n zs rs),w,.sh (ord (q0V zs a)),y]:=by
 have bo:=bread_of (.int n) (.int 1) (.int 1) ((rs.map r9).map ovn) (zs.dropLast.map kb) (q0V zs a).1 (j44 W p).2.2
 have hm:=j5U W p
 generalize q0V zs a=o at *
 cases q:noK zs a with
 | false=>
  obtain ⟨bb,hb,eb⟩:=List.mem_map.mp (hm.mpr q)
  obtain ⟨b2,fd⟩:∃b2,(zs.dropLast.map kb).find? (λb=>decide (b.1=o.1))=some b2:=by
   cases q:(zs.dropLast.map kb).find? (λb=>decide (b.1=o.1)) with
   | some b2=>exact ⟨b2,rfl⟩
   | none=>
    rw [List.find?_eq_none] at q
    exact absurd (by simpa using eb) (q bb hb)
  rw [fd] at bo
  unfold bk bkr
  generalize (rs.map r9).map ovn=oo at *
  generalize (zs.dropLast.map kb).map brd=bb at *
  simp [q0G,q6E,ord,List.lookup,bo]
 | true=>
  have fd:(zs.dropLast.map kb).find? (λb=>decide (b.1=o.1))=none:=by
   rw [List.find?_eq_none]
   exact λb hb z=>by
    have:=hm.mp (List.mem_map.mpr ⟨b,hb,by simpa using z⟩)
    rw [q] at this;cases this
  rw [fd] at bo
  unfold bk bkr
  generalize (rs.map r9).map ovn=oo at *
  generalize (zs.dropLast.map kb).map brd=bb at *
  simp [q0G,q6E,ord,List.lookup,bo]
theorem j0p (W:Wn n zs rs) (w y x:Sl) (a:Ask) (p:PA zs a):q0G (q2E 2) q6G [.sh (bk n zs rs),w,x,y] (ord (q0V zs a))=if noD n a then .exc 7 [.sh (bk n zs rs),w,.sh (ord (q0V zs a)),y] else .nx [.sh (bk n zs rs),w,.sh (ord (q0V zs a)),y]:=by
 have n1:=W.n1
 unfold bk bkr noD
 generalize zs.getD a.1 "" = z at *
 by_cases hh:a.2.2 < 0∨n < a.2.2
 ·have d:=j6B a.2.2 n p.du (j6P (by omega)) hh (by omega)
  generalize (rs.map r9).map ovn=oo at *
  generalize (zs.dropLast.map kb).map brd=bb at *
  simp [q0G,q6G,ord,q0V,List.lookup,d,hh]
 ·have d:=j6Y a.2.2 n (by omega)
  generalize (rs.map r9).map ovn=oo at *
  generalize (zs.dropLast.map kb).map brd=bb at *
  simp [q0G,q6G,ord,q0V,List.lookup,d,hh]
theorem q28 (W:Wn n zs rs) (as:List Ask) (ha:∀a∈as,PA zs a) (hl:as.length<=20):F_9 [.sh (bk n zs rs),.sh (.lst (as.map λa=>ord (q0V zs a)))]=j4D (q1C n zs rs as):=by
 have ln:(as.map λa=>ord (q0V zs a)).length=as.length:=by simp
 have n1:=W.n1
 have m1:=W.most
 have c1:=chkc ((as.map λa=>ord (q0V zs a)).length:Int) 0 12 (small2 (by rw [ln];omega)) (by decide) (by decide)
 rw [ln] at c1
 unfold q1C
 by_cases h2:12 < as.length
 ·rw [if_pos h2]
  rw [if_neg (by omega),<-ln] at c1
  generalize (as.map λa=>ord (q0V zs a))=ll at *
  generalize bk n zs rs=bb at *
  simp [F_9,j0A,c1,j4D]
 rw [if_neg h2]
 rw [if_pos ⟨by omega,by omega⟩,<-ln] at c1
 have start:∀{r:Fl} {e:Nat},q65 [.sh (bk n zs rs),.sh (.lst (as.map λa=>ord (q0V zs a))),.no,.no]=r->(∃ρ,r=.exc e ρ)->F_9 [.sh (bk n zs rs),.sh (.lst (as.map λa=>ord (q0V zs a)))]=.exc e:=λ{r e} h ⟨ρ,hr⟩=>by
  rw [hr] at h
  generalize (as.map λa=>ord (q0V zs a))=ll at *
  generalize bk n zs rs=bb at *
  generalize hG:q65=G at *
  simp [F_9,j0A,c1,hG,h]
 obtain ⟨ρ1,⟨x1,rfl⟩,e1⟩:=q2O (body:=q0G (q2E 2) q6E) (λa=>ord (q0V zs a)) (noK zs) (fun ρ=>∃x,ρ=[.sh (bk n zs rs),.sh (.lst (as.map λa=>ord (q0V zs a))),x,.no]) (.exc 6) (fun ρ d ds ρ' h=>q33 h) as (λa q ρ ⟨x,er⟩=>by
  subst er
  exact ⟨_,⟨_,rfl⟩,q8V W _ _ _ a (ha a q)⟩) _ ⟨.no,rfl⟩
 have e0:q65 [.sh (bk n zs rs),.sh (.lst (as.map λa=>ord (q0V zs a))),.no,.no]=(q18 (q0G (q2E 2) q6E) (as.map λa=>ord (q0V zs a)) [.sh (bk n zs rs),.sh (.lst (as.map λa=>ord (q0V zs a))),.no,.no]).bind q9n:=by
  rw [q65,q1w (ds:=as.map λa=>ord (q0V zs a)) (by rfl)]
 cases q1:as.any (noK zs) with
 | true=>
  rw [q1,if_pos rfl] at e1
  rw [e1] at e0
  rw [if_pos rfl,start e0 ⟨_,rfl⟩]
  rfl
 | false=>
 rw [q1,if_neg (by simp)] at e1
 rw [e1,Fl.nx_bind] at e0
 rw [if_neg (by simp)]
 obtain ⟨ρ2,⟨x2,rfl⟩,e2⟩:=q2O (body:=q0G (q2E 2) q6G) (λa=>ord (q0V zs a)) (noD n) (fun ρ=>∃x,ρ=[.sh (bk n zs rs),.sh (.lst (as.map λa=>ord (q0V zs a))),x,.no]) (.exc 7) (fun ρ d ds ρ' h=>q33 h) as (λa q ρ ⟨x,er⟩=>by
  subst er
  exact ⟨_,⟨_,rfl⟩,j0p W _ _ _ a (ha a q)⟩) _ ⟨x1,rfl⟩
 have e6:q9n [.sh (bk n zs rs),.sh (.lst (as.map λa=>ord (q0V zs a))),x1,.no]=(q18 (q0G (q2E 2) q6G) (as.map λa=>ord (q0V zs a)) [.sh (bk n zs rs),.sh (.lst (as.map λa=>ord (q0V zs a))),x1,.no]).bind q9h:=by
  rw [q9n,q1w (ds:=as.map λa=>ord (q0V zs a)) (by rfl)]
 cases q2:as.any (noD n) with
 | true=>
  rw [q2,if_pos rfl] at e2
  rw [e2] at e6
  rw [if_pos rfl,start (e0.trans e6) ⟨_,rfl⟩]
  rfl
 | false=>
 rw [q2,if_neg (by simp)] at e2
 rw [e2,Fl.nx_bind] at e6
 rw [if_neg (by simp)]
 have gr:=q46 (.int n) (.int 1) (.int 1) (.tup ((zs.dropLast.map kb).map brd)) (rs.map r9) (by simpa using W.ne) (by simpa using W.len)
 rw [w1Y] at gr
 have lv:∀o∈as.map (q0V zs),1<=o.2.1/\o.2.1<=60:=λo ho=>by
  obtain ⟨a,h,rfl⟩:=List.mem_map.mp ho
  exact (ha a h).lv
 have bt:=q66 (q0R true rs) ⟨m1.1,by omega⟩ (as.map (q0V zs)) lv (by simp;omega)
 rw [List.map_map,List.map_map] at bt
 have bt:j5Q [.sh (.lst (as.map λa=>ord (q0V zs a))),.sh (.int (q0R true rs))]=.ok (.fr ((q2H (q0R true rs) 1 (as.map (·.2.1))).map bat)):=bt
 have bl:=q6g (q0R true rs) m1.1 (as.map (·.2.1)) 1 (λl hl=>by
  obtain ⟨x,hx,rfl⟩:=List.mem_map.mp hl
  exact (ha x hx).lv)
 have lb:((q2H (q0R true rs) 1 (as.map (·.2.1))).map bat).length=(q2H (q0R true rs) 1 (as.map (·.2.1))).length:=by simp
 have sml:((q2H (q0R true rs) 1 (as.map (·.2.1))).length:Int).natAbs.log2 < 1920:=j6P (by
  rw [List.length_map] at bl
  omega)
 have l1:Str.length " batches, not at most "<=200000:=by decide
 have m24:Nat.log2 24 < 1920:=by decide
 have k5:q9h [.sh (bk n zs rs),.sh (.lst (as.map λa=>ord (q0V zs a))),x2,.no]=if 24 < (q2H (q0R true rs) 1 (as.map (·.2.1))).length then .exc 8 [.sh (bk n zs rs),.sh (.lst (as.map λa=>ord (q0V zs a))),x2,.sh (.int (q2H (q0R true rs) 1 (as.map (·.2.1))).length)] else .nx [.sh (bk n zs rs),.sh (.lst (as.map λa=>ord (q0V zs a))),x2,.sh (.int (q2H (q0R true rs) 1 (as.map (·.2.1))).length)]:=by
  unfold bk bkr
  clear e0 e1 e2 e6 c1 start bl lv
  generalize (q2H (q0R true rs) 1 (as.map (·.2.1))).map bat=BB at *
  generalize hN:(q2H (q0R true rs) 1 (as.map (·.2.1))).length=N at *
  generalize q0R true rs=M at *
  generalize (rs.map r9).map ovn=oo at *
  generalize (zs.dropLast.map kb).map brd=bb at *
  generalize (as.map λa=>ord (q0V zs a))=ll at *
  have sml':N.log2 < 1920:=sml
  by_cases h5:24 < N
  ·have few':(24:Int) < (N:Int):=by omega
   simp [q9h,j23,j4O,gr,bt,lb,few',h5,l1,m24,sml']
  ·have few':¬(24:Int) < (N:Int):=by omega
   simp [q9h,j23,gr,bt,lb,few',h5]
 by_cases h5:24 < (q2H (q0R true rs) 1 (as.map (·.2.1))).length
 ·rw [if_pos h5] at k5 ⊢
  exact start ((e0.trans e6).trans k5) ⟨_,rfl⟩
 ·rw [if_neg h5] at k5 ⊢
  have k7:=(e0.trans e6).trans k5
  generalize (as.map λa=>ord (q0V zs a))=ll at *
  generalize bk n zs rs=bb at *
  generalize hG:q65=G at *
  simp [F_9,j0A,c1,k7,hG,j4D]
end
section
variable {B:D} {L:List D} {e:Nat} {p:D}
theorem j8O (h:F_9 [.sh B,.sh (.lst L)]=.exc e):j4v [.sh B,.sh (.lst L)]=.exc e:=by simp [j4v,j0X,h]
theorem j93 (h:F_9 [.sh B,.sh (.lst L)]=.exc e):j4x [.sh B,.sh (.lst L),.sh p]=.exc e:=by simp [j4x,j07,j8O h]
theorem j9f (h:F_9 [.sh B,.sh (.lst L)]=.exc e):j3j [.sh B,.sh (.lst L),.sh p]=.exc e:=by simp [j3j,j2S,j2C,q3P,j93 h]
theorem j95 (h:F_9 [.sh B,.sh (.lst L)]=.exc e):j6M [.sh B,.sh (.lst L)]=.exc e:=by simp [j6M,j2h,j8O h]
theorem w1x (h:F_9 [.sh B,.sh (.lst L)]=.exc e):j3P [.sh B,.sh (.lst L)]=.exc e:=by simp [j3P,j1r,j1o,j1y,q3P,j95 h]
theorem j9t (h:F_9 [.sh B,.sh (.lst L)]=.exc e) (hL:L.length<=20) (w:Nat) (hw:w<=12):q39 [.sh B,.sh (.lst L),.sh (.int w)]=.exc e:=by
 have hL':L.length<=1000000:=by omega
 have hL2:(L.length:Int)<=1000000:=by omega
 have c:=j8O h
 have f:=λp=>j93 (p:=p) h
 have q:=λp=>j9f (p:=p) h
 have nr:=j95 h
 have al:=w1x h
 have:w=0∨w=1∨w=2∨w=3∨w=4∨w=5∨w=6∨w=7∨w=8∨w=9∨w=10∨w=11∨w=12:=by omega
 rcases this with rfl | rfl | rfl | rfl | rfl | rfl | rfl | rfl | rfl | rfl | rfl | rfl | rfl
 ·simp [q39,q0X,j1h,c]
 ·simp [q39,q0X,q00,j2B,j9p,j1D,q]
 ·simp [q39,q0X,q00,q02,j1T,j9N,j0V,j2z,q3P,f,hL2]
 ·simp [q39,q0X,q00,q02,q1d,j2t,j8V,j1x,q]
 ·simp [q39,q0X,q00,q02,q1d,q1q,j2I,j9e,j12,f]
 ·simp [q39,q0X,q00,q02,q1d,q1q,q1x,j0Y,j82,j1S,q]
 ·simp [q39,q0X,q00,q02,q1d,q1q,q1x,q1D,j1O,j9C,j2w,nr]
 ·simp [q39,q0X,q00,q02,q1d,q1q,q1x,q1D,q1R,j09,j9u,j1Q,al]
 ·simp [q39,q0X,q00,q02,q1d,q1q,q1x,q1D,q1R,q2d,j0T,j8l,j2G,al]
 ·simp [q39,q0X,q00,q02,q1d,q1q,q1x,q1D,q1R,q2d,q2p,q76,j9G,j1N,al]
 ·simp [q39,q0X,q00,q02,q1d,q1q,q1x,q1D,q1R,q2d,q2p,q2U,q7o,j9c,j1B,j8U,j1s,al]
 ·simp [q39,q0X,q00,q02,q1d,q1q,q1x,q1D,q1R,q2d,q2p,q2U,q32,q7H,j8s,j2P,q]
 ·simp [q39,q0X,q00,q02,q1d,q1q,q1x,q1D,q1R,q2d,q2p,q2U,q32,q5b,h]
theorem j8f (h:F_9 [.sh B,.sh (.lst L)]=.ok (.sh .non)):q39 [.sh B,.sh (.lst L),.sh (.int 12)]=.ok (.sh .non):=by
 simp [q39,q0X,q00,q02,q1d,q1q,q1x,q1D,q1R,q2d,q2p,q2U,q32,q5b,h]
theorem j8C {k:Nat} (h:F_9 [.sh B,.sh (.lst L)]=j4D k) (hk:k<=4) (hL:L.length<=20) (w:Nat) (hw:w=12∨(w<=12/\k≠0)):q9k [.sh B,.sh (.lst L),.sh (.int w)]=.ok (.sh (.int k)):=by
 by_cases k0:k=0
 ·subst k0
  have:w=12:=by omega
  subst this
  have c:=j8f (h.trans (by rfl))
  simp [q9k,q8i,q7y,j2E,c]
 ·have c:=j9t (h.trans (by unfold j4D;rw [if_neg k0])) hL w (by omega)
  have:k=1∨k=2∨k=3∨k=4:=by omega
  rcases this with rfl | rfl | rfl | rfl<;>simp [q9k,q8i,j1R,j2q,j17,j2s,q7y,c,List.lookup]
end
theorem j5n {most l:Int} (h:1<=most) (h1:1<=l):(l+most-1) / most=(nb most l:Int):=by
 unfold nb
 rw [show l+most-1=(l-1)+1*most by omega,Int.add_mul_ediv_right _ _ (by omega)]
 have:0<=(l-1) / most:=Int.ediv_nonneg (by omega) (by omega)
 omega
theorem q72 {most:Int}:∀ls:List Int,isum (ls.map λl=>(nb most l:Int))=((ls.map (nb most)).sum:Int)
 | []=>rfl
 | l::ls=>by
  rw [List.map_cons,isum,q72 ls,List.map_cons,List.sum_cons]
  push_cast
  rfl
theorem q3R (most:Int):∀(ls:List Int) (n:Int),(q2H most n ls).length=(ls.map (nb most)).sum
 | [],_=>rfl
 | l::ls,n=>by rw [q2H,List.length_append,q36,q3R most ls,List.map_cons,List.sum_cons]
section
variable {n:Int} {zs:List Str} {rs:List Int}
theorem j5u (zs:List Str) (as:List Ask):decide (((zs.length-1:Nat):Int)∈as.map λa=>(a.1:Int))=as.any (noK zs):=by
 rw [Bool.eq_iff_iff]
 simp only [decide_eq_true_eq,List.mem_map,List.any_eq_true]
 unfold noK
 constructor
 ·rintro ⟨a,h,e⟩
  exact ⟨a,h,by rw [decide_eq_true_eq];omega⟩
 ·rintro ⟨a,h,e⟩
  rw [decide_eq_true_eq] at e
  exact ⟨a,h,by omega⟩
theorem q8b (W:Wn n zs rs) (as:List Ask) (ha:∀a∈as,PA zs a) (hl:as.length<=20):j7Z [.sh (.lst (as.map q0A)),.sh (.int n),.sh (.int (zs.length-1:Nat)),.sh (.int (q0R true rs))]=.ok (.sh (.int (q1C n zs rs as))):=by
 have n1:=W.n1
 have m1:=W.most
 have ll:(as.map q0A).length=as.length:=by simp
 refine q8q _ rfl ?_
 show q2V [.sh (.lst (as.map q0A)),.sh (.int n),.sh (.int (zs.length-1:Nat)),.sh (.int (q0R true rs)),.no]=_
 have kz:=j5u zs as
 unfold q1C
 generalize hM:q0R true rs=most at *
 generalize ((zs.length-1:Nat):Int)=kk at *
 by_cases h1:12 < as.length
 ·have h1':(12:Int) < as.length:=by omega
  rw [if_pos h1]
  generalize as.map q0A=oo at *
  simp [q2V,j2Q,ll,h1']
 rw [if_neg h1]
 have h1':¬(12:Int) < as.length:=by omega
 have e0:q2V [.sh (.lst (as.map q0A)),.sh (.int n),.sh (.int kk),.sh (.int most),.no]=q6v [.sh (.lst (as.map q0A)),.sh (.int n),.sh (.int kk),.sh (.int most),.no]:=by
  generalize hG:q6v=G at *
  generalize as.map q0A=oo at *
  simp [q2V,ll,h1',hG]
 rw [e0]
 have c:tB2 (inD false) (q0f 2) (q1l (q0L (q15 (q0f 0)) [] (eIx (q0f 0) (eI 0)))) [.sh (.lst (as.map q0A)),.sh (.int n),.sh (.int kk),.sh (.int most),.no]=.ok (as.any (noK zs)):=by
  have fc:q0L (q15 (q0f 0)) [] (eIx (q0f 0) (eI 0)) [.sh (.lst (as.map q0A)),.sh (.int n),.sh (.int kk),.sh (.int most),.no]=.ok ((as.map λa=>(a.1:Int)).map D.int):=by
   rw [List.map_map]
   refine q1j (g:=q0A) rfl (by omega) λa _=>?_
   simp [q1t,q0A,q2x]
  have iz:=q9Q false kk (as.map λa=>(a.1:Int))
  rw [if_neg (by simp),kz] at iz
  rw [tB2,e2,q1l,fc]
  show Out.bind (inD false (.int kk) (.lst _)) _=_
  rw [iz];rfl
 rw [q6v,sIf,c,Out.ok_fl]
 cases as.any (noK zs) with
 | true=>rw [if_pos rfl,if_pos rfl,j2b];rfl
 | false=>
 rw [if_neg (by simp),if_neg (by simp),Fl.nx_bind]
 obtain ⟨ρ1,⟨x1,rfl⟩,e1⟩:=q2O (body:=q0G (q2E 4) q4H) q0A (noD n) (fun ρ=>∃x,ρ=[.sh (.lst (as.map q0A)),.sh (.int n),.sh (.int kk),.sh (.int most),x]) (λ_=>.rt (.sh (.int 3))) (fun ρ d ds ρ' h=>q7t h) as (λa q ρ ⟨x,er⟩=>by
  subst er
  refine ⟨_,⟨.sh (q0A a),rfl⟩,?_⟩
  unfold noD
  generalize as.map q0A=oo at *
  by_cases hh:a.2.2 < 0
  ·simp [q0G,q4H,q5P,q0A,q2y,hh]
  ·by_cases h2:n < a.2.2
   ·simp [q0G,q4H,q5P,q0A,q2y,hh,h2]
   ·simp [q0G,q4H,q5P,q0A,q2y,hh,h2]) _ ⟨.no,rfl⟩
 rw [j02,q1w (ds:=as.map q0A) rfl,e1]
 cases as.any (noD n) with
 | true=>rw [if_pos rfl,if_pos rfl];rfl
 | false=>
 rw [if_neg (by simp),if_neg (by simp),Fl.nx_bind]
 have fc:q0L (q15 (q0f 0)) [3] (q2P (q9V (q1z (eIx (q0f 0) (eI 1)) (q0f 1)) (eI 1)) (q0f 1)) [.sh (.lst (as.map q0A)),.sh (.int n),.sh (.int kk),.sh (.int most),x1]=.ok (((as.map (·.2.1)).map λl=>(nb most l:Int)).map D.int):=by
  rw [List.map_map,List.map_map]
  refine q1j (g:=q0A) rfl (by omega) λx hx=>?_
  have dd:=j5n m1.1 (ha x hx).lv.1
  have p1:0 < most:=by omega
  have p2:most < 1073741824:=by omega
  simp [q1t,q6t,q0A,q12,p1,p2,dd]
 have sm:=q7F (is:=(as.map (·.2.1)).map λl=>(nb most l:Int)) (by simp;omega) (λi hi=>by
  obtain ⟨l,hl,rfl⟩:=List.mem_map.mp hi
  obtain ⟨x,hx,rfl⟩:=List.mem_map.mp hl
  have:=j30 m1.1 (ha x hx).lv.1 (ha x hx).lv.2
  omega)
 rw [q72,<-q3R most _ 1] at sm
 have es:eCB q9l (q0q (q1l (q0L (q15 (q0f 0)) [3] (q2P (q9V (q1z (eIx (q0f 0) (eI 1)) (q0f 1)) (eI 1)) (q0f 1)))) q0K) [.sh (.lst (as.map q0A)),.sh (.int n),.sh (.int kk),.sh (.int most),x1]=.ok (.int ((q2H most 1 (as.map (·.2.1))).length:Nat)):=by
  rw [eCB,q0q,q1l,fc,Out.ok_bind,Out.ok_bind,q0K,Out.ok_bind,Out.ok_bind]
  exact sm
 rw [j1q]
 generalize hS:eCB q9l _=S at *
 generalize (q2H most 1 (as.map (·.2.1))).length=N at *
 by_cases h5:24 < N
 ·have h5':(24:Int) < (N:Int):=by omega
  simp [es,h5,h5',j1j]
 ·have h5':¬(24:Int) < (N:Int):=by omega
  simp [es,h5,h5',j2v]
theorem j4p (as:List Ask) (ha:∀a∈as,PA zs a) (hl:as.length<=20):j8F [.sh (.lst (as.map λa=>ord (q0V zs a))),.sh (.lst (as.map q0A)),.sh (.lst (zs.map D.str))]=.ok (.sh (.bl true)):=by
 have ll:(as.map q0A).length=as.length:=by simp
 have l2:(as.map λa=>ord (q0V zs a)).length=as.length:=by simp
 refine q8q _ rfl ?_
 show q8n [.sh (.lst (as.map λa=>ord (q0V zs a))),.sh (.lst (as.map q0A)),.sh (.lst (zs.map D.str)),.no,.no]=_
 obtain ⟨ρ',e,x,y,rfl⟩:=j9b (body:=q0G (q2E 3) q7B) (λj ρ=>∃x y,ρ=[.sh (.lst (as.map λa=>ord (q0V zs a))),.sh (.lst (as.map q0A)),.sh (.lst (zs.map D.str)),x,y]) as.length (λj ρ hj ⟨x,y,er⟩=>by
  subst er
  have p:=ha as[j] (List.getElem_mem _)
  have a1:atI (as.map q0A) (j:Int)=some (q0A as[j]):=q0Y (by simp [hj])
  have a2:atI (as.map λa=>ord (q0V zs a)) (j:Int)=some (.ins 16 [.str (zs.getD as[j].1 ""),.int as[j].2.1,.int as[j].2.2]):=q0Y (by simp [hj,ord,q0V])
  have a3:atI (zs.map D.str) ((as[j].1:Nat):Int)=some (.str (zs.getD as[j].1 "")):=q0Y (by
   rw [List.getElem?_map,List.getElem?_eq_getElem p.k,List.getD_eq_getElem?_getD,List.getElem?_eq_getElem p.k];rfl)
  refine ⟨[.sh (.lst (as.map λa=>ord (q0V zs a))),.sh (.lst (as.map q0A)),.sh (.lst (zs.map D.str)),.sh (.int j),.sh (q0A as[j])],?_,_,_,rfl⟩
  have i1:=is_ as[j].2.1 as[j].2.1
  have i2:=is_ as[j].2.2 as[j].2.2
  generalize zs.getD as[j].1 "" = z at *
  generalize as[j]=a at *
  generalize (as.map λa=>ord (q0V zs a))=oo at *
  generalize as.map q0A=tt at *
  generalize zs.map D.str=zz at *
  simp [q0G,q7B,j1n,j15,q0A,a1,a2,a3,q2x,q12,q2y,List.lookup,i1,i2]) ⟨.no,.no,rfl⟩
 have e5:q6k [.sh (.lst (as.map λa=>ord (q0V zs a))),.sh (.lst (as.map q0A)),.sh (.lst (zs.map D.str)),.no,.no]=.rt (.sh (.bl true)):=by
  rw [q6k,q1w (ds:=rgD 0 as.length) (q2S (by rw [<-ll];generalize as.map q0A=oo at *; simp) (by omega)),e,Fl.nx_bind,j1I]
  rfl
 generalize hG:q6k=G at *
 generalize (as.map λa=>ord (q0V zs a))=oo at *
 generalize as.map q0A=tt at *
 simp [q8n,ll,l2,hG,e5]
end
section
variable {n:Int} {zs:List Str} {rs:List Int}
theorem q9X (p q:List Ask) (h:q1C n zs rs (p++q)=0):q1C n zs rs p=0:=by
 unfold q1C at h ⊢
 by_cases h1:12 < (p++q).length
 ·rw [if_pos h1] at h;cases h
 rw [if_neg h1] at h
 rw [if_neg (by rw [List.length_append] at h1;omega)]
 rw [List.any_append,List.any_append] at h
 cases q1:p.any (noK zs) with
 | true=>rw [q1,Bool.true_or,if_pos rfl] at h;cases h
 | false=>
 rw [q1,Bool.false_or] at h
 rw [if_neg (by simp)]
 cases q3:q.any (noK zs) with
 | true=>rw [q3,if_pos rfl] at h;cases h
 | false=>
 rw [q3,if_neg (by simp)] at h
 cases q2:p.any (noD n) with
 | true=>rw [q2,Bool.true_or,if_pos rfl] at h;cases h
 | false=>
 rw [q2,Bool.false_or] at h
 rw [if_neg (by simp)]
 cases q4:q.any (noD n) with
 | true=>rw [q4,if_pos rfl] at h;cases h
 | false=>
 rw [q4,if_neg (by simp)] at h
 rw [q3R] at h ⊢
 rw [List.map_append,List.map_append,List.sum_append] at h
 by_cases h5:24 < (((p.map (·.2.1)).map (nb (q0R true rs))).sum)
 ·rw [if_pos (by omega)] at h;cases h
 ·rw [if_neg h5]
noncomputable abbrev ords (zs:List Str) (as:List Ask):List D:=as.map λa=>ord (q0V zs a)
theorem j4k (W:Wn n zs rs) (pre:List Ask) (a:Ask) (ha:∀x∈pre++[a],PA zs x) (hl:pre.length<=15) (ks:List D) :
 j6l [bk n zs rs,.lst (ords zs pre)] ks [.sh (.str (zs.getD a.1 "")),.sh (.int a.2.1),.sh (.int a.2.2)]=if q1C n zs rs (pre++[a])=0 then .ok (.int (pre.length+1:Nat)) [bk n zs rs,.lst (ords zs (pre++[a]))] [] else .exc (j4F (q1C n zs rs (pre++[a]))) [bk n zs rs,.lst (ords zs pre)] []:=by
 have pa:=ha a (by simp)
 have ac:=q28 W (pre++[a]) ha (by simp;omega)
 have om:=q5F (zs.getD a.1 "") a.2.1 a.2.2 (j6P (by have:=pa.lv;omega))
 rw [if_pos pa.lv] at om
 have ln:(ords zs pre).length=pre.length:=by simp
 have h12:(ords zs pre).length<=999999:=by omega
 have h13:pre.length<=999999:=by omega
 unfold ords at *
 rw [List.map_append,show ([a]:List Ask).map (λa=>ord (q0V zs a))=[ord (q0V zs a)] from rfl] at ac ⊢
 have eo:ord (q0V zs a)=.ins 16 [.str (zs.getD a.1 ""),.int a.2.1,.int a.2.2]:=rfl
 rw [eo] at ac ⊢
 generalize zs.getD a.1 "" = z at *
 generalize bk n zs rs=bb at *
 generalize (pre.map λa=>ord (q0V zs a))=oo at *
 generalize q1C n zs rs (pre++[a])=k at *
 unfold j4D at ac
 by_cases k0:k=0
 ·rw [if_pos k0] at ac ⊢
  simp [j6l,q8t,q8m,j16,j06,om,h13,ln,ac]
 ·rw [if_neg k0] at ac ⊢
  generalize j4F k=e at *
  simp [j6l,q8t,q8m,om,h12,ac]
theorem q5M (W:Wn n zs rs) (b t:Sl):∀(q pre:List Ask) (x y z:Sl),(∀a∈pre++q,PA zs a)->(pre++q).length<=15->q1C n zs rs (pre++q.dropLast)=0->∃x' y' z' ρ',q18 (q0G (q7N [5,6,7]) q2C) (q.map q0A) [.me 24 [bk n zs rs,.lst (ords zs pre)],b,t,.sh (.lst (zs.map D.str)),.sh (.int pre.length),x,y,z] =
 if q1C n zs rs (pre++q)=0 then .nx [.me 24 [bk n zs rs,.lst (ords zs (pre++q))],b,t,.sh (.lst (zs.map D.str)),.sh (.int (pre++q).length),x',y',z'] else .exc (j4F (q1C n zs rs (pre++q))) ρ'
 | [],pre,x,y,z,_,_,h0=>⟨x,y,z,[],by
  rw [List.append_nil]
  have h0:q1C n zs rs (pre++[])=0:=h0
  rw [List.append_nil] at h0
  rw [if_pos h0,List.map_nil,q13]⟩
 | a::q,pre,x,y,z,ha,hl,h0=>by
  have la:=hl
  rw [List.length_append,List.length_cons] at la
  have pa:=ha a (by simp)
  have p1:=j4k W pre a (λx hx=>ha x (by
   rcases List.mem_append.mp hx with hx | hx
   ·exact List.mem_append_left _ hx
   ·rw [List.mem_singleton.mp hx];simp)) (by omega) []
  have un:q7N [5,6,7] [.me 24 [bk n zs rs,.lst (ords zs pre)],b,t,.sh (.lst (zs.map D.str)),.sh (.int pre.length),x,y,z] (q0A a)=.ok [.me 24 [bk n zs rs,.lst (ords zs pre)],b,t,.sh (.lst (zs.map D.str)),.sh (.int pre.length),.sh (.int a.1),.sh (.int a.2.1),.sh (.int a.2.2)]:=rfl
  have a3:atI (zs.map D.str) ((a.1:Nat):Int)=some (.str (zs.getD a.1 "")):=q0Y (by
   rw [List.getElem?_map,List.getElem?_eq_getElem pa.k,List.getD_eq_getElem?_getD,List.getElem?_eq_getElem pa.k];rfl)
  have st:=j68 (f:=q2C) un
  have eq:pre++a::q=(pre++[a])++q:=by simp
  rw [List.map_cons]
  by_cases k0:q1C n zs rs (pre++[a])=0
  ·rw [if_pos k0] at p1
   have st2:q2C [.me 24 [bk n zs rs,.lst (ords zs pre)],b,t,.sh (.lst (zs.map D.str)),.sh (.int pre.length),.sh (.int a.1),.sh (.int a.2.1),.sh (.int a.2.2)]=.nx [.me 24 [bk n zs rs,.lst (ords zs (pre++[a]))],b,t,.sh (.lst (zs.map D.str)),.sh (.int (pre++[a]).length),.sh (.int a.1),.sh (.int a.2.1),.sh (.int a.2.2)]:=by
    have ln:(pre++[a]).length=pre.length+1:=by simp
    rw [ln]
    generalize ords zs (pre++[a])=o2 at *
    generalize ords zs pre=oo at *
    generalize bk n zs rs=bb at *
    generalize zs.getD a.1 "" = w at *
    generalize zs.map D.str=zz at *
    simp [q2C,j4w,a3,p1]
   obtain ⟨x',y',z',ρ',e⟩:=q5M W b t q (pre++[a]) (.sh (.int a.1)) (.sh (.int a.2.1)) (.sh (.int a.2.2)) (by rw [<-eq];exact ha) (by rw [<-eq];exact hl) (by
    cases q with
    | nil=>rw [List.dropLast_nil,List.append_nil];exact k0
    | cons c q=>rw [List.dropLast_cons₂] at h0;rw [List.append_assoc];exact h0)
   rw [<-eq] at e
   exact ⟨x',y',z',ρ',by rw [q2t (st.trans st2),e]⟩
  ·rw [if_neg k0] at p1
   have qn:q=[]:=by
    cases q with
    | nil=>rfl
    | cons c q=>
     rw [List.dropLast_cons₂] at h0
     exact absurd (q9X (pre++[a]) (q:=(c::q).dropLast) (by rw [List.append_assoc];exact h0)) k0
   subst qn
   have st2:q2C [.me 24 [bk n zs rs,.lst (ords zs pre)],b,t,.sh (.lst (zs.map D.str)),.sh (.int pre.length),.sh (.int a.1),.sh (.int a.2.1),.sh (.int a.2.2)]=.exc (j4F (q1C n zs rs (pre++[a]))) [.me 24 [bk n zs rs,.lst (ords zs pre)],b,t,.sh (.lst (zs.map D.str)),.sh (.int pre.length),.sh (.int a.1),.sh (.int a.2.1),.sh (.int a.2.2)]:=by
    generalize j4F (q1C n zs rs (pre++[a]))=e at *
    generalize ords zs pre=oo at *
    generalize bk n zs rs=bb at *
    generalize zs.getD a.1 "" = w at *
    generalize zs.map D.str=zz at *
    simp [q2C,j4w,a3,p1]
   exact ⟨x,y,z,_,(q33 (st.trans st2)).trans (if_neg k0).symm⟩
theorem j3t (W:Wn n zs rs) (as:List Ask) (ha:∀a∈as,PA zs a) (hl:as.length<=15) (h0:q1C n zs rs as.dropLast=0):j8G [.sh (bk n zs rs),.sh (.lst (as.map q0A)),.sh (.lst (zs.map D.str))]=.ok (.sh (.int (q1C n zs rs as))):=by
 have hk:=q4Q n zs rs as
 have ll:(as.map q0A).length=as.length:=by simp
 obtain ⟨x,y,z,ρ',e⟩:=q5M W (.sh (bk n zs rs)) (.sh (.lst (as.map q0A))) as [] .no .no .no (by simpa using ha) (by simpa using hl) (by simpa using h0)
 rw [List.nil_append] at e
 have e3:q6r [.me 24 [bk n zs rs,.lst []],.sh (bk n zs rs),.sh (.lst (as.map q0A)),.sh (.lst (zs.map D.str)),.sh (.int 0),.no,.no,.no]=q18 (q0G (q7N [5,6,7]) q2C) (as.map q0A) [.me 24 [bk n zs rs,.lst []],.sh (bk n zs rs),.sh (.lst (as.map q0A)),.sh (.lst (zs.map D.str)),.sh (.int 0),.no,.no,.no]:=by
  rw [q6r,q1w (ds:=as.map q0A) rfl]
 have e2:=e3.trans e
 clear e e3
 refine q8q _ rfl ?_
 show q3Z [.no,.sh (bk n zs rs),.sh (.lst (as.map q0A)),.sh (.lst (zs.map D.str)),.no,.no,.no,.no]=_
 have i1:=is_ (as.length:Int) (as.length:Int)
 generalize ords zs as=o2 at *
 generalize bk n zs rs=bb at *
 generalize zs.map D.str=zz at *
 generalize as.map q0A=tt at *
 generalize hG:q6r=G at *
 generalize q1C n zs rs as=k at *
 by_cases k0:k=0
 ·rw [if_pos k0] at e2
  subst k0
  simp [q3Z,j7N,q7Q,q9a,q8B,q7z,hG,e2,j1X,ll,i1,q12]
 ·rw [if_neg k0] at e2
  have:k=1∨k=2∨k=3∨k=4:=by omega
  rcases this with rfl | rfl | rfl | rfl<;>simp [q3Z,j7N,q7Q,q9a,q8B,q7z,hG,e2,j1w,j2L,j13,j1d,List.lookup]
end
theorem j0h {ds:List D} {k:Nat} (h:k < ds.length) (d:D):j5G ds (k:Int) d=some (ds.set k d):=by
 unfold j5G ixN
 simp [h]
structure PW (K:Nat) (a:Ask):Prop where
 k:a.1<=K
 lv:1<=a.2.1/\a.2.1<=60
 du:a.2.2.natAbs.log2 < 1920
noncomputable abbrev ws (nn:List D) (n m K:Int) (as:List Ask) (x5 x6 x7 x8 x9 x10:Sl):Ro:=[.sh (.lst nn),.sh (.int n),.sh (.int m),.sh (.int K),.ow (as.map q0A),x5,x6,x7,x8,x9,x10]
theorem q5V:∀is:List Int,(∀i∈is,0<=i)->0<=isum is
 | [],_=>by decide
 | i::is,h=>by
  have:=q5V is λj q=>h j (by simp [q])
  have:=h i (by simp)
  show 0<=i+isum is
  omega
theorem w4 (nn:List D) (n m:Int) (K:Nat) (as:List Ask) (c d l:Int) (x5 x6 x10:Sl) (hK:1<=K/\K<=8) (hl:l<=60) (hd:d.natAbs.log2 < 1920) (hlen:as.length < 1000) :
 ∃a,PW K a/\q3y (ws nn n m K as x5 x6 (.sh (.int c)) (.sh (.int d)) (.sh (.int l)) x10)=.nx (ws nn n m K (as++[a]) x5 x6 (.sh (.int c)) (.sh (.int d)) (.sh (.int l)) x10):=by
 have h1:(as.map q0A).length < 1000000:=by simp;omega
 have k0:0 < (K:Int):=by omega
 have e1:(((c / 5 % (K:Int)).toNat:Nat):Int)=c / 5 % (K:Int):=Int.toNat_of_nonneg (Int.emod_nonneg _ (by omega))
 have e2:c / 5 % (K:Int) < K:=Int.emod_lt_of_pos _ k0
 refine ⟨((c / 5 % (K:Int)).toNat,(if l > 1 then l else 1),d),⟨by show (c / 5 % (K:Int)).toNat<=K;omega,by show 1<=(if l > 1 then l else 1)/\(if l > 1 then l else 1)<=60;split<;>omega,hd⟩,?_⟩
 unfold ws
 rw [List.map_append]
 simp only [List.map_cons,List.map_nil,q0A]
 rw [e1]
 generalize (as.map λa:Ask=>_)=tt at *
 generalize (K:Int)=kk at *
 simp [q3y,h1,k0]
theorem w5 (nn:List D) (n:Int) (j m K:Nat) (as:List Ask) (c v0 l:Int) (x6 x8 x10:Sl) (p0:q1M [.sh (.lst nn),.sh (.int 0)]=.ok (.sh (.int v0))) (ha:∀a∈as,PW K a) (hl:l<=60) (hlen:as.length < 1000) :
 ∃l',l'<=60/\q3j (ws nn n m K as (.sh (.int j)) x6 (.sh (.int c)) x8 (.sh (.int l)) x10)=q3y (ws nn n m K as (.sh (.int j)) x6 (.sh (.int c)) x8 (.sh (.int l')) x10):=by
 by_cases h:v0 % 3=2
 ·obtain ⟨l1,h1,el⟩:∃l1,l1<=60/\atI [D.int (1+c / 3 % 2),D.int (24+v0 / 3 % 2)] (if (j:Int)=(m:Int)-1 then 1 else 0)=some (.int l1):=by
   by_cases q:(j:Int)=(m:Int)-1
   ·rw [if_pos q];exact ⟨_,by omega,q12 _ _ _⟩
   ·rw [if_neg q];exact ⟨_,by omega,q2x _ _⟩
  have sm:=q7F (is:=as.map (·.2.1)) (by simp;omega) (λi hi=>by
   obtain ⟨a,q,rfl⟩:=List.mem_map.mp hi
   have:=(ha a q).lv
   omega)
  have sp:=q5V (as.map (·.2.1)) (λi hi=>by
   obtain ⟨a,q,rfl⟩:=List.mem_map.mp hi
   have:=(ha a q).lv
   omega)
  have fc:∀a b c d e f g h i j:Sl,q0L (j6k 4) [] (eIx (q0f 0) (eI 1)) [a,b,c,d,.sh (.lst (as.map q0A)),e,f,g,h,i,j]=.ok ((as.map (·.2.1)).map D.int):=λa b c d e f g h i j=>by
   rw [List.map_map]
   exact q1j (g:=q0A) rfl (by omega) λa _=>by simp [q1t,q0A,q12]
  obtain ⟨b,hb,eb⟩:∃b:Int,(b=0∨b=1)/\(if (j:Int)=(m:Int)-1 then (1:Int) else 0)=b:=⟨_,by split<;>simp,rfl⟩
  have mo:q2u (isum (as.map (·.2.1))) b=true:=by
   unfold q2u
   rcases hb with rfl | rfl<;>simp
  refine ⟨l1-isum (as.map (·.2.1))*b,by rcases hb with rfl | rfl<;>omega,?_⟩
  have es:∀a b c d e f g h i j:Sl,eCB q9l (q0q (q1l (q0L (j6k 4) [] (eIx (q0f 0) (eI 1)))) q0K) [a,b,c,d,.sh (.lst (as.map q0A)),e,f,g,h,i,j]=.ok (.int (isum (as.map (·.2.1)))):=λa b c d e f g h i j=>by
   rw [eCB,q0q,q1l,fc,Out.ok_bind,Out.ok_bind,q0K,Out.ok_bind,Out.ok_bind]
   exact sm
  clear fc sm
  rw [eb] at el
  generalize isum (as.map (·.2.1))=S at *
  unfold ws
  generalize as.map q0A=tt at *
  generalize (m:Int)=mm at *
  generalize (j:Int)=jj at *
  have k2:q5r [.sh (.lst nn),.sh (.int n),.sh (.int mm),.sh (.int K),.ow tt,.sh (.int jj),x6,.sh (.int c),x8,.sh (.int l1),x10]=.nx [.sh (.lst nn),.sh (.int n),.sh (.int mm),.sh (.int K),.ow tt,.sh (.int jj),x6,.sh (.int c),x8,.sh (.int (l1-S*b)),x10]:=by
   rw [q5r]
   generalize eCB q9l _=SS at *
   simp [es,eb,mo,nl]
  generalize hG:q3y=G at *
  generalize hH:q5r=H at *
  simp [q3j,j1g,p0,h,eb,el,hH,k2,hG]
 ·refine ⟨l,hl,?_⟩
  unfold ws
  generalize as.map q0A=tt at *
  generalize (m:Int)=mm at *
  generalize (j:Int)=jj at *
  generalize hG:q3y=G at *
  simp [q3j,p0,h,hG]
theorem w9 (nn:List D) (n:Int) (j m K:Nat) (as:List Ask) (c v0:Int) (x5 x6 x7 x8 x9 x10:Sl) (hn:1<=n/\n<=720) (p0:q1M [.sh (.lst nn),.sh (.int 0)]=.ok (.sh (.int v0))) (pc:q5i [.sh (.lst nn),.sh (.int (8+(j:Int)))]=.ok (.sh (.int c))) (hK:1<=K/\K<=8) (ha:∀a∈as,PW K a) (hlen:as.length < 1000) :
 ∃a y7 y8 y9,PW K a/\q0G (q2E 5) q5D (ws nn n m K as x5 x6 x7 x8 x9 x10) (.int j)=.nx (ws nn n m K (as++[a]) (.sh (.int j)) x6 y7 y8 y9 x10):=by
 obtain ⟨d,ed,hd⟩:=pick4 (c / 4 % (n+1)) 0 n (c / 4 % (n+1)) c
 have hd:0<=d/\d<=n:=by
  have h1:=Int.emod_nonneg (c / 4) (b:=n+1) (by omega)
  have h2:=Int.emod_lt_of_pos (c / 4) (b:=n+1) (by omega)
  rcases hd with rfl | rfl | rfl | rfl<;>omega
 obtain ⟨l0,e0,h0⟩:∃l0,l0<=60/\q4z (ws nn n m K as (.sh (.int j)) x6 (.sh (.int c)) (.sh (.int d)) (.sh (.int (1+c / 3 % 6))) x10)=q3j (ws nn n m K as (.sh (.int j)) x6 (.sh (.int c)) (.sh (.int d)) (.sh (.int l0)) x10):=by
  by_cases h:v0 % 3=1
  ·refine ⟨1+c / 3 % 60,by omega,?_⟩
   unfold ws
   generalize as.map q0A=tt at *
   generalize hG:q3j=G at *
   simp [q4z,j0R,p0,h,hG]
  ·refine ⟨1+c / 3 % 6,by omega,?_⟩
   unfold ws
   generalize as.map q0A=tt at *
   generalize hG:q3j=G at *
   simp [q4z,p0,h,hG]
 obtain ⟨l,h1,e1⟩:=w5 nn n j m K as c v0 l0 x6 (.sh (.int d)) x10 p0 ha e0 hlen
 obtain ⟨a,pa,e2⟩:=w4 nn n m K as c d l (.sh (.int j)) x6 x10 hK h1 (j6P (by omega)) hlen
 refine ⟨a,.sh (.int c),.sh (.int d),.sh (.int l),pa,?_⟩
 have e3:=(h0.trans e1).trans e2
 clear h0 e1 e2
 unfold ws at e3 ⊢
 have n1:0 < n+1:=by omega
 generalize (as++[a]).map q0A=t2 at *
 generalize as.map q0A=tt at *
 generalize (m:Int)=mm at *
 generalize (j:Int)=jj at *
 generalize (K:Int)=kk at *
 generalize hG:q4z=G at *
 simp [q0G,q5D,j0P,j1W,pc,ed,n1,hG,e3]
noncomputable def pk (ns:List Int) (k:Nat):Int:=if ns.length=0 then (k:Int) else ns.getD (k % ns.length) 0+7*((k / ns.length:Nat):Int)
theorem j9V (ns:List Int) (hn:ns.length<=63) (k:Nat) (hk:k<=100000):q5i [.sh (.lst (ns.map D.int)),.sh (.int k)]=.ok (.sh (.int (pk ns k))):=by
 unfold pk
 have lm:(ns.map D.int).length=ns.length:=by simp
 by_cases h:ns.length=0
 ·rw [if_pos h]
  generalize ns.map D.int=nn at *
  have h2:nn.length=0:=by omega
  simp [q5i,q8I,j0O,h2]
 ·rw [if_neg h]
  have lt:k % ns.length < ns.length:=Nat.mod_lt _ (by omega)
  have e:atI (ns.map D.int) ((k:Int) % (ns.length:Int))=some (.int (ns.getD (k % ns.length) 0)):=by
   rw [show (k:Int) % (ns.length:Int)=((k % ns.length:Nat):Int) from rfl]
   refine q0Y ?_
   rw [List.getElem?_map,List.getElem?_eq_getElem lt,List.getD_eq_getElem?_getD,List.getElem?_eq_getElem lt]
   rfl
  have mo:q2u 7 ((k:Int) / (ns.length:Int))=true:=by
   unfold q2u
   simp only [Bool.or_eq_true,Bool.and_eq_true,decide_eq_true_eq]
   left;constructor<;>decide
  generalize ns.getD (k % ns.length) 0=v at *
  generalize ns.map D.int=nn at *
  have h2:¬nn.length=0:=by omega
  have h3:0 < (nn.length:Int):=by omega
  have h3':0 < nn.length:=by omega
  have h4:nn.length < 1073741824:=by omega
  have h5:(nn.length:Int) < 1073741824:=by omega
  rw [<-lm] at e mo ⊢
  rw [<-lm] at lt
  simp [q5i,q8I,j1u,h2,h3,h3',h4,h5,e,mo]
section
variable {nn:List D} {n:Int} {k m K:Nat} {as:List Ask}
theorem j2o {i:Nat} {a:Ask} (ha:∀a∈as,PW K a) (h:PW K a):∀x∈as.set i a,PW K x:=λx hx=>by
 rcases List.mem_or_eq_of_mem_set hx with hx | rfl
 ·exact ha x hx
 ·exact h
theorem j64 (as:List Ask) {i:Nat} (hi:i < as.length) (a:Ask):(ixN (as.map q0A).length (i:Int)).map (λj=>(as.map q0A).set j (.tup [.int a.1,.int a.2.1,.int a.2.2]))=some ((as.set i a).map q0A):=by
 have:=j0h (ds:=as.map q0A) (k:=i) (by simpa using hi) (q0A a)
 rw [List.map_set,<-this]
 rfl
theorem w0m (as:List Ask) {i:Nat} (hi:i < as.length):atI (as.map q0A) (i:Int)=some (.tup [.int as[i].1,.int as[i].2.1,.int as[i].2.2]):=q0Y (by simp [hi,q0A])
theorem place (m:Nat) (h:0 < m) (c:Int):∃i:Nat,i < m/\c % (m:Int)=(i:Int):=⟨(c % (m:Int)).toNat,by
 have h1:=Int.emod_nonneg c (b:=(m:Int)) (by omega)
 have h2:=Int.emod_lt_of_pos c (b:=(m:Int)) (by omega)
 exact ⟨by omega,(Int.toNat_of_nonneg h1).symm⟩⟩
theorem w10 (hl:as.length=m) (ha:∀a∈as,PW K a) (i:Nat) (hi:i < m) (x5 x6 x7 x8 x9:Sl) :
 ∃as',as'.length=m/\(∀a∈as',PW K a)/\q3E (ws nn n m K as x5 x6 x7 x8 x9 (.sh (.int i)))=.nx (ws nn n m K as' x5 x6 x7 x8 x9 (.sh (.int i))):=by
 have p:=ha as[i] (List.getElem_mem _)
 refine ⟨as.set i (K,as[i].2.1,as[i].2.2),by simpa using hl,j2o ha ⟨Nat.le_refl _,p.lv,p.du⟩,?_⟩
 have a1:=w0m as (i:=i) (by omega)
 have s1:=j64 as (i:=i) (by omega) (K,as[i].2.1,as[i].2.2)
 simp only at s1
 unfold ws
 generalize (as.set i (K,as[i].2.1,as[i].2.2)).map q0A=t2 at *
 generalize as[i]=a at *
 generalize as.map q0A=tt at *
 simp [q3E,a1,s1,q12,q2y]
theorem w12 (hl:as.length=m) (ha:∀a∈as,PW K a) (i:Nat) (hi:i < m) (d:Int) (hd:d.natAbs.log2 < 1920) (x5 x6 x7 x9:Sl) :
 ∃as',as'.length=m/\(∀a∈as',PW K a)/\q3W (ws nn n m K as x5 x6 x7 (.sh (.int d)) x9 (.sh (.int i)))=.nx (ws nn n m K as' x5 x6 x7 (.sh (.int d)) x9 (.sh (.int i))):=by
 have p:=ha as[i] (List.getElem_mem _)
 refine ⟨as.set i (as[i].1,as[i].2.1,d),by simpa using hl,j2o ha ⟨p.k,p.lv,hd⟩,?_⟩
 have a1:=w0m as (i:=i) (by omega)
 have s1:=j64 as (i:=i) (by omega) (as[i].1,as[i].2.1,d)
 simp only at s1
 unfold ws
 generalize (as.set i (as[i].1,as[i].2.1,d)).map q0A=t2 at *
 generalize as[i]=a at *
 generalize as.map q0A=tt at *
 simp [q3W,a1,s1,q2x,q12]
theorem w16 (hl:as.length=m) (ha:∀a∈as,PW K a) (hn:1<=n/\n<=720) (mo c23 c26:Int) (p23:q5i [.sh (.lst nn),.sh (.int (23+(k:Int)))]=.ok (.sh (.int c23))) (p26:q5i [.sh (.lst nn),.sh (.int (26+(k:Int)))]=.ok (.sh (.int c26))) (x7 x8 x9 x10:Sl) :
 ∃as' y7 y8 y10,as'.length=m/\(∀a∈as',PW K a)/\q2b (ws nn n m K as (.sh (.int k)) (.sh (.int mo)) x7 x8 x9 x10)=.nx (ws nn n m K as' (.sh (.int k)) (.sh (.int mo)) y7 y8 x9 y10):=by
 by_cases h:0 < m/\mo / 2 % 2=1
 ·obtain ⟨i,hi,ei⟩:=place m h.1 c26
  obtain ⟨d,ed,hd⟩:=pick3 (n+1) (n+1+c23 / 6 % 1000000000000000000000000000000) (-1-c23 / 6 % 99) c23
  have hd:d.natAbs.log2 < 1920:=q1f (by
   have:(2000000000000000000000000000000:Nat) < 2 ^ 200:=by decide
   have h1:=Int.emod_nonneg (c23 / 6) (b:=1000000000000000000000000000000) (by decide)
   have h2:=Int.emod_lt_of_pos (c23 / 6) (b:=1000000000000000000000000000000) (by decide)
   have h3:=Int.emod_nonneg (c23 / 6) (b:=99) (by decide)
   have h4:=Int.emod_lt_of_pos (c23 / 6) (b:=99) (by decide)
   rcases hd with rfl | rfl | rfl<;>omega)
  obtain ⟨as',h1,h2,e⟩:=w12 (nn:=nn) (n:=n) hl ha i hi d hd (.sh (.int k)) (.sh (.int mo)) (.sh (.int c23)) x9
  refine ⟨as',.sh (.int c23),.sh (.int d),.sh (.int i),h1,h2,?_⟩
  have m0:0 < (m:Int):=by omega
  have h2:=h.2
  unfold ws at *
  generalize as'.map q0A=t2 at *
  generalize as.map q0A=tt at *
  generalize hm:(m:Int)=mm at *
  generalize (i:Int)=ii at *
  generalize hG:q3W=G at *
  have m1:=h.1
  simp [q2b,q8h,q7G,q85,m0,h2,p23,p26,ed,ei,hG,e]
 ·refine ⟨as,x7,x8,x10,hl,ha,?_⟩
  unfold ws
  by_cases m0:0 < m
  ·have h2:¬mo / 2 % 2=1:=λz=>h ⟨m0,z⟩
   have m0':0 < (m:Int):=by omega
   generalize as.map q0A=tt at *
   generalize hm:(m:Int)=mm at *
   simp [q2b,m0',h2]
  ·have m0':¬0 < (m:Int):=by omega
   generalize as.map q0A=tt at *
   generalize hm:(m:Int)=mm at *
   simp [q2b,m0']
theorem w17 (hl:as.length=m) (ha:∀a∈as,PW K a) (hn:1<=n/\n<=720) (mo c20 c23 c26:Int) (p20:q5i [.sh (.lst nn),.sh (.int (20+(k:Int)))]=.ok (.sh (.int c20))) (p23:q5i [.sh (.lst nn),.sh (.int (23+(k:Int)))]=.ok (.sh (.int c23))) (p26:q5i [.sh (.lst nn),.sh (.int (26+(k:Int)))]=.ok (.sh (.int c26))) (x5 x7 x8 x9 x10:Sl) :
 ∃as' y7 y8 y10,as'.length=m/\(∀a∈as',PW K a)/\q0G (q2E 5) q1T (ws nn n m K as x5 (.sh (.int mo)) x7 x8 x9 x10) (.int k)=.nx (ws nn n m K as' (.sh (.int k)) (.sh (.int mo)) y7 y8 x9 y10):=by
 have e0:q0G (q2E 5) q1T (ws nn n m K as x5 (.sh (.int mo)) x7 x8 x9 x10) (.int k)=q1T (ws nn n m K as (.sh (.int k)) (.sh (.int mo)) x7 x8 x9 x10):=rfl
 rw [e0]
 by_cases h:0 < m/\mo % 2=1
 ·obtain ⟨i,hi,ei⟩:=place m h.1 c20
  obtain ⟨as1,h1,h2,e1⟩:=w10 (nn:=nn) (n:=n) hl ha i hi (.sh (.int k)) (.sh (.int mo)) x7 x8 x9
  obtain ⟨as2,y7,y8,y10,h3,h4,e2⟩:=w16 (nn:=nn) h1 h2 hn mo c23 c26 p23 p26 x7 x8 x9 (.sh (.int i))
  refine ⟨as2,y7,y8,y10,h3,h4,?_⟩
  have m0:0 < (m:Int):=by omega
  have h2:=h.2
  unfold ws at *
  generalize as2.map q0A=t2 at *
  generalize as1.map q0A=t1 at *
  generalize as.map q0A=tt at *
  generalize hm:(m:Int)=mm at *
  generalize (i:Int)=ii at *
  generalize hG:q3E=G at *
  generalize hH:q2b=H at *
  simp [q1T,q7X,m0,h2,p20,ei,hG,e1,hH,e2]
 ·obtain ⟨as2,y7,y8,y10,h3,h4,e2⟩:=w16 (nn:=nn) hl ha hn mo c23 c26 p23 p26 x7 x8 x9 x10
  refine ⟨as2,y7,y8,y10,h3,h4,?_⟩
  unfold ws at *
  generalize as2.map q0A=t2 at *
  generalize hH:q2b=H at *
  by_cases m0:0 < m
  ·have h2:¬mo % 2=1:=λz=>h ⟨m0,z⟩
   have m0':0 < (m:Int):=by omega
   generalize as.map q0A=tt at *
   generalize hm:(m:Int)=mm at *
   simp [q1T,m0',h2,hH,e2]
  ·have m0':¬0 < (m:Int):=by omega
   generalize as.map q0A=tt at *
   generalize hm:(m:Int)=mm at *
   simp [q1T,m0',hH,e2]
end
theorem q7j (ns:List Int) (hn:ns.length<=63) (n:Int) (m K:Nat) (h1:1<=n/\n<=720) (hm:m<=14) (hK:1<=K/\K<=8):∃as:List Ask,as.length=m/\(∀a∈as,PW K a)/\j8E [.sh (.lst (ns.map D.int)),.sh (.int n),.sh (.int m),.sh (.int K)]=.ok (.fr (as.map q0A)):=by
 have p0:=at_ ns 0
 have p1:=at_ ns 1
 have pq:∀b k:Nat,b<=1000->k<=1000->q5i [.sh (.lst (ns.map D.int)),.sh (.int ((b:Int)+(k:Int)))]=.ok (.sh (.int (pk ns (b+k)))):=λb k h1 h2=>by
  have:=j9V ns hn (b+k) (by omega)
  rwa [Int.natCast_add] at this
 generalize ns.getD 0 0=v0 at *
 generalize ns.getD 1 0=v1 at *
 generalize ns.map D.int=nn at *
 obtain ⟨ρ1,e1,as1,x5,x7,x8,x9,l1,q1,rfl⟩:=j9b (body:=q0G (q2E 5) q5D) (λj ρ=>∃(as:List Ask) (x5 x7 x8 x9:Sl),as.length=j/\(∀a∈as,PW K a)/\ρ=ws nn n m K as x5 .no x7 x8 x9 .no) m (λj ρ hj ⟨as,x5,x7,x8,x9,l,q,er⟩=>by
  subst er
  obtain ⟨a,y7,y8,y9,pa,e⟩:=w9 nn n j m K as _ v0 x5 .no x7 x8 x9 .no h1 p0 (pq 8 j (by omega) (by omega)) hK q (by omega)
  exact ⟨_,e,as++[a],_,_,_,_,by simp [l],λx hx=>by
   rcases List.mem_append.mp hx with hx | hx
   ·exact q x hx
   ·rw [List.mem_singleton.mp hx];exact pa,rfl⟩) (ρ:=ws nn n m K [] .no .no .no .no .no .no) ⟨[],.no,.no,.no,.no,rfl,by simp,rfl⟩
 obtain ⟨t,et,ht⟩:∃t:Nat,1+v1 / 4 % 3=(t:Int)/\t<=3:=⟨(1+v1 / 4 % 3).toNat,by omega,by omega⟩
 obtain ⟨ρ2,e2,as2,y5,y7,y8,y10,l2,q2,rfl⟩:=j9b (body:=q0G (q2E 5) q1T) (λj ρ=>∃(as:List Ask) (y5 y7 y8 y10:Sl),as.length=m/\(∀a∈as,PW K a)/\ρ=ws nn n m K as y5 (.sh (.int v1)) y7 y8 x9 y10) t (λj ρ hj ⟨as,y5,y7,y8,y10,l,q,er⟩=>by
  subst er
  obtain ⟨as',z7,z8,z10,h3,h4,e⟩:=w17 (nn:=nn) (k:=j) l q h1 v1 _ _ _ (pq 20 j (by omega) (by omega)) (pq 23 j (by omega) (by omega)) (pq 26 j (by omega) (by omega)) y5 y7 y8 x9 y10
  exact ⟨_,e,as',_,_,_,_,h3,h4,rfl⟩) (ρ:=ws nn n m K as1 x5 (.sh (.int v1)) x7 x8 x9 .no) ⟨as1,x5,x7,x8,.no,l1,q1,rfl⟩
 refine ⟨as2,l2,q2,q8q _ rfl ?_⟩
 show q5l [.sh (.lst nn),.sh (.int n),.sh (.int m),.sh (.int K),.no,.no,.no,.no,.no,.no,.no]=_
 have k19:q31 (ws nn n m K as1 x5 (.sh (.int v1)) x7 x8 x9 .no)=.rt (.fr (as2.map q0A)):=by
  rw [q31,q1w (ds:=rgD 0 t) (q2S (by simp [et]) (by omega)),e2,Fl.nx_bind,q7w]
  rfl
 have k21:q5n (ws nn n m K [] .no .no .no .no .no .no)=.rt (.fr (as2.map q0A)):=by
  rw [q5n,q1w (ds:=rgD 0 m) (q2S rfl (by omega)),e1,Fl.nx_bind]
  unfold ws at *
  generalize as2.map q0A=t2 at *
  generalize as1.map q0A=t1 at *
  generalize hG:q31=G at *
  have p1':q1M [.sh (.lst nn),.sh (.int 1)]=.ok (.sh (.int v1)):=p1
  simp [q8P,p1',hG,k19]
 have k0:q5o 4 (fFr (q1a q0K)) [.sh (.lst nn),.sh (.int n),.sh (.int m),.sh (.int K),.no,.no,.no,.no,.no,.no,.no]=.nx (ws nn n m K [] .no .no .no .no .no .no):=rfl
 rw [q5l,k0,Fl.nx_bind]
 exact k21
theorem q7k (n:Nat):rgD 0 n=(List.range n).map λ(k:Nat)=>D.int (k:Int):=by
 unfold rgD
 exact List.map_congr_left λk _=>by rw [Int.zero_add]
noncomputable abbrev lw (nn:List D) (n K:Int) (zz:List D) (x4 x5 x6 x7 x8 x9 x10:Sl):Ro:=[.sh (.lst nn),.sh (.int n),.sh (.int K),.sh (.lst zz),x4,x5,x6,x7,x8,x9,x10]
theorem w1J:Wd 12 (Str.ofString "a"):=⟨⟨by decide +kernel,by decide +kernel⟩,by decide +kernel,by decide +kernel⟩
theorem j9j:wOk (Str.ofString "oven")=true:=by decide +kernel
section
variable {nn:List D} {n:Int} {K:Int} {zz:List D} {v0 v5 v6:Int}
theorem j0m (p0:q1M [.sh (.lst nn),.sh (.int 0)]=.ok (.sh (.int v0))) (p5:q1M [.sh (.lst nn),.sh (.int 5)]=.ok (.sh (.int v5))) :
 ∃rs:List Int,rs≠[]/\rs.length<=3/\(∀r∈rs,1<=r/\r<=30)/\q2R (lw nn n K zz .no .no .no .no .no .no .no)=q1N (lw nn n K zz (.sh (.lst (rs.map D.int))) .no .no .no .no .no .no):=by
 obtain ⟨t,et,ht⟩:∃t:Nat,1+v5 % 3=(t:Int)/\1<=t/\t<=3:=⟨(1+v5 % 3).toNat,by omega,by omega⟩
 have fc:q0L (q5d (n1 (q1z (eI 1) (q1H (rD (rC 2 q1M (gSh (q0f 0) (gSh (eI 5) gN0)))) (eI 3))))) [0] (q1z (eI 1) (q1H (q1z (q2P (rD (rC 2 q1M (gSh (q0f 1) (gSh (eI 5) gN0)))) (eI 3)) (j61 (eI 7) (q0f 0))) (eI 30))) (lw nn n K zz .no .no .no .no .no .no .no)=.ok (((List.range t).map λ(k:Nat)=>1+(v5 / 3+7*(k:Int)) % 30).map D.int):=by
  rw [List.map_map]
  refine q1j (g:=λ(k:Nat)=>D.int k) ?_ (by simp;omega) λk hk=>?_
  ·rw [q2S (n:=t) (by simp [p5,et]) (by omega),q7k]
  ·have mo:q2u 7 (k:Int)=true:=by unfold q2u;simp
   simp [q1t,q6t,p5,mo]
 have e17:q2R (lw nn n K zz .no .no .no .no .no .no .no)=q24 (lw nn n K zz (.sh (.lst (((List.range t).map λ(k:Nat)=>1+(v5 / 3+7*(k:Int)) % 30).map D.int))) .no .no .no .no .no .no):=by
  rw [q2R,q3F (v:=.lst (((List.range t).map λ(k:Nat)=>1+(v5 / 3+7*(k:Int)) % 30).map D.int)) (by rw [q1l,fc,Out.ok_bind]),Fl.nx_bind]
  rfl
 rw [e17]
 clear e17 fc
 by_cases h1:v0 % 3=1
 ·refine ⟨[1+v5 % 2],by simp,by simp,λr hr=>by rw [List.mem_singleton.mp hr];omega,?_⟩
  have h2:¬v0 % 3=2:=by omega
  unfold lw
  generalize hG:q1N=G
  generalize List.map D.int _=oo
  simp [q24,j1U,q3I,p0,p5,h1,hG]
 by_cases h2:v0 % 3=2
 ·refine ⟨List.replicate t 1,by intro z;have:=congrArg List.length z;simp at this;omega,by simp;omega,λr hr=>by rw [List.eq_of_mem_replicate hr];omega,?_⟩
  unfold lw
  generalize hR:((List.range t).map λ(k:Nat)=>1+(v5 / 3+7*(k:Int)) % 30).map D.int=oo
  have lo:oo.length=t:=by rw [<-hR];simp
  have lo1:(t:Int)<=1000000:=by omega
  have lo2:t<=1000000:=by omega
  generalize hG:q1N=G
  simp [q24,j2r,q3I,p0,h1,h2,hG,lo,lo1,lo2]
 ·refine ⟨(List.range t).map λ(k:Nat)=>1+(v5 / 3+7*(k:Int)) % 30,by intro z;have:=congrArg List.length z;simp at this;omega,by simp;omega,λr hr=>by
   obtain ⟨k,_,rfl⟩:=List.mem_map.mp hr
   omega,?_⟩
  unfold lw
  generalize hG:q1N=G
  generalize List.map D.int _=oo
  simp [q24,q3I,p0,h1,h2,hG]
theorem j4b (p6:q1M [.sh (.lst nn),.sh (.int 6)]=.ok (.sh (.int v6))) (x4:Sl):∃m:Nat,m<=14/\q1N (lw nn n K zz x4 .no .no .no .no .no .no)=q2m (lw nn n K zz x4 (.sh (.int m)) .no .no .no .no .no):=by
 obtain ⟨a,ea,ha⟩:∃a:Nat,(v6 / 9+1) % 13=(a:Int)/\a<=14:=⟨((v6 / 9+1) % 13).toNat,by omega,by omega⟩
 obtain ⟨b,eb,hb⟩:∃b:Nat,13+v6 / 9 % 2=(b:Int)/\b<=14:=⟨(13+v6 / 9 % 2).toNat,by omega,by omega⟩
 by_cases h:v6 % 9=4
 ·refine ⟨b,hb,?_⟩
  unfold lw
  generalize hG:q2m=G
  simp [q1N,p6,h,hG,q12,eb]
 ·refine ⟨a,ha,?_⟩
  unfold lw
  generalize hG:q2m=G
  simp [q1N,p6,h,hG,q2x,ea]
end
theorem q93 {α:Type} (l:List α):j4B l none (some (-1))=l.dropLast:=by
 unfold j4B
 have e:HT.sIx l.length l.length (some (-1))=l.length-1:=by
  show (if (-1:Int) < 0 then ((-1:Int)+(l.length:Int)).toNat else min (-1:Int).toNat l.length)=_
  rw [if_pos (by decide)]
  omega
 rw [e,List.dropLast_eq_take]
 rfl
section
variable {nn:List D} {n:Int} {zs:List Str} {rs:List Int}
theorem j5a (W:Wn n zs rs) (as:List Ask) (ha:∀a∈as,PA zs a) (hl:as.length<=14) (v7:Int) (p7:q1M [.sh (.lst nn),.sh (.int 7)]=.ok (.sh (.int v7))) (x5 x7:Sl) :
 q5k (lw nn n (zs.length-1:Nat) (zs.map D.str) (.sh (.lst (rs.map D.int))) x5 (.sh (.lst (as.map q0A))) x7 (.sh (bk n zs rs)) (.sh (.lst (ords zs as))) .no)=.rt (.sh (.bl true)):=by
 have d1:=q8b W as ha (by omega)
 have dm:∀a∈as.dropLast,PA zs a:=λa q=>ha a ((List.dropLast_sublist as).subset q)
 have d2:=q8b W as.dropLast dm (by rw [List.length_dropLast];omega)
 have mx:=q6p W.ne
 have oL:(ords zs as).length<=20:=by simp;omega
 have ac:=q28 W as ha (by omega)
 have r12:q9k [.sh (bk n zs rs),.sh (.lst (ords zs as)),.sh (.int 12)]=.ok (.sh (.int (q1C n zs rs as:Nat))):=j8C ac (q4Q _ _ _ _) oL 12 (.inl rfl)
 have dn:q1C n zs rs []=0:=by unfold q1C;simp [q2H]
 have rn:=q28 W [] (by simp) (by simp)
 rw [dn] at rn
 have rn:q9k [.sh (bk n zs rs),.sh (.lst []),.sh (.int 12)]=.ok (.sh (.int 0)):=j8C rn (by omega) (by simp) 12 (.inl rfl)
 have st:=j4p as ha (by omega)
 have cl:j4B (as.map q0A) none (some (-1))=as.dropLast.map q0A:=by rw [q93,List.map_dropLast]
 have is1:=is_ (q1C n zs rs as:Int) (q1C n zs rs as:Int)
 have is2:=is_ n n
 have is3:=is_ 0 0
 have k5:q4D (lw nn n (zs.length-1:Nat) (zs.map D.str) (.sh (.lst (rs.map D.int))) x5 (.sh (.lst (as.map q0A))) x7 (.sh (bk n zs rs)) (.sh (.lst (ords zs as))) (.sh (.int (q1C n zs rs as))))=.rt (.sh (.bl true)):=by
  by_cases h0:q1C n zs rs as.dropLast=0
  ·have lp:=j3t W as ha (by omega) h0
   rw [h0] at d2
   unfold lw
   clear ac st rn d1 r12
   generalize q1C n zs rs as=d at *
   generalize q0R true rs=mm at *
   generalize ords zs as=oo at *
   generalize bk n zs rs=bb at *
   generalize as.dropLast.map q0A=t2 at *
   generalize as.map q0A=tt at *
   generalize rs.map D.int=rr at *
   generalize zs.map D.str=zz at *
   generalize ((zs.length-1:Nat):Int)=kk at *
   simp [q4D,j1z,mx,cl,d2,lp,is1]
  ·have h0':¬((q1C n zs rs as.dropLast:Nat):Int)=0:=by omega
   clear ac st rn d1
   unfold lw
   generalize q1C n zs rs as.dropLast=e at *
   generalize q1C n zs rs as=d at *
   generalize q0R true rs=mm at *
   unfold ords at *
   generalize (as.map λa=>ord (q0V zs a))=oo at *
   generalize bk n zs rs=bb at *
   generalize as.dropLast.map q0A=t2 at *
   generalize as.map q0A=tt at *
   generalize rs.map D.int=rr at *
   generalize zs.map D.str=zz at *
   generalize ((zs.length-1:Nat):Int)=kk at *
   simp [q4D,j1E,mx,cl,d2,h0,is1,r12]
 have k8:q4A (lw nn n (zs.length-1:Nat) (zs.map D.str) (.sh (.lst (rs.map D.int))) x5 (.sh (.lst (as.map q0A))) x7 (.sh (bk n zs rs)) (.sh (.lst (ords zs as))) (.sh (.int (q1C n zs rs as))))=.rt (.sh (.bl true)):=by
  have k7:q4F (lw nn n (zs.length-1:Nat) (zs.map D.str) (.sh (.lst (rs.map D.int))) x5 (.sh (.lst (as.map q0A))) x7 (.sh (bk n zs rs)) (.sh (.lst (ords zs as))) (.sh (.int (q1C n zs rs as))))=.rt (.sh (.bl true)):=by
   clear ac d1 d2 r12 mx cl
   unfold lw ords at *
   generalize q1C n zs rs as=d at *
   generalize (as.map λa=>ord (q0V zs a))=oo at *
   generalize as.map q0A=tt at *
   generalize zs.map D.str=zz at *
   generalize hG:q4D=G at *
   unfold bk bkr at *
   generalize (rs.map r9).map ovn=o9 at *
   generalize (zs.dropLast.map kb).map brd=bb at *
   generalize rs.map D.int=rr at *
   generalize ((zs.length-1:Nat):Int)=kk at *
   simp [q4F,j1M,st,List.lookup,is2,is3,rn,hG,k5]
  by_cases h0:q1C n zs rs as=0
  ·unfold lw at *
   have h0c:((q1C n zs rs as:Nat):Int)=0:=by omega
   rw [h0c] at k7 ⊢
   generalize hG:q4F=G at *
   generalize bk n zs rs=bb at *
   generalize ords zs as=oo at *
   generalize as.map q0A=tt at *
   generalize zs.map D.str=zz at *
   generalize rs.map D.int=rr at *
   simp [q4A,hG,k7]
  ·obtain ⟨w,ew,hw⟩:∃w:Nat,v7 % 12=(w:Int)/\w<=12:=⟨(v7 % 12).toNat,by omega,by omega⟩
   have r7:=j8C ac (q4Q _ _ _ _) oL w (.inr ⟨hw,h0⟩)
   have h0':0 < q1C n zs rs as:=by omega
   clear ac d1 d2 r12 mx cl st
   unfold lw ords at *
   generalize q1C n zs rs as=d at *
   generalize (as.map λa=>ord (q0V zs a))=oo at *
   generalize bk n zs rs=bb at *
   generalize as.map q0A=tt at *
   generalize zs.map D.str=zz at *
   generalize rs.map D.int=rr at *
   generalize hG:q4F=G at *
   have h0i:0 < (d:Int):=by omega
   simp [q4A,h0',h0i,p7,ew,r7,is1,hG,k7]
 clear ac st rn d2 cl k5
 unfold lw ords at *
 generalize q1C n zs rs as=d at *
 generalize q0R true rs=mm at *
 generalize (as.map λa=>ord (q0V zs a))=oo at *
 generalize bk n zs rs=bb at *
 generalize as.map q0A=tt at *
 generalize rs.map D.int=rr at *
 generalize zs.map D.str=zz at *
 generalize ((zs.length-1:Nat):Int)=kk at *
 generalize hG:q4A=G at *
 simp [q5k,j1k,mx,d1,r12,is1,hG,k8]
end
theorem j0i (zs:List Str) (K:Nat) (h:zs.length=K+1):(List.range K).map (λk=>zs.getD k "")=zs.dropLast:=by
 refine List.ext_getElem (by simp;omega) λi h1 h2=>?_
 rw [List.length_map,List.length_range] at h1
 rw [List.getElem_map,List.getElem_range,List.getElem_dropLast,List.getD_eq_getElem?_getD,List.getElem?_eq_getElem (by omega)]
 rfl
theorem law_true (ns:List Int) (hn:ns.length<=63):j7v [.sh (.lst (ns.map D.int))]=.ok (.sh (.bl true)):=by
 have p0:q1M [.sh (.lst (ns.map D.int)),.sh (.int 0)]=_:=at_ ns 0
 have p2:q1M [.sh (.lst (ns.map D.int)),.sh (.int 2)]=_:=at_ ns 2
 have p3:q1M [.sh (.lst (ns.map D.int)),.sh (.int 3)]=_:=at_ ns 3
 have p4:q1M [.sh (.lst (ns.map D.int)),.sh (.int 4)]=_:=at_ ns 4
 have p5:q1M [.sh (.lst (ns.map D.int)),.sh (.int 5)]=_:=at_ ns 5
 have p6:q1M [.sh (.lst (ns.map D.int)),.sh (.int 6)]=_:=at_ ns 6
 have p7:q1M [.sh (.lst (ns.map D.int)),.sh (.int 7)]=_:=at_ ns 7
 generalize ns.getD 0 0=v0 at *
 generalize ns.getD 2 0=v2 at *
 generalize ns.getD 3 0=v3 at *
 generalize ns.getD 4 0=v4 at *
 generalize ns.getD 5 0=v5 at *
 generalize ns.getD 6 0=v6 at *
 generalize ns.getD 7 0=v7 at *
 obtain ⟨n,en,hn1⟩:∃n:Int,1+v2 % 720=n/\1<=n/\n<=720:=⟨_,rfl,by omega,by omega⟩
 obtain ⟨K,eK,hK⟩:∃K:Nat,1+v3 % 8=(K:Int)/\1<=K/\K<=8:=⟨(1+v3 % 8).toNat,by omega,by omega,by omega⟩
 obtain ⟨zs,hz,nd,w,ez⟩:=j0E v4 (K+1) (by omega)
 rw [Int.natCast_add] at ez
 obtain ⟨rs,r1,r2,r3,e18⟩:=j0m (n:=n) (K:=(K:Int)) (zz:=zs.map D.str) p0 p5
 obtain ⟨m,hm,e15⟩:=j4b (n:=n) (K:=(K:Int)) (zz:=zs.map D.str) p6 (.sh (.lst (rs.map D.int)))
 obtain ⟨as,ha1,ha2,ew⟩:=q7j ns hn n m K hn1 hm hK
 have W:Wn n zs rs:=⟨hn1,by omega,nd,w,r1,r2,r3⟩
 have kz:zs.length-1=K:=by omega
 have ha:∀a∈as,PA zs a:=λa q=>⟨by have:=(ha2 a q).k;omega,(ha2 a q).lv,(ha2 a q).du⟩
 have sg:=q9G (Str.ofString "a") (Str.ofString "oven") 1 9 99 w1J j9j (by decide) (by decide) (by decide) (by decide) (by decide)
 have f13:∀a b c d e f g i:Sl,q0L (q5d (n1 (q0f 2))) [3] (rD (rC 2 j6s (gSh (eIx (q0f 1) (q0f 0)) (gSh (q1l (q1a (q0q (rD (rC 5 j5r (gSh (eS "a") (gSh (eI 1) (gSh (eI 9) (gSh (eS "oven") (gSh (eI 99) gN0))))))) q0K))) gN0)))) [a,b,.sh (.int K),.sh (.lst (zs.map D.str)),c,d,e,f,g,i,.no]=.ok ((zs.dropLast.map kb).map brd):=by
  intro a b c d e f g i
  rw [<-j0i zs K hz,List.map_map,List.map_map]
  refine q1j (g:=λ(k:Nat)=>D.int k) ?_ (by simp;omega) λk hk=>?_
  ·rw [q2S (n:=K) rfl (by omega),q7k]
  ·have hk:k < K:=List.mem_range.mp hk
   have hk2:k < zs.length:=by omega
   have eg:zs.getD k "" = zs[k]:=by rw [List.getD_eq_getElem?_getD,List.getElem?_eq_getElem hk2];rfl
   have a3:atI (zs.map D.str) (k:Int)=some (.str (zs.getD k "")):=q0Y (by rw [List.getElem?_map,List.getElem?_eq_getElem hk2,eg];rfl)
   have bm:=q9H (zs.getD k "") [.ins 22 [.str "a",.int 1,.int 9,.str "oven",.int 99]] (by rw [eg];exact w _ (List.getElem_mem _)) (by decide) (by decide)
   show _=Out.ok (brd (kb (zs.getD k "")))
   clear ez eg
   generalize zs.getD k "" = z at *
   generalize zs.map D.str=zz at *
   generalize (k:Int)=kk at *
   simp [q1t,q6t,sg,a3,bm,brd,kb]
 have f12:∀a b c d e f g i j k:Sl,q0L (q15 (q0f 4)) [] (rD (rC 3 j4E (gSh (q0f 0) (gSh (eI 9) (gSh (eI 9) gN0))))) [a,b,c,d,.sh (.lst (rs.map D.int)),e,f,g,i,j,k]=.ok ((rs.map r9).map ovn):=λa b c d e f g i j k=>by
  rw [List.map_map]
  refine q1j (g:=D.int) rfl (by omega) λr hr=>?_
  have om:=j3L r 9 9 (r3 r hr) (by omega) (by omega)
  simp [q1t,om,r9,ovn]
 have f11:∀a b c d e f g i j:Sl,q0L (q15 (q0f 6)) [3] (rD (rC 3 F_5 (gSh (eIx (q0f 1) (eIx (q0f 0) (eI 0))) (gSh (eIx (q0f 0) (eI 1)) (gSh (eIx (q0f 0) (eI 2)) gN0))))) [a,b,c,.sh (.lst (zs.map D.str)),d,e,.sh (.lst (as.map q0A)),f,g,i,j]=.ok (ords zs as):=λa b c d e f g i j=>by
  refine q1j (g:=q0A) rfl (by omega) λx hx=>?_
  have px:=ha x hx
  have a3:atI (zs.map D.str) ((x.1:Nat):Int)=some (.str (zs.getD x.1 "")):=q0Y (by
   rw [List.getElem?_map,List.getElem?_eq_getElem px.k,List.getD_eq_getElem?_getD,List.getElem?_eq_getElem px.k];rfl)
  have om:=q5F (zs.getD x.1 "") x.2.1 x.2.2 (j6P (by have:=px.lv;omega))
  rw [if_pos px.lv] at om
  unfold ord q0V
  clear ez
  generalize zs.getD x.1 "" = z at *
  generalize zs.map D.str=zz at *
  simp [q1t,q6t,q0A,q2x,q12,q2y,a3,om]
 have bm:=q7L n 1 1 ((rs.map r9).map ovn) (zs.dropLast.map kb) hn1 (by omega) (by omega) (by cases rs with | nil=>exact absurd rfl r1 | cons a l=>simp) (by simpa using r2) (by simp;omega) (by simp;omega) (by rw [w0n];exact nd.sublist (List.dropLast_sublist _))
 have en0:=λx5 x7=>j5a W as ha (by omega) v7 p7 x5 x7
 rw [kz] at en0
 have k12:∀x5:Sl,q4V (lw (ns.map D.int) n K (zs.map D.str) (.sh (.lst (rs.map D.int))) x5 (.sh (.lst (as.map q0A))) (.sh (.lst ((zs.dropLast.map kb).map brd))) .no .no .no)=.rt (.sh (.bl true)):=by
  intro x5
  have en0:=en0 x5 (.sh (.lst ((zs.dropLast.map kb).map brd)))
  have eB:bk n zs rs=.ins 18 [.int n,.int 1,.int 1,.tup ((rs.map r9).map ovn),.tup ((zs.dropLast.map kb).map brd)]:=rfl
  rw [<-eB] at bm
  have k11:q3C (lw (ns.map D.int) n K (zs.map D.str) (.sh (.lst (rs.map D.int))) x5 (.sh (.lst (as.map q0A))) (.sh (.lst ((zs.dropLast.map kb).map brd))) (.sh (bk n zs rs)) .no .no)=.rt (.sh (.bl true)):=by
   rw [q3C,q3F (v:=.lst (ords zs as)) (by rw [q1l,f11,Out.ok_bind]),Fl.nx_bind]
   exact en0
  have ef:q1l (q0L (q15 (q0f 4)) [] (rD (rC 3 j4E (gSh (q0f 0) (gSh (eI 9) (gSh (eI 9) gN0)))))) (lw (ns.map D.int) n K (zs.map D.str) (.sh (.lst (rs.map D.int))) x5 (.sh (.lst (as.map q0A))) (.sh (.lst ((zs.dropLast.map kb).map brd))) .no .no .no)=.ok (.lst ((rs.map r9).map ovn)):=by rw [q1l,f12,Out.ok_bind]
  clear f11 f12 f13 eB en0 e15 e18
  rw [q4V]
  generalize q1l (q0L _ _ _)=FF at *
  generalize hG:q3C=G at *
  unfold lw at *
  generalize bk n zs rs=B at *
  generalize (zs.dropLast.map kb).map brd=bb at *
  generalize (rs.map r9).map ovn=oo at *
  generalize zs.map D.str=zz at *
  generalize rs.map D.int=rr at *
  generalize as.map q0A=tt at *
  generalize ns.map D.int=nn at *
  simp [ef,bm,k11]
 have k13:∀x5:Sl,q30 (lw (ns.map D.int) n K (zs.map D.str) (.sh (.lst (rs.map D.int))) x5 (.sh (.lst (as.map q0A))) .no .no .no .no)=.rt (.sh (.bl true)):=λx5=>by
  rw [q30,q3F (v:=.lst ((zs.dropLast.map kb).map brd)) (by rw [q1l,f13,Out.ok_bind]),Fl.nx_bind]
  exact k12 x5
 clear f11 f12 f13 bm en0 k12
 have k14:q2m (lw (ns.map D.int) n K (zs.map D.str) (.sh (.lst (rs.map D.int))) (.sh (.int m)) .no .no .no .no .no)=.rt (.sh (.bl true)):=by
  have k13:=k13 (.sh (.int m))
  clear e15 e18
  unfold lw at *
  generalize hG:q30=G at *
  generalize zs.map D.str=zz at *
  generalize rs.map D.int=rr at *
  generalize as.map q0A=tt at *
  generalize ns.map D.int=nn at *
  simp [q2m,ew,hG,k13]
 have k18:=(e18.trans e15).trans k14
 clear e15 e18 k14 k13 ew
 refine q8q _ rfl ?_
 show q5g [.sh (.lst (ns.map D.int)),.no,.no,.no,.no,.no,.no,.no,.no,.no,.no]=_
 unfold lw at *
 generalize hG:q2R=G at *
 generalize zs.map D.str=zz at *
 generalize ns.map D.int=nn at *
 have ez':j4H [.sh (.int v4),.sh (.int ((K:Int)+1))]=.ok (.fr zz):=ez
 simp [q5g,q9g,q8u,p2,p3,p4,en,eK,ez',hG,k18]
end Lw
namespace Lw
open PySem PySem.W L2 L3
theorem q1c {K:Frag} {f c:Addr} {q:Str} {a:Option (Option Value)} {d:FuncData} (h:q08 K f c q a=q07 f d):K.lookup f=some (fo d)/\codeIn K (.ref c) q=true/\keepIn K (.ref f)=true/\isFn K (.ref f)=true/\a=some (some (.ref f)):=by
 unfold q08 q07 at h
 simpa only [Prod.mk.injEq] using h
theorem q9T {K:Frag} {C:Addr} {n:Str} {fs:List Str} (h:q8x K C n fs=q8H C fs):nI K n=some (some (.ref C))/\plainGet K C Str.empty=true/\hasDictIn K C=true/\plainOver K C=true/\makesIn K C=true/\keepIn K (.ref C)=true/\findIn K (.ref C) "__setattr__" = some (some (.builtin "object.__setattr__"))/\∀(i:Nat) (x:Str),fs[i]?=some x->findIn K (.ref C) x=some none:=by
 unfold q8x q8H at h
 simp only [Prod.mk.injEq,List.cons.injEq,and_true] at h
 obtain ⟨h1,⟨h2,h3,h4,h5,h6⟩,h7,h8⟩:=h
 refine ⟨h1,h2,h3,h4,h5,h6,h7,λi x e=>?_⟩
 have:=congrArg (·[i]?) h8
 simp only [List.getElem?_map,e,Option.map_some,Option.some.injEq] at this
 exact this
theorem q4O {K:Frag} {C:Addr} {n:Str} (h:q4a K C n=q4b C):nI K n=some (some (.ref C))/\excIn K C [.type "ValueError",.type "Exception",.type "BaseException",.type "object"] "ValueError.__new__" = true:=by
 unfold q4a q4b at h
 simpa only [Prod.mk.injEq] using h
theorem j3g {l:OpenLaw} {w:World} {K:Frag} {h:Heap} {mg:Str->Option Value} {fa:Addr} (X:K.In h) (G:h.Ns mainGlobals mg) (hfa:mg "law" = some (.ref fa)) (e:q4R K=j33)
 : ∃fd:FuncData,(∀(s:Shared) (v:Value),BindsTo s fd ⟨[v],[]⟩ [("_law_script",v)])/\∃T:Tb,∀base:Heap,K.In base->base.Ns mainGlobals mg->q0M l.prog w K mg base (CXE T l.prog w) 12 fa fd ["_law_script"] (spD T K 1 j7v):=by
 obtain ⟨eF,e⟩:=Prod.mk.inj (e:(hLF K,hLG K,hLC K,hLE K,hZ.map (λx=>nI K x),hLI K,hLV K,hLB K,hLO K,hLX K)=(hRF,hRG,hRC,hRE,hZ.map (λ_=>(some none:Option (Option Value))),hRI,hRV,hRB,hRO,hRX))
 obtain ⟨eG,e⟩:=Prod.mk.inj e
 obtain ⟨eC,e⟩:=Prod.mk.inj e
 obtain ⟨eE,e⟩:=Prod.mk.inj e
 obtain ⟨eZ,e⟩:=Prod.mk.inj e
 obtain ⟨eI,e⟩:=Prod.mk.inj e
 obtain ⟨eV,e⟩:=Prod.mk.inj e
 obtain ⟨eB,e⟩:=Prod.mk.inj e
 obtain ⟨eO,e⟩:=Prod.mk.inj e
 obtain ⟨l1,c1,k1,i1,a1⟩:=q1c (Hd.row eF 0 rfl rfl)
 obtain ⟨l2,c2,k2,i2,a2⟩:=q1c (Hd.row eF 1 rfl rfl)
 obtain ⟨l3,c3,k3,i3,a3⟩:=q1c (Hd.row eF 2 rfl rfl)
 obtain ⟨l4,c4,k4,i4,a4⟩:=q1c (Hd.row eF 3 rfl rfl)
 obtain ⟨l5,c5,k5,i5,a5⟩:=q1c (Hd.row eF 4 rfl rfl)
 obtain ⟨l6,c6,k6,i6,a6⟩:=q1c (Hd.row eF 5 rfl rfl)
 obtain ⟨l7,c7,k7,i7,a7⟩:=q1c (Hd.row eF 6 rfl rfl)
 obtain ⟨l8,c8,k8,i8,a8⟩:=q1c (Hd.row eF 7 rfl rfl)
 obtain ⟨l9,c9,k9,i9,a9⟩:=q1c (Hd.row eF 8 rfl rfl)
 obtain ⟨l10,c10,k10,i10,a10⟩:=q1c (Hd.row eF 9 rfl rfl)
 obtain ⟨l11,c11,k11,i11,a11⟩:=q1c (Hd.row eF 10 rfl rfl)
 obtain ⟨l13,c13,k13,i13,a13⟩:=q1c (Hd.row eF 11 rfl rfl)
 obtain ⟨l14,c14,k14,i14,a14⟩:=q1c (Hd.row eF 12 rfl rfl)
 obtain ⟨l15,c15,k15,i15,a15⟩:=q1c (Hd.row eF 13 rfl rfl)
 obtain ⟨l16,c16,k16,i16,a16⟩:=q1c (Hd.row eF 14 rfl rfl)
 obtain ⟨l21,c21,k21,i21,a21⟩:=q1c (Hd.row eF 15 rfl rfl)
 obtain ⟨l24,c24,k24,i24,a24⟩:=q1c (Hd.row eF 16 rfl rfl)
 obtain ⟨l26,c26,k26,i26,a26⟩:=q1c (Hd.row eF 17 rfl rfl)
 obtain ⟨l28,c28,k28,i28,a28⟩:=q1c (Hd.row eF 18 rfl rfl)
 obtain ⟨l29,c29,k29,i29,a29⟩:=q1c (Hd.row eF 19 rfl rfl)
 obtain ⟨l32,c32,k32,i32,a32⟩:=q1c (Hd.row eF 20 rfl rfl)
 obtain ⟨l33,c33,k33,i33,a33⟩:=q1c (Hd.row eF 21 rfl rfl)
 obtain ⟨l35,c35,k35,i35,a35⟩:=q1c (Hd.row eF 22 rfl rfl)
 obtain ⟨l42,c42,k42,i42,a42⟩:=q1c (Hd.row eF 23 rfl rfl)
 obtain ⟨l43,c43,k43,i43,a43⟩:=q1c (Hd.row eF 24 rfl rfl)
 obtain ⟨l46,c46,k46,i46,a46⟩:=q1c (Hd.row eF 25 rfl rfl)
 obtain ⟨l47,c47,k47,i47,a47⟩:=q1c (Hd.row eG 0 rfl rfl)
 obtain ⟨l49,c49,k49,i49,a49⟩:=q1c (Hd.row eG 1 rfl rfl)
 obtain ⟨l50,c50,k50,i50,a50⟩:=q1c (Hd.row eG 2 rfl rfl)
 obtain ⟨l51,c51,k51,i51,a51⟩:=q1c (Hd.row eG 3 rfl rfl)
 obtain ⟨l55,c55,k55,i55,a55⟩:=q1c (Hd.row eG 4 rfl rfl)
 obtain ⟨l60,c60,k60,i60,a60⟩:=q1c (Hd.row eG 5 rfl rfl)
 obtain ⟨l61,c61,k61,i61,a61⟩:=q1c (Hd.row eG 6 rfl rfl)
 obtain ⟨l63,c63,k63,i63,a63⟩:=q1c (Hd.row eG 7 rfl rfl)
 obtain ⟨l66,c66,k66,i66,a66⟩:=q1c (Hd.row eG 8 rfl rfl)
 obtain ⟨l67,c67,k67,i67,a67⟩:=q1c (Hd.row eG 9 rfl rfl)
 obtain ⟨l68,c68,k68,i68,a68⟩:=q1c (Hd.row eG 10 rfl rfl)
 obtain ⟨l69,c69,k69,i69,a69⟩:=q1c (Hd.row eG 11 rfl rfl)
 obtain ⟨l70,c70,k70,i70,a70⟩:=q1c (Hd.row eG 12 rfl rfl)
 obtain ⟨l71,c71,k71,i71,a71⟩:=q1c (Hd.row eG 13 rfl rfl)
 obtain ⟨l72,c72,k72,i72,a72⟩:=q1c (Hd.row eG 14 rfl rfl)
 obtain ⟨l76,c76,k76,i76,a76⟩:=q1c (Hd.row eG 15 rfl rfl)
 obtain ⟨l77,c77,k77,i77,a77⟩:=q1c (Hd.row eG 16 rfl rfl)
 obtain ⟨l78,c78,k78,i78,a78⟩:=q1c (Hd.row eG 17 rfl rfl)
 obtain ⟨l79,c79,k79,i79,a79⟩:=q1c (Hd.row eG 18 rfl rfl)
 obtain ⟨l80,c80,k80,i80,a80⟩:=q1c (Hd.row eG 19 rfl rfl)
 obtain ⟨l81,c81,k81,i81,a81⟩:=q1c (Hd.row eG 20 rfl rfl)
 obtain ⟨l82,c82,k82,i82,a82⟩:=q1c (Hd.row eG 21 rfl rfl)
 obtain ⟨l83,c83,k83,i83,a83⟩:=q1c (Hd.row eG 22 rfl rfl)
 obtain ⟨l84,c84,k84,i84,a84⟩:=q1c (Hd.row eG 23 rfl rfl)
 obtain ⟨l85,c85,k85,i85,a85⟩:=q1c (Hd.row eG 24 rfl rfl)
 obtain ⟨l86,c86,k86,i86,a86⟩:=q1c (Hd.row eG 25 rfl rfl)
 obtain ⟨aC16,pg16,hd16,po16,mk16,kc16,sa16,nf16⟩:=q9T (Hd.row eC 0 rfl rfl)
 have na16_bread:=nf16 0 _ rfl
 have na16_loaves:=nf16 1 _ rfl
 have na16_due:=nf16 2 _ rfl
 obtain ⟨aC17,pg17,hd17,po17,mk17,kc17,sa17,nf17⟩:=q9T (Hd.row eC 1 rfl rfl)
 have na17_order:=nf17 0 _ rfl
 have na17_first:=nf17 1 _ rfl
 have na17_loaves:=nf17 2 _ rfl
 obtain ⟨aC18,pg18,hd18,po18,mk18,kc18,sa18,nf18⟩:=q9T (Hd.row eC 2 rfl rfl)
 have na18_night:=nf18 0 _ rfl
 have na18_hands:=nf18 1 _ rfl
 have na18_benches:=nf18 2 _ rfl
 have na18_ovens:=nf18 3 _ rfl
 have na18_breads:=nf18 4 _ rfl
 obtain ⟨aC19,pg19,hd19,po19,mk19,kc19,sa19,nf19⟩:=q9T (Hd.row eC 3 rfl rfl)
 have na19_room:=nf19 0 _ rfl
 have na19_rate:=nf19 1 _ rfl
 have na19_heat:=nf19 2 _ rfl
 obtain ⟨aC20,pg20,hd20,po20,mk20,kc20,sa20,nf20⟩:=q9T (Hd.row eC 4 rfl rfl)
 have na20_begin:=nf20 0 _ rfl
 have na20_lengths:=nf20 1 _ rfl
 have na20_oven:=nf20 2 _ rfl
 obtain ⟨aC21,pg21,hd21,po21,mk21,kc21,sa21,nf21⟩:=q9T (Hd.row eC 5 rfl rfl)
 have na21_batch:=nf21 0 _ rfl
 have na21_stage:=nf21 1 _ rfl
 have na21_begin:=nf21 2 _ rfl
 have na21_until:=nf21 3 _ rfl
 have na21_loaves:=nf21 4 _ rfl
 have na21_oven:=nf21 5 _ rfl
 obtain ⟨aC22,pg22,hd22,po22,mk22,kc22,sa22,nf22⟩:=q9T (Hd.row eC 6 rfl rfl)
 have na22_name:=nf22 0 _ rfl
 have na22_least:=nf22 1 _ rfl
 have na22_most:=nf22 2 _ rfl
 have na22_want:=nf22 3 _ rfl
 have na22_heat:=nf22 4 _ rfl
 obtain ⟨aC23,pg23,hd23,po23,mk23,kc23,sa23,nf23⟩:=q9T (Hd.row eC 7 rfl rfl)
 have na23_name:=nf23 0 _ rfl
 have na23_stages:=nf23 1 _ rfl
 obtain ⟨aC24,pg24,hd24,po24,mk24,kc24,sa24,nf24⟩:=q9T (Hd.row eC 8 rfl rfl)
 have na24_bakery:=nf24 0 _ rfl
 have na24_orders:=nf24 1 _ rfl
 obtain ⟨aC0,xc0⟩:=q4O (Hd.row eE 0 rfl rfl)
 obtain ⟨aC1,xc1⟩:=q4O (Hd.row eE 1 rfl rfl)
 obtain ⟨aC2,xc2⟩:=q4O (Hd.row eE 2 rfl rfl)
 obtain ⟨aC3,xc3⟩:=q4O (Hd.row eE 3 rfl rfl)
 obtain ⟨aC4,xc4⟩:=q4O (Hd.row eE 4 rfl rfl)
 obtain ⟨aC5,xc5⟩:=q4O (Hd.row eE 5 rfl rfl)
 obtain ⟨aC6,xc6⟩:=q4O (Hd.row eE 6 rfl rfl)
 obtain ⟨aC7,xc7⟩:=q4O (Hd.row eE 7 rfl rfl)
 obtain ⟨aC8,xc8⟩:=q4O (Hd.row eE 8 rfl rfl)
 obtain ⟨aC9,xc9⟩:=q4O (Hd.row eE 9 rfl rfl)
 obtain ⟨aC10,xc10⟩:=q4O (Hd.row eE 10 rfl rfl)
 obtain ⟨aC11,xc11⟩:=q4O (Hd.row eE 11 rfl rfl)
 obtain ⟨aC12,xc12⟩:=q4O (Hd.row eE 12 rfl rfl)
 obtain ⟨aC13,xc13⟩:=q4O (Hd.row eE 13 rfl rfl)
 obtain ⟨aC14,xc14⟩:=q4O (Hd.row eE 14 rfl rfl)
 obtain ⟨aC15,xc15⟩:=q4O (Hd.row eE 15 rfl rfl)
 have z_all:=Hd.row eZ 0 rfl rfl
 have z_bool:=Hd.row eZ 1 rfl rfl
 have z_enumerate:=Hd.row eZ 2 rfl rfl
 have z_int:=Hd.row eZ 3 rfl rfl
 have z_isinstance:=Hd.row eZ 4 rfl rfl
 have z_len:=Hd.row eZ 5 rfl rfl
 have z_max:=Hd.row eZ 6 rfl rfl
 have z_min:=Hd.row eZ 7 rfl rfl
 have z_range:=Hd.row eZ 8 rfl rfl
 have z_set:=Hd.row eZ 9 rfl rfl
 have z_sum:=Hd.row eZ 10 rfl rfl
 have z_tuple:=Hd.row eZ 11 rfl rfl
 have z_zip:=Hd.row eZ 12 rfl rfl
 have cc_FASTEST:=Hd.row eV 0 rfl rfl
 have cc_HOTTEST:=Hd.row eV 1 rfl rfl
 have cc_LETTERS:=Hd.row eV 2 rfl rfl
 have cc_LONGEST_NAME:=Hd.row eV 3 rfl rfl
 have cc_MOST_BATCHES:=Hd.row eV 4 rfl rfl
 have cc_MOST_BENCHES:=Hd.row eV 5 rfl rfl
 have cc_MOST_BREADS:=Hd.row eV 6 rfl rfl
 have cc_MOST_HANDS:=Hd.row eV 7 rfl rfl
 have cc_MOST_LOAVES:=Hd.row eV 8 rfl rfl
 have cc_MOST_ORDERS:=Hd.row eV 9 rfl rfl
 have cc_MOST_OVENS:=Hd.row eV 10 rfl rfl
 have cc_MOST_ROOM:=Hd.row eV 11 rfl rfl
 have cc_MOST_STAGES:=Hd.row eV 12 rfl rfl
 have cc_NIGHT:=Hd.row eV 13 rfl rfl
 have cc_WANTS:=Hd.row eV 14 rfl rfl
 have dk21:=Hd.row eO 0 rfl rfl
 have dk50:=Hd.row eO 1 rfl rfl
 have ct_WANTS:=Hd.row eO 2 rfl rfl
 have exm0_4:=Hd.row e 0 rfl rfl
 have exm0_6:=Hd.row e 1 rfl rfl
 have exm0_7:=Hd.row e 2 rfl rfl
 have exm0_8:=Hd.row e 3 rfl rfl
 have exm1_4:=Hd.row e 4 rfl rfl
 have exm1_6:=Hd.row e 5 rfl rfl
 have exm1_7:=Hd.row e 6 rfl rfl
 have exm1_8:=Hd.row e 7 rfl rfl
 have exm2_4:=Hd.row e 8 rfl rfl
 have exm2_6:=Hd.row e 9 rfl rfl
 have exm2_7:=Hd.row e 10 rfl rfl
 have exm2_8:=Hd.row e 11 rfl rfl
 have exm3_4:=Hd.row e 12 rfl rfl
 have exm3_6:=Hd.row e 13 rfl rfl
 have exm3_7:=Hd.row e 14 rfl rfl
 have exm3_8:=Hd.row e 15 rfl rfl
 have exm4_4:=Hd.row e 16 rfl rfl
 have exm4_6:=Hd.row e 17 rfl rfl
 have exm4_7:=Hd.row e 18 rfl rfl
 have exm4_8:=Hd.row e 19 rfl rfl
 have exm5_4:=Hd.row e 20 rfl rfl
 have exm5_6:=Hd.row e 21 rfl rfl
 have exm5_7:=Hd.row e 22 rfl rfl
 have exm5_8:=Hd.row e 23 rfl rfl
 have exm6_4:=Hd.row e 24 rfl rfl
 have exm6_6:=Hd.row e 25 rfl rfl
 have exm6_7:=Hd.row e 26 rfl rfl
 have exm6_8:=Hd.row e 27 rfl rfl
 have exm7_4:=Hd.row e 28 rfl rfl
 have exm7_6:=Hd.row e 29 rfl rfl
 have exm7_7:=Hd.row e 30 rfl rfl
 have exm7_8:=Hd.row e 31 rfl rfl
 have exm8_4:=Hd.row e 32 rfl rfl
 have exm8_6:=Hd.row e 33 rfl rfl
 have exm8_7:=Hd.row e 34 rfl rfl
 have exm8_8:=Hd.row e 35 rfl rfl
 have exm9_4:=Hd.row e 36 rfl rfl
 have exm9_6:=Hd.row e 37 rfl rfl
 have exm9_7:=Hd.row e 38 rfl rfl
 have exm9_8:=Hd.row e 39 rfl rfl
 have exm10_4:=Hd.row e 40 rfl rfl
 have exm10_6:=Hd.row e 41 rfl rfl
 have exm10_7:=Hd.row e 42 rfl rfl
 have exm10_8:=Hd.row e 43 rfl rfl
 have exm11_4:=Hd.row e 44 rfl rfl
 have exm11_6:=Hd.row e 45 rfl rfl
 have exm11_7:=Hd.row e 46 rfl rfl
 have exm11_8:=Hd.row e 47 rfl rfl
 have exm12_4:=Hd.row e 48 rfl rfl
 have exm12_6:=Hd.row e 49 rfl rfl
 have exm12_7:=Hd.row e 50 rfl rfl
 have exm12_8:=Hd.row e 51 rfl rfl
 have exm13_4:=Hd.row e 52 rfl rfl
 have exm13_6:=Hd.row e 53 rfl rfl
 have exm13_7:=Hd.row e 54 rfl rfl
 have exm13_8:=Hd.row e 55 rfl rfl
 have exm14_4:=Hd.row e 56 rfl rfl
 have exm14_6:=Hd.row e 57 rfl rfl
 have exm14_7:=Hd.row e 58 rfl rfl
 have exm14_8:=Hd.row e 59 rfl rfl
 have exm15_4:=Hd.row e 60 rfl rfl
 have exm15_6:=Hd.row e 61 rfl rfl
 have exm15_7:=Hd.row e 62 rfl rfl
 have exm15_8:=Hd.row e 63 rfl rfl
 have e:=hfa.symm.trans (mg_of X G a86)
 cases e
 have F1:=q0r (st:=s_1) l1 c1 k1
 have F2:=q0r (st:=s_2) l2 c2 k2
 have F3:=q0r (st:=s_3) l3 c3 k3
 have F4:=q0r (st:=s_4) l4 c4 k4
 have F5:=q0r (st:=s_5) l5 c5 k5
 have F6:=q0r (st:=s_6) l6 c6 k6
 have F7:=q0r (st:=s_7) l7 c7 k7
 have F8:=q0r (st:=s_8) l8 c8 k8
 have F9:=q0r (st:=s_9) l9 c9 k9
 have F10:=q0r (st:=j7u) l10 c10 k10
 have F11:=q0r (st:=j7c) l11 c11 k11
 have F13:=q0r (st:=j7J) l13 c13 k13
 have F14:=q0r (st:=j7X) l14 c14 k14
 have F15:=q0r (st:=j7P) l15 c15 k15
 have F16:=q0r (st:=j7q) l16 c16 k16
 have F21:=q75 (st:=j9k) l21 c21 k21
 have F24:=q0r (st:=j8j) l24 c24 k24
 have F26:=q0r (st:=j7K) l26 c26 k26
 have F28:=q0r (st:=j7i) l28 c28 k28
 have F29:=q0r (st:=j7C) l29 c29 k29
 have F32:=q0r (st:=j7b) l32 c32 k32
 have F33:=q0r (st:=j7m) l33 c33 k33
 have F35:=q0r (st:=j7k) l35 c35 k35
 have F42:=q0r (st:=j7t) l42 c42 k42
 have F43:=q0r (st:=j7V) l43 c43 k43
 have F46:=q0r (st:=j7B) l46 c46 k46
 have F47:=q0r (st:=j7M) l47 c47 k47
 have F49:=q0r (st:=j7Q) l49 c49 k49
 have F50:=q75 (st:=j7p) l50 c50 k50
 have F51:=q0r (st:=j7T) l51 c51 k51
 have F55:=q0r (st:=j71) l55 c55 k55
 have F60:=q0r (st:=j7x) l60 c60 k60
 have F61:=q0r (st:=j7r) l61 c61 k61
 have F63:=q0r (st:=j7R) l63 c63 k63
 have F66:=q0r (st:=j7A) l66 c66 k66
 have F67:=q0r (st:=j7o) l67 c67 k67
 have F68:=q0r (st:=j7G) l68 c68 k68
 have F69:=q0r (st:=j7Y) l69 c69 k69
 have F70:=q0r (st:=j73) l70 c70 k70
 have F71:=q0r (st:=j7I) l71 c71 k71
 have F72:=q0r (st:=j7L) l72 c72 k72
 have F76:=q0r (st:=j72) l76 c76 k76
 have F77:=q0r (st:=j7S) l77 c77 k77
 have F78:=q0r (st:=j7g) l78 c78 k78
 have F79:=q0r (st:=j7H) l79 c79 k79
 have F80:=q0r (st:=j7U) l80 c80 k80
 have F81:=q0r (st:=j7O) l81 c81 k81
 have F82:=q0r (st:=j7y) l82 c82 k82
 have F83:=q0r (st:=j7W) l83 c83 k83
 have F84:=q0r (st:=j7j) l84 c84 k84
 have F85:=q0r (st:=j7z) l85 c85 k85
 have F86:=q0r (st:=j7d) l86 c86 k86
 refine ⟨q1F,λs v=>.of_eq rfl,⟨λi=>([31,44,56,68,80,92,104,116,128,140,152,164,176,188,200,212,257,278,344,372,436,457,640,680,823]:List Addr).getD i 0,λa=>if a==257 then (["bread","loaves","due"]:List Str) else if a==278 then (["order","first","loaves"]:List Str) else if a==344 then (["night","hands","benches","ovens","breads"]:List Str) else if a==372 then (["room","rate","heat"]:List Str) else if a==436 then (["begin","lengths","oven"]:List Str) else if a==457 then (["batch","stage","begin","until","loaves","oven"]:List Str) else if a==640 then (["name","least","most","want","heat"]:List Str) else if a==680 then (["name","stages"]:List Str) else if a==823 then (["bakery","orders","$"]:List Str) else [],none,none⟩,λbase _ _=>j9x (fa:=λi=>([896,219,226,233,240,254,275,287,294,301,308,315,896,334,341,355,369,896,896,896,896,419,896,896,454,896,475,896,489,494,896,896,509,516,896,531,896,896,896,896,896,896,574,581,896,896,602,609,896,621,637,658,896,896,896,689,896,896,896,896,718,725,896,735,896,896,754,761,766,773,778,792,799,896,896,896,834,841,848,853,860,865,870,877,884,891,896]:List Addr).getD i 0) (fd:=λi=>([q1F,d_1,d_2,d_3,d_4,d_5,d_6,d_7,d_8,d_9,j97,w0w,q1F,w0G,j9X,w0K,w0c,q1F,q1F,q1F,q1F,w0A,q1F,q1F,w0f,q1F,w0J,q1F,w0o,w0M,q1F,q1F,w0B,j92,q1F,w0p,q1F,q1F,q1F,q1F,q1F,q1F,w0C,w0z,q1F,q1F,w0O,w0L,q1F,w0i,w0S,w0Q,q1F,q1F,q1F,j99,q1F,q1F,q1F,q1F,w0x,w00,q1F,w0Z,q1F,q1F,w0s,w0P,w0E,w0W,w0v,j94,w0N,q1F,q1F,q1F,j96,w0b,j9Z,w0I,w0l,w0Y,w0q,w0y,w0t,w0T,q1F]:List FuncData).getD i q1F) ?_⟩
 exact {
  me:=rfl
  F1:=F1
  c1:=⟨mg_of X G a1,F1.kp,F1.binds λ_ _ _ _ _ _ us hl=>match us,hl with | [_],_=>rfl⟩
  F2:=F2
  c2:=⟨mg_of X G a2,F2.kp,F2.binds λ_ _ _ _ _ _ us hl=>match us,hl with | [_,_,_],_=>rfl⟩
  F3:=F3
  c3:=⟨mg_of X G a3,F3.kp,F3.binds λ_ _ _ _ _ _ us hl=>match us,hl with | [_,_,_],_=>rfl⟩
  F4:=F4
  c4:=⟨mg_of X G a4,F4.kp,F4.binds λ_ _ _ _ _ _ us hl=>match us,hl with | [_,_],_=>rfl⟩
  F5:=F5
  b5:=F5.binds λ_ _ _ _ _ _ us hl=>match us,hl with | [_,_,_,_],_=>rfl
  F6:=F6
  b6:=F6.binds λ_ _ _ _ _ _ us hl=>match us,hl with | [_,_,_,_],_=>rfl
  F7:=F7
  c7:=⟨mg_of X G a7,F7.kp,F7.binds λ_ _ _ _ _ _ us hl=>match us,hl with | [_],_=>rfl⟩
  F8:=F8
  c8:=⟨mg_of X G a8,F8.kp,F8.binds λ_ _ _ _ _ _ us hl=>match us,hl with | [_,_],_=>rfl⟩
  F9:=F9
  c9:=⟨mg_of X G a9,F9.kp,F9.binds λ_ _ _ _ _ _ us hl=>match us,hl with | [_,_],_=>rfl⟩
  F10:=F10
  c10:=⟨mg_of X G a10,F10.kp,F10.binds λ_ _ _ _ _ _ us hl=>match us,hl with | [_,_],_=>rfl⟩
  F11:=F11
  c11:=⟨mg_of X G a11,F11.kp,F11.binds λ_ _ _ _ _ _ us hl=>match us,hl with | [_,_],_=>rfl⟩
  F13:=F13
  b13:=F13.binds λ_ _ _ _ _ _ us hl=>match us,hl with | [_,_,_,_,_,_],_=>rfl
  F14:=F14
  b14:=F14.binds λ_ _ _ _ _ _ us hl=>match us,hl with | [_,_],_=>rfl
  mt14:=⟨a14,i14,k14⟩
  F15:=F15
  c15:=⟨mg_of X G a15,F15.kp,F15.binds λ_ _ _ _ _ _ us hl=>match us,hl with | [_],_=>rfl⟩
  F16:=F16
  b16:=F16.binds λ_ _ _ _ _ _ us hl=>match us,hl with | [_,_,_,_],_=>rfl
  F21:=F21
  b21:=q3A rfl dk21 4 rfl λus hl=>match us,hl with | [_,_,_,_],_=>⟨_,rfl,rfl⟩
  F24:=F24
  b24:=F24.binds λ_ _ _ _ _ _ us hl=>match us,hl with | [_,_,_,_,_,_,_],_=>rfl
  F26:=F26
  c26:=⟨mg_of X G a26,F26.kp,F26.binds λ_ _ _ _ _ _ us hl=>match us,hl with | [_,_,_],_=>rfl⟩
  F28:=F28
  c28:=⟨mg_of X G a28,F28.kp,F28.binds λ_ _ _ _ _ _ us hl=>match us,hl with | [_,_,_],_=>rfl⟩
  F29:=F29
  c29:=⟨mg_of X G a29,F29.kp,F29.binds λ_ _ _ _ _ _ us hl=>match us,hl with | [_,_],_=>rfl⟩
  F32:=F32
  c32:=⟨mg_of X G a32,F32.kp,F32.binds λ_ _ _ _ _ _ us hl=>match us,hl with | [_,_,_,_],_=>rfl⟩
  F33:=F33
  c33:=⟨mg_of X G a33,F33.kp,F33.binds λ_ _ _ _ _ _ us hl=>match us,hl with | [_,_,_,_],_=>rfl⟩
  F35:=F35
  c35:=⟨mg_of X G a35,F35.kp,F35.binds λ_ _ _ _ _ _ us hl=>match us,hl with | [_,_,_],_=>rfl⟩
  F42:=F42
  c42:=⟨mg_of X G a42,F42.kp,F42.binds λ_ _ _ _ _ _ us hl=>match us,hl with | [_,_,_,_,_],_=>rfl⟩
  F43:=F43
  c43:=⟨mg_of X G a43,F43.kp,F43.binds λ_ _ _ _ _ _ us hl=>match us,hl with | [_,_,_,_],_=>rfl⟩
  F46:=F46
  c46:=⟨mg_of X G a46,F46.kp,F46.binds λ_ _ _ _ _ _ us hl=>match us,hl with | [_],_=>rfl⟩
  F47:=F47
  c47:=⟨mg_of X G a47,F47.kp,F47.binds λ_ _ _ _ _ _ us hl=>match us,hl with | [_,_,_],_=>rfl⟩
  F49:=F49
  c49:=⟨mg_of X G a49,F49.kp,F49.binds λ_ _ _ _ _ _ us hl=>match us,hl with | [_,_,_],_=>rfl⟩
  F50:=F50
  b50:=q3A rfl dk50 6 rfl λus hl=>match us,hl with | [_,_,_,_,_,_],_=>⟨_,rfl,rfl⟩
  F51:=F51
  b51:=F51.binds λ_ _ _ _ _ _ us hl=>match us,hl with | [_,_,_],_=>rfl
  F55:=F55
  c55:=⟨mg_of X G a55,F55.kp,F55.binds λ_ _ _ _ _ _ us hl=>match us,hl with | [_,_],_=>rfl⟩
  F60:=F60
  c60:=⟨mg_of X G a60,F60.kp,F60.binds λ_ _ _ _ _ _ us hl=>match us,hl with | [_,_,_],_=>rfl⟩
  F61:=F61
  c61:=⟨mg_of X G a61,F61.kp,F61.binds λ_ _ _ _ _ _ us hl=>match us,hl with | [_,_],_=>rfl⟩
  F63:=F63
  c63:=⟨mg_of X G a63,F63.kp,F63.binds λ_ _ _ _ _ _ us hl=>match us,hl with | [_,_,_],_=>rfl⟩
  F66:=F66
  c66:=⟨mg_of X G a66,F66.kp,F66.binds λ_ _ _ _ _ _ us hl=>match us,hl with | [_,_],_=>rfl⟩
  F67:=F67
  c67:=⟨mg_of X G a67,F67.kp,F67.binds λ_ _ _ _ _ _ us hl=>match us,hl with | [_,_,_],_=>rfl⟩
  F68:=F68
  c68:=⟨mg_of X G a68,F68.kp,F68.binds λ_ _ _ _ _ _ us hl=>match us,hl with | [_,_],_=>rfl⟩
  F69:=F69
  c69:=⟨mg_of X G a69,F69.kp,F69.binds λ_ _ _ _ _ _ us hl=>match us,hl with | [_,_],_=>rfl⟩
  F70:=F70
  c70:=⟨mg_of X G a70,F70.kp,F70.binds λ_ _ _ _ _ _ us hl=>match us,hl with | [_,_],_=>rfl⟩
  F71:=F71
  b71:=F71.binds λ_ _ _ _ _ _ us hl=>match us,hl with | [_,_],_=>rfl
  F72:=F72
  b72:=F72.binds λ_ _ _ _ _ _ us hl=>match us,hl with | [_,_,_,_],_=>rfl
  mt72:=⟨a72,i72,k72⟩
  F76:=F76
  c76:=⟨mg_of X G a76,F76.kp,F76.binds λ_ _ _ _ _ _ us hl=>match us,hl with | [_,_],_=>rfl⟩
  F77:=F77
  c77:=⟨mg_of X G a77,F77.kp,F77.binds λ_ _ _ _ _ _ us hl=>match us,hl with | [_,_],_=>rfl⟩
  F78:=F78
  c78:=⟨mg_of X G a78,F78.kp,F78.binds λ_ _ _ _ _ _ us hl=>match us,hl with | [_,_],_=>rfl⟩
  F79:=F79
  c79:=⟨mg_of X G a79,F79.kp,F79.binds λ_ _ _ _ _ _ us hl=>match us,hl with | [_,_],_=>rfl⟩
  F80:=F80
  c80:=⟨mg_of X G a80,F80.kp,F80.binds λ_ _ _ _ _ _ us hl=>match us,hl with | [_,_,_],_=>rfl⟩
  F81:=F81
  c81:=⟨mg_of X G a81,F81.kp,F81.binds λ_ _ _ _ _ _ us hl=>match us,hl with | [_,_,_,_],_=>rfl⟩
  F82:=F82
  c82:=⟨mg_of X G a82,F82.kp,F82.binds λ_ _ _ _ _ _ us hl=>match us,hl with | [_,_,_,_],_=>rfl⟩
  F83:=F83
  c83:=⟨mg_of X G a83,F83.kp,F83.binds λ_ _ _ _ _ _ us hl=>match us,hl with | [_,_,_],_=>rfl⟩
  F84:=F84
  c84:=⟨mg_of X G a84,F84.kp,F84.binds λ_ _ _ _ _ _ us hl=>match us,hl with | [_,_,_],_=>rfl⟩
  F85:=F85
  c85:=⟨mg_of X G a85,F85.kp,F85.binds λ_ _ _ _ _ _ us hl=>match us,hl with | [_,_,_],_=>rfl⟩
  F86:=F86
  c86:=⟨mg_of X G a86,F86.kp,F86.binds λ_ _ _ _ _ _ us hl=>match us,hl with | [_],_=>rfl⟩
  mC0:=mg_of X G aC0
  xc0:=xc0
  mC1:=mg_of X G aC1
  xc1:=xc1
  mC2:=mg_of X G aC2
  xc2:=xc2
  mC3:=mg_of X G aC3
  xc3:=xc3
  mC4:=mg_of X G aC4
  xc4:=xc4
  mC5:=mg_of X G aC5
  xc5:=xc5
  mC6:=mg_of X G aC6
  xc6:=xc6
  mC7:=mg_of X G aC7
  xc7:=xc7
  mC8:=mg_of X G aC8
  xc8:=xc8
  mC9:=mg_of X G aC9
  xc9:=xc9
  mC10:=mg_of X G aC10
  xc10:=xc10
  mC11:=mg_of X G aC11
  xc11:=xc11
  mC12:=mg_of X G aC12
  xc12:=xc12
  mC13:=mg_of X G aC13
  xc13:=xc13
  mC14:=mg_of X G aC14
  xc14:=xc14
  mC15:=mg_of X G aC15
  xc15:=xc15
  mC16:=mg_of X G aC16
  cC16:=⟨pg16,hd16,po16,sa16⟩
  mk16:=⟨mk16,a5,i5,kc16⟩
  fl16:=rfl
  na16_bread:=na16_bread
  na16_loaves:=na16_loaves
  na16_due:=na16_due
  mC17:=mg_of X G aC17
  cC17:=⟨pg17,hd17,po17,sa17⟩
  mk17:=⟨mk17,a6,i6,kc17⟩
  fl17:=rfl
  na17_order:=na17_order
  na17_first:=na17_first
  na17_loaves:=na17_loaves
  mC18:=mg_of X G aC18
  cC18:=⟨pg18,hd18,po18,sa18⟩
  mk18:=⟨mk18,a13,i13,kc18⟩
  fl18:=rfl
  na18_night:=na18_night
  na18_hands:=na18_hands
  na18_benches:=na18_benches
  na18_ovens:=na18_ovens
  na18_breads:=na18_breads
  mC19:=mg_of X G aC19
  cC19:=⟨pg19,hd19,po19,sa19⟩
  mk19:=⟨mk19,a16,i16,kc19⟩
  fl19:=rfl
  na19_room:=na19_room
  na19_rate:=na19_rate
  na19_heat:=na19_heat
  mC20:=mg_of X G aC20
  cC20:=⟨pg20,hd20,po20,sa20⟩
  mk20:=⟨mk20,a21,i21,kc20⟩
  fl20:=rfl
  na20_begin:=na20_begin
  na20_lengths:=na20_lengths
  na20_oven:=na20_oven
  mC21:=mg_of X G aC21
  cC21:=⟨pg21,hd21,po21,sa21⟩
  mk21:=⟨mk21,a24,i24,kc21⟩
  fl21:=rfl
  na21_batch:=na21_batch
  na21_stage:=na21_stage
  na21_begin:=na21_begin
  na21_until:=na21_until
  na21_loaves:=na21_loaves
  na21_oven:=na21_oven
  mC22:=mg_of X G aC22
  cC22:=⟨pg22,hd22,po22,sa22⟩
  mk22:=⟨mk22,a50,i50,kc22⟩
  fl22:=rfl
  na22_name:=na22_name
  na22_least:=na22_least
  na22_most:=na22_most
  na22_want:=na22_want
  na22_heat:=na22_heat
  mC23:=mg_of X G aC23
  cC23:=⟨pg23,hd23,po23,sa23⟩
  mk23:=⟨mk23,a51,i51,kc23⟩
  fl23:=rfl
  na23_name:=na23_name
  na23_stages:=na23_stages
  mC24:=mg_of X G aC24
  cC24:=⟨pg24,hd24,po24,sa24⟩
  mk24:=⟨mk24,a71,i71,kc24⟩
  fl24:=rfl
  na24_bakery:=na24_bakery
  na24_orders:=na24_orders
  exm0_4:=exm0_4
  exm0_6:=exm0_6
  exm0_7:=exm0_7
  exm0_8:=exm0_8
  exm1_4:=exm1_4
  exm1_6:=exm1_6
  exm1_7:=exm1_7
  exm1_8:=exm1_8
  exm2_4:=exm2_4
  exm2_6:=exm2_6
  exm2_7:=exm2_7
  exm2_8:=exm2_8
  exm3_4:=exm3_4
  exm3_6:=exm3_6
  exm3_7:=exm3_7
  exm3_8:=exm3_8
  exm4_4:=exm4_4
  exm4_6:=exm4_6
  exm4_7:=exm4_7
  exm4_8:=exm4_8
  exm5_4:=exm5_4
  exm5_6:=exm5_6
  exm5_7:=exm5_7
  exm5_8:=exm5_8
  exm6_4:=exm6_4
  exm6_6:=exm6_6
  exm6_7:=exm6_7
  exm6_8:=exm6_8
  exm7_4:=exm7_4
  exm7_6:=exm7_6
  exm7_7:=exm7_7
  exm7_8:=exm7_8
  exm8_4:=exm8_4
  exm8_6:=exm8_6
  exm8_7:=exm8_7
  exm8_8:=exm8_8
  exm9_4:=exm9_4
  exm9_6:=exm9_6
  exm9_7:=exm9_7
  exm9_8:=exm9_8
  exm10_4:=exm10_4
  exm10_6:=exm10_6
  exm10_7:=exm10_7
  exm10_8:=exm10_8
  exm11_4:=exm11_4
  exm11_6:=exm11_6
  exm11_7:=exm11_7
  exm11_8:=exm11_8
  exm12_4:=exm12_4
  exm12_6:=exm12_6
  exm12_7:=exm12_7
  exm12_8:=exm12_8
  exm13_4:=exm13_4
  exm13_6:=exm13_6
  exm13_7:=exm13_7
  exm13_8:=exm13_8
  exm14_4:=exm14_4
  exm14_6:=exm14_6
  exm14_7:=exm14_7
  exm14_8:=exm14_8
  exm15_4:=exm15_4
  exm15_6:=exm15_6
  exm15_7:=exm15_7
  exm15_8:=exm15_8
  c_FASTEST:=⟨_,mg_of X G cc_FASTEST⟩
  c_HOTTEST:=⟨_,mg_of X G cc_HOTTEST⟩
  c_LETTERS:=⟨_,mg_of X G cc_LETTERS⟩
  c_LONGEST_NAME:=⟨_,mg_of X G cc_LONGEST_NAME⟩
  c_MOST_BATCHES:=⟨_,mg_of X G cc_MOST_BATCHES⟩
  c_MOST_BENCHES:=⟨_,mg_of X G cc_MOST_BENCHES⟩
  c_MOST_BREADS:=⟨_,mg_of X G cc_MOST_BREADS⟩
  c_MOST_HANDS:=⟨_,mg_of X G cc_MOST_HANDS⟩
  c_MOST_LOAVES:=⟨_,mg_of X G cc_MOST_LOAVES⟩
  c_MOST_ORDERS:=⟨_,mg_of X G cc_MOST_ORDERS⟩
  c_MOST_OVENS:=⟨_,mg_of X G cc_MOST_OVENS⟩
  c_MOST_ROOM:=⟨_,mg_of X G cc_MOST_ROOM⟩
  c_MOST_STAGES:=⟨_,mg_of X G cc_MOST_STAGES⟩
  c_NIGHT:=⟨_,mg_of X G cc_NIGHT⟩
  c_WANTS:=q9W (mg_of X G cc_WANTS) ct_WANTS (by show (4:Nat)<=1000000;decide) (vcS (vcS (vcS (vcS .nil)))) rfl
  n_all:=mg_none_of X G z_all
  n_bool:=mg_none_of X G z_bool
  n_enumerate:=mg_none_of X G z_enumerate
  n_int:=mg_none_of X G z_int
  n_isinstance:=mg_none_of X G z_isinstance
  n_len:=mg_none_of X G z_len
  n_max:=mg_none_of X G z_max
  n_min:=mg_none_of X G z_min
  n_range:=mg_none_of X G z_range
  n_set:=mg_none_of X G z_set
  n_sum:=mg_none_of X G z_sum
  n_tuple:=mg_none_of X G z_tuple
  n_zip:=mg_none_of X G z_zip
 }
end Lw
open PySem PySem.W PyProof.Rows
set_option maxRecDepth 100000 in
set_option maxHeartbeats 0 in
theorem PySem.Challenge.cw_doughhours_k09_whole_refused_in_turn_holds : PySem.Challenge.rw_doughhours_k09_whole_refused_in_turn.Holds := by
 w_on;refine holds_law Lw.j4M λsaid=>?_
 refine holds_open (q:=Lw.vw) (loose:=[]) (Xt:=Lw.Xv) (XP:=XL Lw.vw []) (Yf:=λs=>Lw.q4R (L3.Hd.kOf Lw.hAs s.heap)) (Ya:=λ_=>Lw.j33) (YP:=λ_ h=>L3.Hd.says Lw.q4R Lw.j33 h) (N:=17648) Lw.q7D (λw s e=>L3.Hd.says_of Lw.hAs s e) (λw h h' a b=>L3.Hd.says_keeps a b) (λs e=>xl_of s (Bool.and_eq_true_iff.mp e).1) XL.keeps (by rfl) (by rfl) (by rfl) (λs e=>recFacts_of (Bool.and_eq_true_iff.mp e).2) (by rfl) (by first | assumption | decide +kernel) (by decide +kernel) ⟨rfl,rfl,rfl,rfl,rfl,by decide +kernel⟩ ?hw ?hc
 case hw=>w_witness2
 refine L3.j5I (l:=PySem.Challenge.rw_doughhours_k09_whole_refused_in_turn) (k:=12) (x:="_law_script") (F:=Lw.j7v) rfl rfl ⟨rfl,by decide,by decide,rfl⟩ ?F Lw.law_true
 intro w mg fa h Y G hmg
 obtain ⟨K,KX,e⟩:=Y
 exact ⟨K,KX,Lw.j3g KX G hmg e⟩
